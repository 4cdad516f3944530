import PyProof.Rows.All
import Wide.All
import OpenK.AllK
import Wide.FinOn
import HandS.ForMost
import HandS.Exc
import HandS.ExcValue
import HandS.ExcField
import HandS.ExcIs
import HandS.IsInst
import HandS.Lambda
import HandS.EndTab
import HandS.Wide
import HandS.WideBits
import HandS.RaiseMore
import HandS.WordsList
import HandS.WordsExc
import HandS.ExcInit
import PyProof.Rows.SetFrom
import HandS.SetFor
import HandS.Zip
import HandS.SortInts
import PyProof.ReprRoads
import HandS.EndBits
import HandS.FStrTup
import PyProof.Rows.RegReprOcc
import HandS.Conv
import HandS.Text
import HandS.Codes
import HandS.Dict
import HandS.More
import HandS.TupLe
import HandS.Defaults
import KE.KNestM
import PySem.Challenge.RW_oneflip_k02_integers_and_lots_of_bits
set_option Elab.async false
set_option linter.all false
set_option maxRecDepth 100000
set_option maxHeartbeats 2000000
/-! Errors that are caught and kept: an exception object behind its suite. -/
namespace OB
open PySem PySem.Spec PyProof.Rows L2

section kit
open PySem.W PySem.Calls
variable {prog : Program} {w : World} {A : Around} {E : Value → Shared → Prop} {s : Shared} {K : Frag} {x D : Addr} {ox : Obj} {od : Option Obj}
theorem cls_data (hc : (clsIn K D).isSome = true) {nm : Str} {a g : Value} (ha : findIn K (.ref D) nm = some (some a)) (hg : specialIn K a "__get__" = some (some g)) (ht : takesIn K a = some true) :
    findObj K D od nm = some (.bind g a) := by
  cases e : clsIn K D with
  | none => rw [e] at hc; cases hc
  | some cd =>
    unfold findObj
    simp [e, ha, hg, ht]
/-- the class of an exception with or without a dict of its own -/
theorem exc_class {Q : Option Value → Shared → Prop} (C : ExcC K D) (X : K.In s.heap) (I : InstAt s.heap x ox D od) (k : Q (some (.ref D)) { s with toks := s.toks + 1 }) :
    wpAny (model prog w) A (getAttr? (.ref x) "__class__") Q E s := by
  have found : findObj K D od "__class__" = some (.bind (.builtin "getset_descriptor.__get__") (.builtin "object.__class__")) :=
    cls_data (by obtain ⟨cd, e, _⟩ := any_some C.hd; simp [e]) C.ha C.hn C.ht
  obtain ⟨h0, g0, d0, t0, o0⟩ := s
  have ty0 := I.type (M := model prog w)
  have own := looks_findIn (M := model prog w) X C.hg
  have gat := looks_findIn (M := model prog w) X C.hk
  have fnd := looks_find (M := model prog w) X I found
  have isE : Looks (model prog w) h0 (isInstance (.ref x) (.type "BaseException")) true := ty0.andThen (looks_subIn X C.hs)
  have q2 : (Value.builtin "BaseException.__getattribute__" == Value.builtin "object.__getattribute__") = false := by decide +kernel
  have q1 : (onTheHeap (Value.ref D) && Value.builtin "BaseException.__getattribute__" == Value.builtin "object.__getattribute__") = false := by
    rw [q2, Bool.and_false]
  unfold getAttr? getAttrBy? getAttrBy
  refine wpAny_bind (wpAny_mkText (wpAny_bind (wpAny_attempt (wpAny_holding (wpAny_bind (ty0.at (wpAny_bind (own.at ?_))))))))
  dsimp only
  rw [q1]
  unfold getAttrByItsOwn hookBefore
  simp only [Bool.false_eq_true, if_false]
  refine wpAny_bind ?_
  rw [if_pos (show onTheHeap (Value.ref D) = true from rfl)]
  refine gat.at ?_
  refine wpAny_bind (wpAny_attempt (wpAny_holding ?_))
  unfold callGetattribute
  rw [if_neg (by decide)]
  unfold boundAndCalled
  rw [PySem.F.excAttr_ValueError.ga.bind (.ref x)]
  refine wpAny_bind (wpAny_pure ?_)
  refine wpAny_call (codeAny_call_builtin PySem.F.excAttr_ValueError.ga.plain PySem.F.entry_bexc_ga ?_)
  refine @check_slot (model prog w) _ _ ⟨h0, g0, d0, t0 + 1, o0⟩ "BaseException.__getattribute__" "BaseException" "__getattribute__" (.ref x) [.str "__class__" t0] [] _ (by decide +kernel) (by decide +kernel) isE
    (PySem.F.args_bexc_ga (.ref x) (.str "__class__" t0)) ?_
  unfold Builtin.«object.__getattribute__»
  refine wpAny_bind (wpAny_of_eq (a := ((Value.ref x : Value), [Value.str "__class__" t0])) (by first | rfl | (simp only [slotArgs]; rfl)) ?_)
  refine wpAny_bind (wpAny_pure (wpAny_bind (ty0.at (wpAny_bind (fnd.at ?_)))))
  dsimp only
  refine wpAny_bind (wpAny_holding (wpAny_call (class_get (s := ⟨h0, g0, d0, t0 + 1, o0⟩) (ox := ox) (od := od) X I C.hm ?_)))
  refine wpAny_pure ?_
  show wpAny _ _ (handedOut (.ref D)) _ _ _
  rw [handedOut_of (v := .ref D) rfl]
  first
    | exact wpAny_pure (wpAny_pure k)
    | exact wpAny_pure k
    | exact wpAny_pure (wpAny_bind (wpAny_pure (wpAny_pure k)))
theorem exc_kit (C : ExcC K D) : KitX K (.ref x) (.ref D) (fun h => InstAt h x ox D od) := by
  obtain ⟨cd, hcd, _⟩ := any_some C.hd
  unfold clsIn at hcd
  split at hcd
  · rename_i c1 d1 cd1 sl1 look
    refine ⟨fun _ _ _ I => I.type, fun M h X _ A' Q' E' s' keep q => ?_, fun h tp dd its n sl X htp => ?_, fun X I k => exc_class C X I k⟩
    · unfold isType loadHead
      exact wpAny_bind (wpAny_loadPart (keep _ _ (X _ _ look)) (wpAny_pure q))
    · cases e : (Value.ref D == Value.ref tp) with
      | false => rfl
      | true =>
        have e2 : D = tp := Value.ref.inj (beq_iff_eq.mp e)
        rw [← e2] at htp
        have z := (X _ _ look).symm.trans htp
        cases z
  · cases hcd
end kit

/-- an exception object that is kept: its class, its own dict -/
def ExA (cls : Value) (d : Option Addr) (a : Addr) : HO := .ext fun h => ∃ (oe : Obj) (vs : Array Value), h.get? a = some oe ∧ Zc cls d oe ∧ oe.data = .fields vs
theorem exA_ok {P : Program} {w : World} {H : Hp} {h : Heap} {a : Addr} {cls : Value} {d : Option Addr} {oe : Obj} {vs : Array Value} (e : h.get? a = some oe) (z : Zc cls d oe) (f : oe.data = .fields vs) : ObjOk P w H h a (ExA cls d a) :=
  ⟨⟨oe, vs, e, z, f⟩, ⟨oe, e⟩, fun _ _ ⟨o, v, q, r⟩ k => ⟨o, v, k o q, r⟩⟩
theorem exA_at {P : Program} {w : World} {H : Hp} {h : Heap} {a : Addr} {cls : Value} {d : Option Addr} (ok : HOk P w H h) (e : H a = some (ExA cls d a)) : ∃ (oe : Obj) (vs : Array Value), h.get? a = some oe ∧ Zc cls d oe ∧ oe.data = .fields vs := by
  have z : ObjOk P w H h a (ExA cls d a) := ok a _ e
  exact z.1

section
variable {X : Cx} {pins : List (Addr × Obj)} {σ : L2.St} {H : Hp} {s : Shared}
/-- an object that came behind the entry is tracked from now on -/
theorem track {a : Addr} {o : HO} (I : Inv X pins σ H s) (hn : H a = none) (h0 : X.s_0.heap.get? a = none) (nL : a ≠ X.env.locals) (nC : ∀ x c, X.env.cells.lookup x = some c → c ≠ a)
    (nP : ∀ p ∈ X.pn ++ pins, p.1 ≠ a) (new : ObjOk X.prog X.w (upd H a o) s.heap a o) : Inv X pins σ (upd H a o) s := by
  have ne : ∀ {b u}, X.s_0.heap.get? b = some u → b ≠ a := fun {b u} e z => by
    rw [z, h0] at e
    cases e
  refine ⟨I.ok, I.os, I.bare, ⟨I.base.keep, I.base.slot, fun b u e n hx => ?_, I.base.there, fun b xs e => ?_, fun b u v e => ?_, fun b ps e => ?_⟩, I.loc, I.cell, ?_, fun x c e => ?_, fun p hp => ?_, ?_, I.len⟩
  · rw [upd_ne (ne e)]
    exact I.base.free b u e n hx
  · have q := I.base.tups b xs e
    rw [upd_ne (ne_of_none q hn)]
    exact q
  · have q := I.base.frzs b u v e
    rw [upd_ne (ne_of_none q hn)]
    exact q
  · obtain ⟨m, q⟩ := I.base.tbls b ps e
    exact ⟨m, by rw [upd_ne (ne_of_none q hn)]; exact q⟩
  · rw [upd_ne (Ne.symm nL)]
    exact I.free
  · rw [upd_ne (nC x c e)]
    exact I.freeC x c e
  · obtain ⟨e, n, r1, r2, r3⟩ := I.pin p hp
    exact ⟨e, by rw [upd_ne (nP p hp)]; exact n, r1, r2, r3⟩
  · exact I.hok.laidN (fun _ _ e => e) hn new
end

/-- what 'except x as n: kept = n' wishes: behind it slot j holds the exception, which is tracked -/
def wKeep (K : PySem.W.Frag) (c : Value) (i j : Nat) (Wout : WX) (D : Ends) : WX := fun cls d σ H =>
  ∃ b, PySem.W.exmOne K cls c = some b ∧
    (b = true → ∀ a, H a = none → D.nx (((σ.set i (some (.ref a))).set j (some (.ref a))).set i none) (upd H a (ExA cls d a))) ∧ (b = false → Wout cls d σ H)

section
variable {X : Cx} {x n m : Str} {c : Value} {i j : Nat} {body : List Stmt} {np pos pos' p1 p2 p3 : Pos} {tb : WX → TS} {Wout : WX}
theorem ps_try_keep (hs : X.stack = X.env :: X.outer) (hf : X.env.frame = some X.env.locals) (hx : X.ex = []) (hN : X.N.Nodup) (hi : X.N[i]? = some n) (hln : X.env.kindOf n = some .local)
    (hj : X.N[j]? = some m) (hlm : X.env.scope.names.lookup m = some .local) (hc : Names X x c) (tk : Takes X Wout)
    (hb : ∀ (W : WX) (pn : List (Addr × Obj)) (xe : Value → Shared → Prop), Takes (X.tr pn xe) W → PassesOwn (model X.prog X.w) X.A X.env xe → PSs (X.tr pn xe) body (tb W))
    (hdn : (n == ("__debug__" : Str)) = false := by decide) (hcn : (n == ("__classdict__" : Str)) = false := by decide)
    (hsw : ∀ env : Env, swapsWith (.Name n p2) (some (.Name m p1)) p3.line env = pure false := by intro _; rfl) :
    PS X (.Try body [.ExceptHandler (some (.Name x np)) (some n) [.Assign [.Name m p1] (.Name n p2) p3] pos'] [] [] pos) (fun D σ H => tb (wKeep X.K c i j Wout D) D σ H) := by
  refine ⟨fun pins s σ H D I h => ?_⟩
  have okX := I.ok
  have frames : X.A.frames = some (X.env :: X.outer) := by rw [okX.frames, hs]
  have lj : Loc X.env.scope m := .inl hlm
  refine wpAny_Try_except ?_
  have run := (hb (wKeep X.K c i j Wout D) (X.pn ++ pins) (fun e s₁ => wpAny (model X.prog X.w) X.A (noteFrame e X.env)
    (fun _ s₂ => wpAny (model X.prog X.w) X.A (setFlight e none)
      (fun _ s₃ => wpAny (model X.prog X.w) X.A (handleBy e X.env [.ExceptHandler (some (.Name x np)) (some n) [.Assign [.Name m p1] (.Name n p2) p3] pos']) (SP X pins D) X.xe s₃) X.xe s₂) X.xe s₁)
    (fun u s' air => ?_) PassesOwn.looking).run [] s σ H D (I.toTry _) h
  · refine wpAny_mono run (fun f s1 end1 => ?_) (fun _ _ z => z)
    cases f with
    | next =>
      obtain ⟨σ1, H1, J1, q⟩ := end1
      exact wpAny_execs_nil ⟨σ1, H1, J1.ofTry okX, q⟩
    | ret u =>
      obtain ⟨v, σ1, H1, J1, r, q⟩ := end1
      exact ⟨v, σ1, H1, J1.ofTry okX, r, q⟩
    | brk =>
      obtain ⟨σ1, H1, J1, q⟩ := end1
      exact ⟨σ1, H1, J1.ofTry okX, q⟩
    | cont =>
      obtain ⟨σ1, H1, J1, q⟩ := end1
      exact ⟨σ1, H1, J1.ofTry okX, q⟩
  · obtain ⟨a, B, sI, pins1, σ1, H1, cls, d, rfl, J0, ground, up0, sky, na, os1, bare1, b, hb1, yes, no⟩ := air
    have J : Inv X pins σ1 H1 sI := J0.ofTry okX
    have skyX : Sky B (X.env :: X.outer) a (Zc cls d) X.env.locals s'.heap := by
      rw [← hs]
      exact sky
    have Ba : B.get? a = none := by
      rcases skyX with ⟨_, z, _⟩ | ⟨_, z, _⟩ | ⟨_, z, _⟩ <;> exact z
    show wpAny (model X.prog X.w) X.A (noteFrame (.ref a) X.env) _ _ _
    refine Sky.land Zc.steady frames hf skyX fun h3 fl3 up3 => ?_
    have J3 : Inv X pins σ1 H1 { s' with heap := h3 } := J.landed ground fl3.1 (up0.trans up3) os1 bare1
    obtain ⟨oe3, vs3, he3, hz3, hd3⟩ := fl3.there
    have off : a ∉ frs (X.env :: X.outer) := fun hm => by
      obtain ⟨_, o', e', hnf⟩ := fl3.2.2.1.mem hm
      rw [he3] at e'
      cases e'
      exact hnf _ hd3
    have sIa : sI.heap.get? a = none := by
      cases e : sI.heap.get? a with
      | none => rfl
      | some o =>
        have z := ground a o e (by rw [hs]; exact off)
        rw [Ba] at z
        cases z
    have s0a : X.s_0.heap.get? a = none := by
      cases e : X.s_0.heap.get? a with
      | none => rfl
      | some o =>
        obtain ⟨o', z⟩ := J.base.there a o e (by rw [hx]; exact fun z => nomatch z)
        rw [sIa] at z
        cases z
    have nL : a ≠ X.env.locals := fun z => off (List.mem_filterMap.mpr ⟨X.env, List.mem_cons_self, by rw [hf, z]⟩)
    have nF : a ∉ X.fs := fun hm => by
      obtain ⟨e, he, q⟩ := List.mem_filterMap.mp hm
      exact off (List.mem_filterMap.mpr ⟨e, List.mem_cons_of_mem _ he, q⟩)
    have nC : ∀ y k, X.env.cells.lookup y = some k → k ≠ a := fun y k e z => by
      obtain ⟨v, o, ho, _⟩ := J.cell y k e
      rw [z, sIa] at ho
      cases ho
    have nP : ∀ p ∈ X.pn ++ pins, p.1 ≠ a := fun p hp z => by
      have q := (J.pin p hp).1
      rw [z, sIa] at q
      cases q
    have S3 := J3.suite he3 hd3 na nL nF
    refine wpAny_handleBy_cons (codeAny_handlers_test ?_) (by intro q; cases q)
    have LT : PySem.W.Looks (model X.prog X.w) h3 (typeOf (.ref a)) cls := fun A Q E s k q => wpAny_typeOf_ref (k _ _ he3) (by rw [hz3.1]; exact q)
    have LM := PySem.W.exm_one (M := model X.prog X.w) (J3.kIn) LT hb1
    have named : ∀ {Q : Value → Shared → Prop} {E : Value → Shared → Prop}, Q c { s' with heap := h3 } →
        wpAny (model X.prog X.w) (X.A.mark (some (.ref a))) (eval (.Name x np) X.env) Q E { s' with heap := h3 } := fun {Q E} q => by
      obtain ⟨hg, hdbg, hm | ⟨hm, hv, hnn⟩⟩ := hc
      · exact ld_glob (X := X.suite a ((a, oe3) :: (X.pn ++ pins))) S3 hg hm q hdbg
      · exact ld_blt (X := X.suite a ((a, oe3) :: (X.pn ++ pins))) S3 hg hm hv q hnn hdbg
    refine named (LM.here ?_)
    cases b with
    | true =>
      refine codeAny_handlers_suite_as ?_
      refine HandSPX.lands_againZ fl3 fun h4 fl4 up4 => ?_
      have J4 : Inv X pins σ1 H1 { s' with heap := h4 } := J.landed ground fl4.1 ((up0.trans up3).trans up4) os1 bare1
      obtain ⟨oe4, vs4, he4, hz4, hd4⟩ := fl4.there
      have S4 := J4.suite he4 hd4 na nL nF
      refine store_ok (X := X.suite a ((a, oe4) :: (X.pn ++ pins))) (v := .ref a) S4 hN hi (.inl hln) rfl (fun s5 S5 => ?_) (.inr hln)
      have hiσ : i < σ1.length := by
        rw [J.len]
        exact (List.getElem?_eq_some_iff.mp hi).1
      have kept := pss_one (ps_set (X := X.suite a ((a, oe4) :: (X.pn ++ pins))) (pos := p3) (pos' := p1) hN hj lj (pe_var (X := X.suite a ((a, oe4) :: (X.pn ++ pins))) (pos := p2) hi (.inl hln) hdn hcn) (hsw _) (.inr hlm))
      refine wpAny_mono (kept.run [] s5 _ H1 { nx := fun σ' H' => H' = H1 ∧ σ' = (σ1.set i (some (.ref a))).set j (some (.ref a)), rt := fun _ _ => False, bk := fun _ _ => False, ct := fun _ _ => False } S5
        ⟨.ref a, by rw [List.getElem?_set_self hiσ], rfl, rfl⟩) (fun f s6 end6 => ?_) (fun _ _ z => False.elim z)
      cases f with
      | next =>
        obtain ⟨σ6, H6, S6, e6, e7⟩ := end6
        subst e6 e7
        have at6 := (S6.pin (a, oe4) (List.mem_append_left _ List.mem_cons_self)).1
        have J6 : Inv X pins _ H6 s6 := S6.unsuite okX
        have J7 := track (o := ExA cls d a) J6 na s0a nL nC nP (exA_ok at6 hz4 hd4)
        exact gone_ok J7 hN hi hln fun s8 J8 => ⟨_, _, J8, yes rfl a na⟩
      | ret u =>
        obtain ⟨_, _, _, _, _, z⟩ := end6
        exact z.elim
      | brk =>
        obtain ⟨_, _, _, z⟩ := end6
        exact z.elim
      | cont =>
        obtain ⟨_, _, _, z⟩ := end6
        exact z.elim
    | false =>
      show wpAny _ X.A (handleBy (.ref a) X.env []) _ _ _
      refine wpAny_handleBy_nil ?_
      obtain ⟨k1, k2, k3, oe, vs, T, oT, ts', he, hz, hd, h1, hr⟩ := id fl3
      unfold PySem.passOn
      refine wpAny_bind (wpAny_field he hd h1 ?_)
      rw [if_neg (by simp)]
      have out : wpAny (model X.prog X.w) X.A (setFlight (.ref a) X.env.frame) (fun _ s4 => wpAny (model X.prog X.w) X.A (throw (.ref a) : Sem Flow) (SP X pins D) X.xe s4) X.xe { s' with heap := h3 } := by
        rw [hf]
        refine HandSPX.setFlight_upZ fl3 fun h4 hh4 up4 => wpAny_throw (tk _ _ ?_)
        exact ⟨a, B, sI, pins, σ1, H1, cls, d, rfl, J, ground, (up0.trans up3).trans up4, .inr (.inr (by rw [hs]; exact hh4)), na, os1, bare1, no rfl⟩
      first
        | exact wpAny_bind (wpAny_pure (wpAny_bind out))
        | exact wpAny_bind out
end

/-- isinstance(e, c), e an exception that is kept -/
def rIsX (K : PySem.W.Frag) : List V → Hp → VK → Prop := fun xs H Q => ∃ (a D : Addr) (d : Option Addr) (c : V) (u : Value) (b : Bool), xs = [.ref a, c] ∧ ExcC K D ∧ H a = some (ExA (.ref D) d a) ∧ (∀ dd, d = some dd → ∃ fs, H dd = some (.xd fs)) ∧ ClsV c u ∧ PySem.W.kitOne K (.ref D) u = some b ∧ Q (.bl b) H
theorem inst_at {X : Cx} {pins : List (Addr × Obj)} {σ : L2.St} {H : Hp} {s : Shared} {a D : Addr} {d : Option Addr} (I : Inv X pins σ H s) (ha : H a = some (ExA (.ref D) d a)) (hd : ∀ dd, d = some dd → ∃ fs, H dd = some (.xd fs)) :
    ∃ oe od, PySem.W.InstAt s.heap a oe D od := by
  obtain ⟨oe, vs, e, ⟨z1, z2⟩, f⟩ := exA_at I.hok ha
  obtain ⟨oc, odd, oda, osl⟩ := oe
  dsimp only at z1 z2 f
  subst z1 z2 f
  cases odd with
  | none => exact ⟨_, none, e, rfl, rfl, trivial⟩
  | some dd =>
    obtain ⟨fs, hfs⟩ := hd dd rfl
    obtain ⟨mA, hns, _⟩ := (show ObjOk X.prog X.w H s.heap dd (.xd fs) from I.hok dd _ hfs)
    obtain ⟨od, ho, _⟩ := lookIn_ns hns
    exact ⟨_, some od, e, rfl, rfl, ho⟩
theorem call_isX {X : Cx} : CallR X (.builtin "isinstance") (rIsX X.K) := by
  intro pins s σ H xs us Q I r h
  obtain ⟨a, D, d, c, u, b, rfl, C, ha, hd, hc, e, q⟩ := h
  obtain ⟨u1, u2, rfl, r1, r2⟩ := vals2 r
  have e2 := hc.eq r2
  subst e2
  obtain rfl : u1 = Value.ref a := r1
  obtain ⟨oe, od, J⟩ := inst_at I ha hd
  exact PySem.W.kia_one (exc_kit C) I.kIn J e (fun z => nomatch z) fun tk => ⟨.bl b, H, I.tok tk, rfl, q⟩
theorem call_or {X : Cx} {f : Value} {r1 r2 : List V → Hp → VK → Prop} (h1 : CallR X f r1) (h2 : CallR X f r2) : CallR X f (fun xs H Q => r1 xs H Q ∨ r2 xs H Q) := by
  intro pins s σ H xs us Q I r h
  rcases h with h | h
  · exact h1 pins s σ H xs us Q I r h
  · exact h2 pins s σ H xs us Q I r h
/-- e.f of an exception that is kept -/
def tXa (K : PySem.W.Frag) (f : Str) (te : TE) : TE := fun σ H Q => te σ H fun x H1 => ∃ (a D dd : Addr) (fs : List (Str × V)) (v : V), x = .ref a ∧ XfC K D ∧ PySem.W.findIn K (.ref D) f = some none ∧ H1 a = some (ExA (.ref D) (some dd) a) ∧ H1 dd = some (.xd fs) ∧ fs.lookup f = some v ∧ Q v H1
theorem pe_xa {X : Cx} {e : Expr} {te : TE} {pos : Pos} {n : Str} (he : PE X e te) (hb : attributeBase e n X.env (eval e X.env) = eval e X.env := by rfl) : PE X (.Attribute e n pos) (tXa X.K n te) := by
  refine ⟨fun pins s σ H Q I h => ?_⟩
  refine attr_of hb (thn (he.run pins s σ H _ I h) fun u s1 got => ?_)
  obtain ⟨y, H1, I1, ry, a, D, dd, fs, v, rfl, T, hno, ha, hdd, hl, q⟩ := got
  obtain rfl : u = Value.ref a := ry
  obtain ⟨oe, vs, eo, ⟨z1, z2⟩, hd⟩ := exA_at I1.hok ha
  obtain ⟨mA, hns, hr⟩ := (show ObjOk X.prog X.w H1 s1.heap dd (.xd fs) from I1.hok dd _ hdd)
  obtain ⟨od, ho, lk⟩ := lookIn_ns hns
  obtain ⟨u, hu, ru⟩ := RelO.some_of (v := v) (o := mA n) (by rw [← hl]; exact hr n)
  have J : PySem.W.InstAt s1.heap a oe D (some od) := ⟨eo, z1, by unfold PySem.W.notCls; rw [hd] <;> rfl, by rw [z2]; exact ho⟩
  exact HandSPX.exc_get I1.kIn J T.ga T.gg T.exC (PySem.W.findObj_own T.hdC hno rfl (by rw [lk, hu])) (handed_of ru) ⟨v, H1, I1.tok _, ru, q⟩
end OB
/-! Lambdas handed to a def: with no parameter, or with one that has a written int as its default. -/
namespace OB
open PySem PySem.Spec PyProof.Rows L2 LamX

section kit
open PySem.W PySem.Calls
abbrev lFn (qual : Str) (params : Arguments) (body : Expr) (scope : Scope) (cl : List (Str × Addr)) (dV pm cdv ct : Value) : FuncData :=
  { name := "<lambda>", qualname := qual, params := params, body := .expr body, scope := scope, globals := mainGlobals, closure := cl, defaults := dV, kwdefaults := .none, doc := .none, pyModule := pm, annotations := none, code := cdv, closureTuple := ct, builtins := builtinsNs }
abbrev lObj (qual : Str) (params : Arguments) (body : Expr) (scope : Scope) (cl : List (Str × Addr)) (dV pm cdv ct : Value) : Obj :=
  { cls := .type "function", data := .func (lFn qual params body scope cl dV pm cdv ct) }
variable {M : Model} {A : Around} {E : Value → Shared → Prop} {s : Shared} {qual : Str} {params : Arguments} {body : Expr} {scope : Scope} {env : Env} {c P : Addr} {ps : Array Value} {pos : Pos} {firstLine : Nat} {mg : Str → Option Value}
  {clos : List (Str × Addr)} {Q : Value → Shared → Prop} {dV : Value}
/-- a lambda's object is made: the code object comes by hcode1 -/
theorem tail_by (hcl : closureFor scope env = pure clos) (hge0 : env.globals = mainGlobals) (hg : s.heap.Ns mainGlobals mg) (hgP : mainGlobals ≠ P) (hb : s.heap.BuiltinsAt mg P)
    {G : Value → Heap → Heap → Prop}
    (hG : ∀ cv h1 h2, G cv h1 h2 → Heap.ExtBut P h1 h2 ∧ h1.objs.size ≤ h2.objs.size)
    (code : ∀ (h1 : Heap) (tk1 : Tok) (Q1 : Value → Shared → Prop), (∀ b o, s.heap.get? b = some o → h1.get? b = some o) → s.heap.objs.size ≤ h1.objs.size →
      (∀ cv h2 tk, G cv h1 h2 → Q1 cv { s with heap := h2, toks := tk }) → wpAny M A (functionCode env pos firstLine "<lambda>" qual params scope (.expr body)) Q1 E { s with heap := h1, toks := tk1 })
    (h : ∀ cv ctv h1 h2 tk, (∀ b o, s.heap.get? b = some o → h1.get? b = some o) → s.heap.objs.size ≤ h1.objs.size → G cv h1 h2 →
      Q (.ref h2.objs.size) { s with heap := h2.push (lObj qual params body scope clos dV ((mg "__name__").getD .none) cv ctv), toks := tk }) :
    wpAny M A (makeTail "<lambda>" qual params (.expr body) scope env dV .none none pos firstLine) Q E s := by
  obtain ⟨bm, ob, hbm, hne0, _, hneP, hbo, hcls, hdict, hdata⟩ := hb
  have go : ∀ (ctv : Value) (h1 : Heap) (tk1 : Tok), (∀ b o, s.heap.get? b = some o → h1.get? b = some o) → s.heap.objs.size ≤ h1.objs.size →
      wpAny M A (functionCode env pos firstLine "<lambda>" qual params scope (.expr body) >>= fun cv => builtinsFor mainGlobals env.builtins >>= fun bi => nsGet mainGlobals "__name__" >>= fun nm => pure Value.none >>= fun doc =>
        newObj (.type "function") (.func { name := "<lambda>", qualname := qual, params := params, body := .expr body, scope := scope, globals := mainGlobals, closure := clos, closureTuple := ctv, code := cv, builtins := bi, defaults := dV, kwdefaults := .none, annotations := none, pyModule := nm.getD .none, doc := doc })) Q E { s with heap := h1, toks := tk1 } := by
    intro ctv h1 tk1 k1 z1
    refine wpAny_bind (code h1 tk1 _ k1 z1 fun cv h2 tk g => ?_)
    obtain ⟨x2, z2⟩ := hG cv h1 h2 g
    have hg2 := (hg.keeps k1).extBut x2 hgP
    refine wpAny_bind (wpAny_builtinsFor hg2 hbm hne0 (x2 _ _ hneP (k1 _ _ hbo)) hcls hdict hdata ?_)
    refine wpAny_bind (wpAny_nsGet hg2 ?_)
    exact wpAny_bind (wpAny_pure (wpAny_newObj_type (h cv ctv h1 h2 tk k1 z1 g) (by size_fits)))
  unfold makeTail
  rw [hcl, hge0]
  refine wpAny_bind (wpAny_pure ?_)
  cases clos with
  | nil => exact wpAny_bind (wpAny_pure (go .none s.heap s.toks (fun _ _ e => e) (Nat.le_refl _)))
  | cons q r =>
    refine wpAny_bind (wpAny_newTextTuple ?_)
    exact go _ _ s.toks (fun b o e => Heap.get?_push_of_some _ e) (by rw [Heap.size_push]; omega)
end kit

section
variable {X : Cx} {pins : List (Addr × Obj)} {σ : L2.St} {H : Hp} {s : Shared}
/-- what stands of a lambda's defaults: none, or a tuple of ints that nobody tracks -/
def DflAt (h : Heap) (H : Hp) (fs : List Addr) (dV : Value) : List Value → Prop
  | [] => dV = .none
  | ds => ∃ (T : Addr) (o : Obj) (n : Nat), dV = .ref T ∧ h.get? T = some o ∧ o.data = .seq ds.toArray n ∧ H T = none ∧ T ∉ fs
/-- a lambda is made from makeTail on -/
theorem lam_tail {T : List (Addr × Str)} {c P : Addr} {params : Arguments} {body : Expr} {scope : Scope} {pos : Pos} {dV : Value} {ds : List Value} {E : Value → Shared → Prop} {Q : Value → Shared → Prop} (I : Inv X pins σ H s) (TB : TabB X.base X.mg c P) (hcode : X.env.code = .ref c)
    (hm : (P, X.env.qual ++ "<lambda>") ∈ T) (hu : ∀ p ∈ T, p.1 = P → p.2 = X.env.qual ++ "<lambda>") (hT : Tabs T H) (hfree : ∀ y ∈ scope.names, y.2 = .free → ∃ c, X.env.cells.lookup y.1 = some c)
    (hd : DflAt s.heap H (X.env.locals :: X.fs) dV ds)
    (h : ∀ (f c' : Addr) (pm ctv : Value) (H1 : Hp) (s' : Shared), Inv X pins σ H1 s' → ExtN H H1 → Tabs T H1 → DflAt s'.heap H1 (X.env.locals :: X.fs) dV ds →
      s'.heap.get? f = some (lObj (X.env.qual ++ "<lambda>") params body scope (cloFrom X.env.cells scope.names []) dV pm (.ref c') ctv) → H1 f = none → f ≠ X.env.locals → f ∉ X.fs → H1 c' = some (CodeO c' (X.env.qual ++ "<lambda>")) → Q (.ref f) s') :
    wpAny (model X.prog X.w) X.A (makeTail "<lambda>" (X.env.qual ++ "<lambda>") params (.expr body) scope X.env dV .none none pos pos.line) Q E s := by
  obtain ⟨ps, hP, ht, ha⟩ := hT _ hm
  have bP : s.heap.BuiltinsAt X.mg P := TB.bm.keeps I.bk
  have hP' : s.heap.get? P = some { cls := .none, data := .fields ps } := I.hok P _ hP
  have nLoc : ∀ f, s.heap.objs.size ≤ f → f ≠ X.env.locals := fun f hf z => by
    have h1 := I.lt
    rw [← z] at h1
    exact Nat.lt_irrefl _ (Nat.lt_of_lt_of_le h1 hf)
  have CH := TB.code.keeps I.bk
  have later : ∀ {h1 : Heap} {H1 : Hp}, (∀ b o, s.heap.get? b = some o → H b = none → b ≠ P → h1.get? b = some o) → (∀ b o, s.heap.get? b = some o → H b = none → H1 b = none) → DflAt h1 H1 (X.env.locals :: X.fs) dV ds := fun {h1 H1} k1 k2 => by
    cases ds with
    | nil => exact hd
    | cons d r =>
      obtain ⟨Td, o, n, e1, e2, e3, e4, e5⟩ := hd
      refine ⟨Td, o, n, e1, k1 _ _ e2 e4 (fun z => ?_), e3, k2 _ _ e2 e4, e5⟩
      rw [z, hP] at e4
      cases e4
  cases hc : codeAmong pos ps.toList with
  | none =>
    refine tail_by (mg := X.mg) (P := P) (closure_ok hfree) I.ok.glob (I.mod.glob.keeps I.bk) TB.gP bP
      (G := fun cv h1 h2 => ∃ c', cv = .ref c' ∧ Heap.ExtBut P h1 h2 ∧ h1.objs.size ≤ c' ∧ c' < h2.objs.size ∧ h2.CodeRec (.ref c') (X.env.qual ++ "<lambda>") ∧ h2.get? P = some (PySem.W.tabObj (ps ++ #[rawInt pos.line, rawInt pos.col, .ref c'])))
      (fun cv h1 h2 ⟨c', _, x, l1, l2, _⟩ => ⟨x, Nat.le_trans l1 (Nat.le_of_lt l2)⟩) (fun h1 tk1 Q1 k1 z1 q1 => ?_) (fun cv ctv h1 h2 tk k1 z1 g => ?_)
    · exact wpAny_functionCodeX hcode ((CH.keeps k1).code (k1 _ _ hP') ht) ((CH.keeps k1).tab (k1 _ _ hP')) hc fun c' h2 tk hx hge hlt _ hrec htb _ => q1 (.ref c') h2 tk ⟨c', rfl, hx, hge, hlt, hrec, htb.2⟩
    · obtain ⟨c', rfl, hx, hge, hlt, hrec, htb⟩ := g
      obtain ⟨c2, oc, vs, t, e2, hoc, hdc, hv⟩ := hrec
      cases e2
      have hge' : s.heap.objs.size ≤ c' := Nat.le_trans z1 hge
      have hsz : s.heap.objs.size ≤ h2.objs.size := Nat.le_trans hge' (Nat.le_of_lt hlt)
      have nC : H c' = none := I.hok.fresh hge'
      have I1 := inv_table (t' := tk) (more := #[rawInt pos.line, rawInt pos.col, .ref c']) (h' := h2.push (lObj (X.env.qual ++ "<lambda>") params body scope (cloFrom X.env.cells scope.names []) dV ((X.mg "__name__").getD .none) (.ref c') ctv)) I hP
        (fun b o hb e => Heap.get?_push_of_some _ (hx b o hb (k1 _ _ e))) (Heap.get?_push_of_some _ htb) hge' ⟨oc, vs, t, Heap.get?_push_of_some _ hoc, hdc, hv⟩
      have hE : ExtN H (upd (upd H P (.tbl (ps ++ #[rawInt pos.line, rawInt pos.col, .ref c']))) c' (CodeO c' (X.env.qual ++ "<lambda>"))) := fun b o e n => by
        rw [upd_ne (ne_of_none e nC), upd_ne (fun z => n ps (Option.some.inj (e.symm.trans (by rw [z]; exact hP))))]
        exact e
      have eL : (ps ++ #[rawInt pos.line, rawInt pos.col, .ref c']).toList = ps.toList ++ [rawInt pos.line, rawInt pos.col, .ref c'] := by simp
      refine h h2.objs.size c' _ ctv _ _ I1 hE (fun p hp => ?_) (later (fun b o e n hb => Heap.get?_push_of_some _ (hx b o hb (k1 _ _ e))) fun b o e n => ?_) (Heap.get?_push_size _ rfl) ?_ (nLoc _ hsz) (I.nofs hsz) upd_same
      · by_cases hb : p.1 = P
        · rw [hu p hp hb, hb]
          refine ⟨_, by rw [upd_ne (ne_of_none hP nC), upd_same], by rw [eL]; exact PySem.TriplesOk_snoc _ _ _ _ ht, fun p' cv hcv => ?_⟩
          rw [eL] at hcv
          rcases among_app _ ht hcv with z | z
          · obtain ⟨c0, e1, e2⟩ := ha p' cv z
            exact ⟨c0, e1, hE _ _ e2 codeO_ne⟩
          · exact ⟨c', z, upd_same⟩
        · obtain ⟨ps', a1, a2, a3⟩ := hT p hp
          refine ⟨ps', by rw [upd_ne (ne_of_none a1 nC), upd_ne hb]; exact a1, a2, fun p' cv hcv => ?_⟩
          obtain ⟨c0, e1, e2⟩ := a3 p' cv hcv
          exact ⟨c0, e1, hE _ _ e2 codeO_ne⟩
      · rw [upd_ne (Nat.ne_of_lt (Nat.lt_of_lt_of_le (Heap.lt_size e) hge')), upd_ne (fun z => by rw [z, hP] at n; cases n)]
        exact n
      · rw [upd_ne (Nat.ne_of_gt hlt), upd_ne (Nat.ne_of_gt (Nat.lt_of_lt_of_le (Heap.lt_size hP') hsz))]
        exact I.hok.fresh hsz
  | some cv0 =>
    obtain ⟨c', e, hco⟩ := ha pos cv0 hc
    subst e
    refine tail_by (mg := X.mg) (P := P) (closure_ok hfree) I.ok.glob (I.mod.glob.keeps I.bk) TB.gP bP
      (G := fun cv h1 h2 => cv = .ref c' ∧ h2 = h1) (fun cv h1 h2 ⟨_, e⟩ => by rw [e]; exact ⟨fun _ _ _ e => e, Nat.le_refl _⟩) (fun h1 tk1 Q1 k1 z1 q1 => ?_) (fun cv ctv h1 h2 tk k1 z1 g => ?_)
    · exact wpAny_functionCode_hit hcode ((CH.keeps k1).code (k1 _ _ hP') ht) hc (q1 (.ref c') h1 tk1 ⟨rfl, rfl⟩)
    · obtain ⟨rfl, rfl⟩ := g
      have kk : ∀ b o, s.heap.get? b = some o → (h2.push (lObj (X.env.qual ++ "<lambda>") params body scope (cloFrom X.env.cells scope.names []) dV ((X.mg "__name__").getD .none) (.ref c') ctv)).get? b = some o := fun b o e => Heap.get?_push_of_some _ (k1 _ _ e)
      exact h h2.objs.size c' _ ctv H _ (I.kept (t' := tk) kk) (ExtN.refl H) hT (later (fun b o e _ _ => kk b o e) fun _ _ _ n => n) (Heap.get?_push_size _ rfl) (I.hok.fresh z1) (nLoc _ z1) (I.nofs z1) hco
end
end OB
namespace OB
open PySem PySem.Spec PyProof.Rows L2 LamX

/-- a lambda's names: captured ones, globals, and its parameters nm, which are no names of the def around -/
structure LamN (sc scope : Scope) (N nm : List Str) : Prop where
  kind : scope.kind = .function
  co : scope.isCoroutine = false
  gen : scope.isGenerator = false
  own : ∀ y ∈ scope.names, y.2 ≠ .cell ∧ (y.2 = .local → y.1 ∉ N)
  par : ∀ x ∈ nm, scope.names.lookup x = some .local
  free : ∀ y ∈ scope.names, y.2 = .free → sc.names.lookup y.1 = some .cell ∨ sc.names.lookup y.1 = some .free
def lamNB (sc scope : Scope) (N nm : List Str) : Bool :=
  decide (scope.kind = .function) && !scope.isCoroutine && !scope.isGenerator &&
    (scope.names.all fun y => !decide (y.2 = .cell) && (!decide (y.2 = .local) || decide (y.1 ∉ N)) && (!decide (y.2 = .free) || decide (sc.names.lookup y.1 = some .cell) || decide (sc.names.lookup y.1 = some .free))) &&
    nm.all fun x => decide (scope.names.lookup x = some .local)
theorem lamN_by {sc scope : Scope} {N nm : List Str} (h : lamNB sc scope N nm = true) : LamN sc scope N nm := by
  unfold lamNB at h
  simp only [Bool.and_eq_true, Bool.or_eq_true, Bool.not_eq_true', decide_eq_true_eq, decide_eq_false_iff_not, List.all_eq_true] at h
  obtain ⟨⟨⟨⟨h1, h2⟩, h3⟩, h4⟩, h5⟩ := h
  refine ⟨h1, h2, h3, fun y hy => ⟨(h4 y hy).1.1, fun e => ?_⟩, fun x hx => h5 x hx, fun y hy e => ?_⟩
  · rcases (h4 y hy).1.2 with z | z
    · exact absurd e z
    · exact z
  · rcases (h4 y hy).2 with (z | z) | z
    · exact absurd e z
    · exact .inl z
    · exact .inr z
theorem LamN.has {X : Cx} {scope : Scope} {N nm : List Str} (L : LamN X.env.scope scope N nm) (ok : X.Ok) : ∀ y ∈ scope.names, y.2 = .free → ∃ c, X.env.cells.lookup y.1 = some c := fun y hy e => by
  rcases L.free y hy e with k | k
  · exact ok.has _ (.inl k)
  · exact ok.has _ (.inr k)
section
variable {X : Cx} {pins : List (Addr × Obj)} {σ : L2.St} {H HZ : Hp} {s s1 : Shared}
theorem lam_start {A : Around} {outer : List Env} {E : XK} {scope : Scope} {f c' : Addr} {h₁ : Heap} {tk : Nat} {nm : List Str} {m1 : Str → Option Value} (I : Inv X pins σ H s) (L : LamN X.env.scope scope X.N nm) (e0 : Env0 X.prog X.w X.K X.mg X.base A outer s1 HZ) (hd : A.handled = none)
    (un : Un (frs X.stack) [] H HZ s.heap s1.heap) (hns : h₁.Ns s1.heap.objs.size m1) (kp : ∀ b o, s1.heap.get? b = some o → h₁.get? b = some o) :
    Inv (lamCx X A outer s1 HZ E scope f c') [] σ HZ { s1 with heap := h₁, toks := tk } := by
  have hfree := L.has I.ok
  have up : ∀ {y c}, (cloFrom X.env.cells scope.names []).lookup y = some c → X.env.cells.lookup y = some c := fun {y c} e => by
    rcases cloFrom_mem (PySem.mem_of_lookup e) with hm | ⟨h1, h2⟩
    · cases hm
    · obtain ⟨c1, hc⟩ := hfree _ h1 rfl
      have hc : X.env.cells.lookup y = some c1 := hc
      rw [hc] at h2
      have h3 : c = c1 := h2
      rw [h3]
      exact hc
  have down : ∀ {y}, scope.names.lookup y = some .free → ∃ c, (cloFrom X.env.cells scope.names []).lookup y = some c := fun {y} hl =>
    mem_lookup (cloFrom_has (cells := X.env.cells) (acc := []) (PySem.mem_of_lookup hl))
  have cellK : ∀ {c : Addr} {v : Option Value}, H c = none → s.heap.IsCell c v → h₁.IsCell c v := fun {c v} n ⟨o, ho, hd⟩ => by
    obtain ⟨sl, q⟩ := un.any ho n (by simp)
    exact ⟨_, kp _ _ q, hd⟩
  have noX : ∀ b : Addr, b ∉ (lamCx X A outer s1 HZ E scope f c').ex := fun b z => absurd (show b ∈ ([] : List Addr) from z) (by simp)
  refine ⟨⟨e0.mod, L.kind, rfl, rfl, Nat.le_refl _, fun y z c e1 e2 => I.ok.inj y z c (up e1) (up e2), fun y hy => ?_, fun y c z _ => ?_, fun _ => hd, Around.frames_deeper e0.frames, .inr ⟨rfl, rfl⟩, fun b z => absurd z (noX b), e0.bs, e0.bsz, fun b _ _ => noX b,
      fun b z => absurd z (noX b), e0.funs, e0.frf⟩,
    rfl, e0.bare, Un.kept kp, ⟨_, hns, fun i y v e1 e2 e3 => ?_⟩, fun y c e => ?_, e0.hok.fresh (Nat.le_refl _), fun y c e => ?_, fun q hq => absurd (show q ∈ ([] : List (Addr × Obj)) ++ [] from hq) (by simp), e0.hok.kept kp, I.len⟩
  · have hy : scope.names.lookup y = some .cell ∨ scope.names.lookup y = some .free := hy
    rcases hy with hy | hy
    · exact absurd rfl (L.own _ (PySem.mem_of_lookup hy)).1
    · exact down hy
  · have z : false = true := z
    cases z
  · have e3 : Vis scope y := e3
    have e1 : X.N[i]? = some y := e1
    rcases e3 with k | k | k
    · exact absurd (List.mem_of_getElem? e1) ((L.own _ (PySem.mem_of_lookup k)).2 rfl)
    · exact absurd rfl (L.own _ (PySem.mem_of_lookup k)).1
    · obtain ⟨m, hn, hl⟩ := I.loc
      have vis : Vis X.env.scope y := (L.free _ (PySem.mem_of_lookup k) rfl).elim (fun k => .inr (.inl k)) (fun k => .inr (.inr k))
      obtain ⟨w', r, q⟩ := hl i y v e1 e2 vis
      obtain ⟨c2, h2⟩ := down k
      refine ⟨w', r, .inr ⟨.inr k, c2, h2, ?_⟩⟩
      have c1 := up h2
      rcases q with ⟨k', _⟩ | ⟨_, c3, e', z⟩
      · have k' : X.env.scope.names.lookup y = some .local := k'
        rcases L.free _ (PySem.mem_of_lookup k) rfl with k2 | k2 <;> rw [show X.env.scope.names.lookup y = _ from k2] at k' <;> cases k'
      · rw [c1] at e'
        cases e'
        exact cellK (I.freeC y _ c1) z
  · obtain ⟨w', z⟩ := I.cell y c (up e)
    exact ⟨w', cellK (I.freeC y c (up e)) z⟩
  · obtain ⟨v, o, ho, hd⟩ := I.cell y c (up e)
    exact un.free c o ho (I.freeC y c (up e)) (by simp)
/-- how a lambda called with nothing binds its parameters nm to their defaults ds -/
def LamB (params : Arguments) (nm : List Str) (ds : List Value) : Prop :=
  ∀ (q : Str) (body : Expr) (scope : Scope) (cl : List (Str × Addr)) (dV pm cv ctv : Value) (M : Model) (A : Around) (E : Value → Shared → Prop) (s : Shared) (H : Hp) (fs : List Addr) (Q : List (Str × Value) → Shared → Prop),
    DflAt s.heap H fs dV ds → Q (nm.zip ds) s → wpAny M A (bindArgs (lFn q params body scope cl dV pm cv ctv) ⟨[], []⟩) Q E s
theorem lamB0 {params : Arguments} (h : ∀ (q : Str) (body : Expr) (scope : Scope) (cl : List (Str × Addr)) (pm cv ctv : Value), bindArgs (lFn q params body scope cl .none pm cv ctv) ⟨[], []⟩ = pure []) : LamB params [] [] :=
  fun q body scope cl dV pm cv ctv M A E s H fs Q hd hq => by
    have hd : dV = .none := hd
    rw [hd, h]
    exact wpAny_pure hq
theorem lamB1 {params : Arguments} {a : Str} {d : Value} (h : ∀ (q : Str) (body : Expr) (scope : Scope) (cl : List (Str × Addr)) (T : Addr) (pm cv ctv : Value), ∃ k, bindArgs (lFn q params body scope cl (.ref T) pm cv ctv) ⟨[], []⟩ = seqItems? (.ref T) >>= k ∧ k (some #[d]) = pure [(a, d)]) : LamB params [a] [d] :=
  fun q body scope cl dV pm cv ctv M A E s H fs Q hd hq => by
    obtain ⟨T, o, n, rfl, e2, e3, _⟩ := hd
    obtain ⟨k, e, ek⟩ := h q body scope cl T pm cv ctv
    rw [e]
    refine wpAny_bind (wpAny_seqItems e2 e3 ?_)
    rw [show (some [d].toArray : Option (Array Value)) = some #[d] from rfl, ek]
    exact wpAny_pure hq
/-- x(), in the def that got the lambda: Z is that def's context, entered at s -/
theorem pe_act {CXg : CXT} {Eg : XK} {Ng : List Str} {qg : Str} {sg : Scope} {g f c' : Addr} {cdg pm ctv dV : Value} {ds : List Value} {nm : List Str} {params : Arguments} {body : Expr} {scope : Scope} {k i : Nat} {a : Str} {pn : List (Addr × Obj)} {xe : Value → Shared → Prop} {W : WX} {tb : XK → TE} {p1 p2 : Pos}
    (I : Inv X pins σ H s) (L : LamN X.env.scope scope X.N nm) (hf : s.heap.get? f = some (lObj (X.env.qual ++ "<lambda>") params body scope (cloFrom X.env.cells scope.names []) dV pm (.ref c') ctv)) (hfn : H f = none) (hfr : f ∉ X.env.locals :: X.fs)
    (hbind : LamB params nm ds) (hds : DflAt s.heap H (X.env.locals :: X.fs) dV ds)
    (tk : Takes ((cxOf CXg X.prog X.w X.K X.mg X.base Ng qg sg g cdg X.A X.stack s H Eg).tr pn xe) W) (hr : Room (k + 1) (X.A.deeper (envOfC qg sg s.heap.objs.size g cdg)))
    (hbody : ∀ (A : Around) (outer : List Env) (s : Shared) (H : Hp) (E : XK), Room k (A.deeper (lamEnv X scope s.heap.objs.size f c')) → PE (lamCx X A outer s H E scope f c') body (tb E))
    (hN : Ng[i]? = some a) (hv : Vis sg a) (hd : (a == ("__debug__" : Str)) = false := by decide) (hcd : (a == ("__classdict__" : Str)) = false := by decide) :
    PE ((cxOf CXg X.prog X.w X.K X.mg X.base Ng qg sg g cdg X.A X.stack s H Eg).tr pn xe) (.Call (.Name a p1) [] [] p2)
      (fun σZ HZ Q => σZ[i]? = some (some (.ref f)) ∧ HZ c' = some (CodeO c' (X.env.qual ++ "<lambda>")) ∧ tb (fun cls d H' => W cls d σZ H') σ HZ Q) := by
  have nst : ∀ {b : Addr}, b ∉ X.env.locals :: X.fs → b ∉ frs X.stack := fun {b} h z => h (I.stkSub b z)
  refine ⟨fun pinsZ sZ σZ HZ Q IZ h => ?_⟩
  obtain ⟨hs, hc, ht⟩ := h
  refine wpAny_Call_Name_kw (thn ((pe_var (pos := p1) (i := i) hN hv hd hcd).run pinsZ sZ σZ HZ (fun v H1 => v = .ref f ∧ H1 = HZ) IZ ⟨.ref f, hs, rfl, rfl⟩) fun u s1 ⟨v, H1, I1, r1, q1⟩ => ?_)
  obtain ⟨ev, eH⟩ := q1
  subst ev
  rw [eH] at I1
  obtain rfl : u = Value.ref f := r1
  have keep1 : ∀ {b : Addr} {o : Obj}, s.heap.get? b = some o → H b = none → b ∉ X.env.locals :: X.fs → s1.heap.get? b = some o ∧ HZ b = none := fun {b o} e n nf =>
    ⟨I1.base.keep b _ e n (nst nf) (fun z => nomatch (show b ∈ ([] : List Addr) from z)), I1.base.free b _ e n (fun z => nomatch (show b ∈ ([] : List Addr) from z))⟩
  have of1 := (keep1 hf hfn hfr).1
  have ds1 : DflAt s1.heap HZ (X.env.locals :: X.fs) dV ds := by
    cases ds with
    | nil => exact hds
    | cons d r =>
      obtain ⟨T, o, n, e1, e2, e3, e4, e5⟩ := hds
      exact ⟨T, o, n, e1, (keep1 e2 e4 e5).1, e3, (keep1 e2 e4 e5).2, e5⟩
  refine PySem.W.callWith_F0 ⟨_, _, _, _, of1⟩ ?_
  have un : Un (frs X.stack) [] H HZ s.heap s1.heap := I1.base
  obtain ⟨⟨oc, vs, t, hoc, hdc, hvc⟩, _, _⟩ := I1.hok c' _ hc
  have rc : codeAny (model X.prog X.w) (X.A.deeper (envOfC qg sg s.heap.objs.size g cdg)) (.call (.ref f) ⟨[], []⟩) (CR (L2.CX X.prog X.w) (envOfC qg sg s.heap.objs.size g cdg :: X.stack) X.prog X.w HZ s1 Q fun cls d H' => W cls d σZ H') s1 := by
    refine PySem.W.kla_callFunE hr.depth of1 rfl L.co L.gen rfl ⟨c', oc, vs, t, rfl, hoc, hdc, hvc⟩ ?_
    refine hbind _ _ _ _ _ _ _ _ _ _ _ s1 HZ _ _ ds1 ?_
    refine wpAny_newFunctionEnv (fun y hy => (L.own y hy).1) (fun y hy => L.par _ (List.of_mem_zip (by simpa using hy)).1) (fun h₁ hns hsb => ⟨I1.nolimit.fresh _ hsb, ?_⟩) L.kind
    show codeAny _ _ (.expr body (lamEnv X scope s1.heap.objs.size f c')) _ _
    have kp : ∀ b o, s1.heap.get? b = some o → h₁.get? b = some o := fun b o e => hsb.extBut b o (Nat.ne_of_lt (Heap.lt_size e)) (Heap.get?_push_of_some _ e)
    have J : Inv (lamCx X (X.A.deeper (envOfC qg sg s.heap.objs.size g cdg)) (envOfC qg sg s.heap.objs.size g cdg :: X.stack) s1 HZ (fun cls d H' => W cls d σZ H') scope f c') [] σ HZ { s1 with heap := h₁, toks := s1.toks + (nm.zip ds).length } :=
      lam_start I L I1.env0 hr.hd un hns kp
    refine PySem.W.kla_codeExpr (wpAny_mono ((hbody _ _ s1 HZ _ (hr.deeper _)).run [] _ _ HZ Q J ht) (fun v s' hq => ?_) fun e s' hq => hq)
    obtain ⟨w', H', J', rv, q⟩ := hq
    exact ⟨w', H', J'.os, J'.bare, J'.base, J'.hok, rv, q⟩
  refine wpAny_call (codeAny_mono rc fun r s' hq => ?_)
  cases r with
  | error e => exact tk e s' (XE.of_call I1 (fun _ _ _ h => h) hq)
  | ok fl =>
    cases fl with
    | ret u => exact I1.after hq
    | next => exact False.elim hq
    | brk => exact False.elim hq
    | cont => exact False.elim hq
end
/-- a reading that grows with what is wanted -/
def MonoL (tl : XK → Hp → VK → Prop) : Prop := ∀ (E1 E2 : XK) (H : Hp) (Q1 Q2 : VK), (∀ c d H', E1 c d H' → E2 c d H') → (∀ v H', Q1 v H' → Q2 v H') → tl E1 H Q1 → tl E2 H Q2
/-- the def that calls what it got, beside other values vs; TT: what it makes of the lambda's reading -/
def Gives (X : Cx) (Ng : List Str) (x : Str) (sg : Scope) (g : Addr) (cdg : Value) (bg : List Stmt) (a : Str) (q : Str) (k : Nat) (TT : List V → (XK → Hp → VK → Prop) → Hp → VK → Prop) : Prop :=
  ∀ (f c' : Addr) (vs : List V) (s : Shared) (H : Hp) (Q : VK) (tl : XK → Hp → VK → Prop), Room k (X.A.deeper (envOfC x sg s.heap.objs.size g cdg)) →
    (∀ (W : WX) (pn : List (Addr × Obj)) (xe : Value → Shared → Prop) (p1 p2 : Pos), Takes ((cxOf L2.CX0 X.prog X.w X.K X.mg X.base Ng x sg g cdg X.A X.stack s H fun _ _ _ => False).tr pn xe) W →
      PE ((cxOf L2.CX0 X.prog X.w X.K X.mg X.base Ng x sg g cdg X.A X.stack s H fun _ _ _ => False).tr pn xe) (.Call (.Name a p1) [] [] p2) (fun σZ HZ Q => σZ[0]? = some (some (.ref f)) ∧ HZ c' = some (CodeO c' q) ∧ tl (fun cls d H' => W cls d σZ H') HZ Q)) →
    H c' = some (CodeO c' q) → MonoL tl → TT vs tl H Q →
    ∃ t, PSs (cxOf L2.CX0 X.prog X.w X.K X.mg X.base Ng x sg g cdg X.A X.stack s H fun _ _ _ => False).nox bg t ∧ t { nx := fun _ H' => Q .non H', rt := Q } (L2.start Ng (.ref f :: vs)) H
def tLam2 (T : List (Addr × Str)) (vs : List V) (TT : List V → (XK → Hp → VK → Prop) → Hp → VK → Prop) (t : XK → TE) : TE := fun σ H Q => Tabs T H ∧ ∀ H1, ExtN H H1 → Tabs T H1 → TT vs (fun E H' Q' => t E σ H' Q') H1 Q
section
variable {X : Cx}
/-- x(lambda: body, rest ..), rest written constants -/
theorem pe_lam {T : List (Addr × Str)} {vs : List V} {TT : List V → (XK → Hp → VK → Prop) → Hp → VK → Prop} {x a : Str} {g c P : Addr} {k : Nat} {pg : Arguments} {bg : List Stmt} {sg : Scope} {dV kV doc pm cdv ct oc : Value} {an od : Option Addr} {osl : Array (Option Value)} {Ng ps nm : List Str}
    {params : Arguments} {body : Expr} {rest : List Expr} {tr : TA} {dts : List Int} {scope : Scope} {t : XK → TE} {p lpos pos : Pos} (hg : Gl X x) (hm : X.mg x = some (.ref g)) (hk : PySem.W.keepIn X.K (.ref g) = true)
    (lk : X.K.lookup g = some ⟨oc, od, .func (PySem.W.fnOf x x pg bg sg dV kV doc pm an cdv ct), osl⟩) (hcg : PySem.W.codeIn X.K cdv x = true) (hb : L2.Binds X.K (PySem.W.fnOf x x pg bg sg dV kV doc pm an cdv ct) (a :: ps) []) (Sg : FnScope Ng (a :: ps) sg) (hNg : Ng[0]? = some a) (hva : Vis sg a)
    (hG : Gives X Ng x sg g cdv bg a (X.env.qual ++ "<lambda>") (k + 1) TT)
    (TB : TabB X.base X.mg c P) (hcode : X.env.code = .ref c) (hmT : (P, X.env.qual ++ "<lambda>") ∈ T) (hu : ∀ p ∈ T, p.1 = P → p.2 = X.env.qual ++ "<lambda>") (hr : Room (k + 2) X.A) (L : LamN X.env.scope scope X.N nm)
    (hdef : (dts = [] ∧ defaultsOf params X.env = ([], [])) ∨ ∃ n j dp, dts = [n] ∧ defaultsOf params X.env = ([eval (.Constant (.int n) j dp) X.env], []))
    (hbind : ∀ ds : List Value, Vals (dts.map V.int) ds → LamB params nm ds)
    (hmono : ∀ σ : L2.St, MonoL fun E H' Q' => t E σ H' Q') (hrest : PA X rest tr) (htr : ∀ σ H Q, tr σ H Q = Q vs H) (hvl : vs.length = ps.length)
    (hbody : ∀ (A : Around) (outer : List Env) (s : Shared) (H : Hp) (E : XK) (f c' : Addr), Room k (A.deeper (lamEnv X scope s.heap.objs.size f c')) → PE (lamCx X A outer s H E scope f c') body (t E))
    (he : starEach (.Lambda params body scope lpos :: rest) X.env = (false, eval (.Lambda params body scope lpos) X.env) :: starEach rest X.env := by rfl) (hpl : (backTo pos (starEach rest X.env)).any (·.1) = false := by rfl)
    (hdb : (x == ("__debug__" : Str)) = false := by decide) (hd : (a == ("__debug__" : Str)) = false := by decide) (hcd : (a == ("__classdict__" : Str)) = false := by decide) :
    PE X (.Call (.Name x p) (.Lambda params body scope lpos :: rest) [] pos) (tLam2 T vs TT t) := by
  refine ⟨fun pins s σ H Q I h => ?_⟩
  obtain ⟨hT, h⟩ := h
  refine wpAny_Call_Name_kw (ld_glob I hg hm ?_ hdb)
  refine PySem.W.callWith_K (h₀ := X.base) I.ok.mod.kin hk ?_ he hpl
  rw [he]
  show wpAny _ _ (spliced ((false, eval (.Lambda params body scope lpos) X.env) :: backTo pos (starEach rest X.env))) _ _ s
  -- from the making of the object on
  have go : ∀ (s0 : Shared) (dV : Value) (ds : List Value), Inv X pins σ H s0 → Vals (dts.map V.int) ds → DflAt s0.heap H (X.env.locals :: X.fs) dV ds →
      wpAny (model X.prog X.w) X.A (PySem.makeTail "<lambda>" (X.env.qual ++ "<lambda>") params (.expr body) scope X.env dV .none none lpos lpos.line)
        (fun u s1 => wpAny (model X.prog X.w) X.A (spliced (backTo pos (starEach rest X.env))) (fun us s2 => X.K.In s2.heap ∧ wpAny (model X.prog X.w) X.A (call (.ref g) ([] ++ u :: us)) (EP X pins σ Q) X.xe s2) X.xe s1) X.xe s0 := by
    intro s0 dV ds I0 rd hd0
    refine lam_tail I0 TB hcode hmT hu hT (L.has I0.ok) hd0 fun f c' pm' ctv H1 s' I1 eN T1 hd1 hf hfn hfL hfF hco => ?_
    obtain ⟨pl, hpl1, hpl2⟩ : ∃ pl : List (Addr × Obj), (∀ p ∈ pl, s'.heap.get? p.1 = some p.2 ∧ H1 p.1 = none ∧ p.1 ≠ X.env.locals ∧ p.1 ∉ X.fs ∧ ∀ v, p.2.data ≠ .cell v) ∧ (∀ h2 : Heap, (∀ p ∈ pl, h2.get? p.1 = some p.2) → DflAt h2 H1 (X.env.locals :: X.fs) dV ds) := by
      cases ds with
      | nil => exact ⟨[], (fun p hp => nomatch hp), fun _ _ => hd1⟩
      | cons d r =>
        obtain ⟨Td, o, n, e1, e2, e3, e4, e5⟩ := hd1
        refine ⟨[(Td, o)], fun p hp => ?_, fun h2 k => ⟨Td, o, n, e1, k _ List.mem_cons_self, e3, e4, e5⟩⟩
        obtain rfl : p = (Td, o) := by simpa using hp
        exact ⟨e2, e4, fun z => e5 (by rw [show Td = X.env.locals from z]; exact List.mem_cons_self), fun z => e5 (List.mem_cons_of_mem _ z), fun v z => by
          have z' : o.data = .cell v := z
          rw [e3] at z'
          cases z'⟩
    have J : Inv X (pins ++ ((f, _) :: pl)) σ H1 s' := I1.pins_of (pins' := pins ++ ((f, lObj (X.env.qual ++ "<lambda>") params body scope (cloFrom X.env.cells scope.names []) dV pm' (.ref c') ctv) :: pl)) fun p hp => by
      rcases List.mem_append.mp hp with hp | hp
      · exact I1.pin p (List.mem_append_right _ hp)
      · rcases List.mem_cons.mp hp with e | hp
        · rw [e]
          exact ⟨hf, hfn, hfL, hfF, fun v z => nomatch z⟩
        · exact hpl1 p hp
    refine thn (hrest.run pos _ s' σ H1 (fun vs' H' => vs' = vs ∧ H' = H1) J (by rw [htr]; exact ⟨rfl, rfl⟩)) fun us s2 ⟨vs', H2, I2, r2, e1, e2⟩ => ?_
    subst e1
    rw [e2] at I2
    have hf2 := (I2.pin (f, _) (List.mem_append_right _ (List.mem_append_right _ List.mem_cons_self))).1
    have hd2 : DflAt s2.heap H1 (X.env.locals :: X.fs) dV ds := hpl2 _ fun p hp => (I2.pin p (List.mem_append_right _ (List.mem_append_right _ (List.mem_cons_of_mem _ hp)))).1
    have I3 : Inv X pins σ H1 s2 := I2.unpinned
    refine ⟨I3.kIn, ?_⟩
    have rv : Vals (V.ref f :: vs') (Value.ref f :: us) := .cons rfl r2
    have hlen : (Value.ref f :: us).length = (a :: ps).length := by
      rw [← rv.length, List.length_cons, List.length_cons, hvl]
    have rc : codeAny (model X.prog X.w) X.A (.call (.ref g) ⟨.ref f :: us, []⟩) (CR L2.CX0 X.stack X.prog X.w H1 s2 Q fun _ _ _ => False) s2 := by
      refine run_ofS (N := Ng) (ps := a :: ps) (us := .ref f :: us) (vs := .ref f :: vs') lk hcg Sg hr I3.env0 (by have z := hb s2 (Value.ref f :: us) I3.kIn (by rw [List.append_nil]; exact hlen); rw [List.append_nil] at z; exact z) rv (by rw [List.length_cons, List.length_cons, hvl]) fun hr' => ?_
      obtain ⟨t', ht', hq'⟩ := hG f c' vs' s2 H1 Q (fun E H' Q' => t E σ H' Q') hr' (fun W pn xe p1 p2 tk => pe_act (i := 0) I3 L hf2 hfn (fun z => (List.mem_cons.mp z).elim hfL hfF) (hbind ds rd) hd2 tk hr' (fun A outer s H E hr2 => hbody A outer s H E f c' hr2) hNg hva hd hcd) hco (hmono σ) (h H1 eN T1)
      exact ⟨t', ht'.nox, hq'⟩
    refine wpAny_call (codeAny_mono rc fun r s3 hq => ?_)
    cases r with
    | error e => exact (show False from hq).elim
    | ok fl =>
      cases fl with
      | ret u => exact I3.after hq
      | next => exact False.elim hq
      | brk => exact False.elim hq
      | cont => exact False.elim hq
  refine Calls.spliced_cons ?_
  rw [PySem.arm_eval_Lambda]
  rcases hdef with ⟨rfl, hdef⟩ | ⟨n, j, dp, rfl, hdef⟩
  · rw [hdef]
    refine wpAny_bind (wpAny_pure (wpAny_bind (wpAny_holding (wpAny_pure ?_))))
    rw [PySem.makeFunction_eq]
    simp only [List.zip_nil_right, List.filterMap_nil, List.isEmpty_nil, if_true, pure_bind]
    exact go s .none [] I .nil rfl
  · rw [hdef]
    refine wpAny_bind (m := evalAll [eval (.Constant (.int n) j dp) X.env]) ?_
    unfold evalAll evalAll
    refine wpAny_bind (thn ((pe_int (X := X) (i := n) (j := j) (pos := dp)).run pins s σ H (fun v H' => v = .int n ∧ H' = H) I ⟨rfl, rfl⟩) fun u s1 ⟨v, H1, I1, r1, e1, e2⟩ => ?_)
    subst e1
    rw [e2] at I1
    refine wpAny_bind (wpAny_holding (wpAny_pure (wpAny_pure ?_)))
    refine wpAny_bind (wpAny_holding (wpAny_pure ?_))
    rw [PySem.makeFunction_eq]
    simp only [List.zip_nil_right, List.filterMap_nil, List.isEmpty_nil, List.isEmpty_cons, Bool.false_eq_true, if_true, if_false, pure_bind]
    refine wpAny_bind (wpAny_newTextTuple ?_)
    have sz : s1.heap.objs.size ≤ s1.heap.objs.size := Nat.le_refl _
    refine go _ (.ref s1.heap.objs.size) [u] (I1.kept (t' := s1.toks) fun b o e => Heap.get?_push_of_some _ e) (.cons r1 .nil) ⟨_, _, _, rfl, Heap.get?_push_size _ rfl, rfl, I1.hok.fresh sz, fun z => ?_⟩
    rcases List.mem_cons.mp z with z | z
    · exact Nat.lt_irrefl _ (show s1.heap.objs.size < s1.heap.objs.size by
        have q := I1.lt
        rw [← z] at q
        exact q)
    · exact I1.nofs sz z
end
end OB
/-! What a law draws from: a list of a list of ints, how many draws were made, what is left of a great one. -/
namespace OB
open PySem PySem.Spec PyProof.Rows L2
/-- the lot stands at p, its ints at b; at most n draws were made -/
def Orch (H : Hp) (p b : Addr) (n : Nat) : Prop := ∃ (ns : List Int) (t l : Int), H p = some (.lst [.ref b, .int t, .int l]) ∧ H b = some (.lst (ns.map V.int)) ∧ 0 ≤ t ∧ t ≤ n
theorem Orch.ne {H : Hp} {p b : Addr} {n : Nat} (o : Orch H p b n) : p ≠ b := by
  obtain ⟨ns, t, l, h1, h2, _⟩ := o
  refine ne_of h1 h2 fun z => ?_
  injection z with z
  cases ns with
  | nil => cases z
  | cons a r =>
    injection z with z _
    cases z
theorem Orch.keep {H H' : Hp} {p b : Addr} {n : Nat} (o : Orch H p b n) (hp : ∀ u, H p = some u → H' p = some u) (hb : ∀ u, H b = some u → H' b = some u) : Orch H' p b n := by
  obtain ⟨ns, t, l, h1, h2, h3⟩ := o
  exact ⟨ns, t, l, hp _ h1, hb _ h2, h3⟩
theorem Orch.same {H H' : Hp} {p b : Addr} {n : Nat} (o : Orch H p b n) (s : Same H H') : Orch H' p b n := o.keep (fun u => s p u) fun u => s b u
theorem Orch.mono {H : Hp} {p b : Addr} {n m : Nat} (o : Orch H p b n) (h : n ≤ m) : Orch H p b m := by
  obtain ⟨ns, t, l, h1, h2, h3, h4⟩ := o
  exact ⟨ns, t, l, h1, h2, h3, by omega⟩
theorem Orch.pn {H : Hp} {p b : Addr} {n : Nat} (o : Orch H p b n) : ∃ u, H p = some u := by
  obtain ⟨ns, t, l, h1, h2, h3, h4⟩ := o
  exact ⟨_, h1⟩
theorem Orch.bn {H : Hp} {p b : Addr} {n : Nat} (o : Orch H p b n) : ∃ u, H b = some u := by
  obtain ⟨ns, t, l, h1, h2, h3, h4⟩ := o
  exact ⟨_, h2⟩
/-- all that was tracked is as it was, but what stands at p -/
def But (p : Addr) (H H' : Hp) : Prop := ∀ q o, H q = some o → q ≠ p → H' q = some o
theorem But.refl {p : Addr} {H : Hp} : But p H H := fun _ _ h _ => h
theorem But.of {p : Addr} {H H' : Hp} (s : Same H H') : But p H H' := fun q o h _ => s q o h
theorem But.trans {p : Addr} {H H1 H2 : Hp} (a : But p H H1) (b : But p H1 H2) : But p H H2 := fun q o h n => b q o (a q o h n) n
theorem same_new {H : Hp} {l : Addr} {o : HO} (h : H l = none) : Same H (upd H l o) := fun b u e => by
  rw [upd_ne (ne_of_none e h)]
  exact e
theorem but_at {H : Hp} {p : Addr} {o : HO} : But p H (upd H p o) := fun q u e n => by
  rw [upd_ne n]
  exact e
/-- a draw from many: some number below many; the lot goes on -/
def spDraw : Sp := fun vs H Q _ => ∃ (p b : Addr) (n : Nat) (many : Int), vs = [.ref p, .int many] ∧ Orch H p b n ∧ n < 1000000 ∧ 0 < many ∧ many.natAbs < 2 ^ 9000 ∧
  ∀ (r : Int) (H' : Hp), 0 ≤ r → r < many → Orch H' p b (n + 1) → But p H H' → Q (.int r) H'
/-- the lot is made of a list of ints -/
def spLot (K : PySem.W.Frag) : Sp := fun vs H Q _ => ∃ (a : Addr) (ns : List Int), vs = [.ref a] ∧ SqL K H a (ns.map V.int) ∧ ns.length ≤ 63 ∧
  ∀ (p b : Addr) (H' : Hp), H p = none → H b = none → Orch H' p b 0 → Same H H' → Q (.ref p) H'
theorem mix1 {x t A B m : Int} (hm : 0 < m) (hm2 : m < 2 ^ 31) (ht : 0 ≤ t) (ht2 : t ≤ 1000000) (hA : 0 ≤ A) (hA2 : A ≤ 1000000) (hB : 0 ≤ B) (hB2 : B ≤ 1000000) : (x % m + A * t + B).natAbs < 2 ^ 64 := by
  have h1 := Int.emod_nonneg x (by omega : m ≠ 0)
  have h2 := Int.emod_lt_of_pos x hm
  have h3 : A * t ≤ 1000000 * 1000000 := Int.mul_le_mul hA2 ht2 ht (by decide)
  have h4 : 0 ≤ A * t := Int.mul_nonneg hA ht
  omega
theorem mix2 {x t A B C m : Int} (hm : 0 < m) (hm2 : m < 2 ^ 31) (ht : 0 ≤ t) (ht2 : t ≤ 1000000) (hA : 0 ≤ A) (hA2 : A ≤ 1000000) (hB : 0 ≤ B) (hB2 : B ≤ 1000000) (hC : 0 ≤ C) (hC2 : C ≤ 1000000) : (x % m * (2 * t + C) + A * t * t + B).natAbs < 2 ^ 64 := by
  have h1 := Int.emod_nonneg x (by omega : m ≠ 0)
  have h2 := Int.emod_lt_of_pos x hm
  have h3 : A * t ≤ 1000000 * 1000000 := Int.mul_le_mul hA2 ht2 ht (by decide)
  have h4 : 0 ≤ A * t := Int.mul_nonneg hA ht
  have h5 : A * t * t ≤ 1000000 * 1000000 * 1000000 := Int.mul_le_mul h3 ht2 ht (by decide)
  have h6 : 0 ≤ A * t * t := Int.mul_nonneg h4 ht
  have h7 : x % m * (2 * t + C) ≤ 2 ^ 31 * 3000000 := Int.mul_le_mul (by omega) (by omega) (by omega) (by decide)
  have h8 : 0 ≤ x % m * (2 * t + C) := Int.mul_nonneg h1 (by omega)
  omega
theorem mod_lim {x m : Int} (hm : 0 < m) (hm2 : m < 2 ^ 31) : -(2 ^ 64) < x % m ∧ x % m < 2 ^ 64 := by
  have h1 := Int.emod_nonneg x (by omega : m ≠ 0)
  have h2 := Int.emod_lt_of_pos x hm
  omega
theorem dp_ints {K : PySem.W.Frag} {H : Hp} : ∀ ns : List Int, DpAll K H (ns.map V.int) (ns.map PyData.int)
  | [] => .nil
  | n :: r => .cons (.int n) (dp_ints r)
theorem lay_ints : ∀ ns : List Int, PyData.canLayAll0 (ns.map PyData.int) = true
  | [] => by simp [PyData.canLayAll0]
  | n :: r => by simp [PyData.canLayAll0, PyData.canLay0, lay_ints r]
theorem deep_ints : ∀ ns : List Int, PyData.depthAll (ns.map PyData.int) ≤ 1
  | [] => by simp [PyData.depthAll]
  | n :: r => by
    have h := deep_ints r
    simp [PyData.depthAll, PyData.depth]
    omega
theorem shaped_ints (ns : List Int) : SeqAt.shaped (.list (ns.map PyData.int)) = true := by
  have h := deep_ints ns
  unfold SeqAt.shaped
  rw [Bool.and_eq_true]
  refine ⟨by simp [PyData.canLay0, lay_ints], decide_eq_true ?_⟩
  simp [PyData.depth]
  omega
theorem eqv_nil (ns : List Int) : PyData.eqv (.list (ns.map PyData.int)) (.list []) = decide (ns = []) := by
  cases ns with
  | nil => simp [PyData.eqv, PyData.eqvAll]
  | cons n r => simp [PyData.eqv, PyData.eqvAll]

/-! ### kinds of values: is it an integer -/
/-- x is of a kind of which isinstance(x, int) and not isinstance(x, bool) is b -/
def IsI (K : PySem.W.Frag) (H : Hp) (x : V) (b : Bool) : Prop := ∃ (n : String) (b1 b2 : Bool), TyX K H x (.type n) ∧ kitB n "int" = some b1 ∧ kitB n "bool" = some b2 ∧ b = (b1 && !b2)
section
variable {K : PySem.W.Frag} {H : Hp}
theorem isI_int (i : Int) : IsI K H (.int i) true := ⟨"int", true, false, .base (.int i), by decide +kernel, by decide +kernel, rfl⟩
theorem isI_non : IsI K H .non false := ⟨"NoneType", false, false, .base .non, by decide +kernel, by decide +kernel, rfl⟩
theorem isI_bl (b : Bool) : IsI K H (.bl b) false := ⟨"bool", true, true, .base (.bl b), by decide +kernel, by decide +kernel, rfl⟩
theorem isI_str (x : Str) : IsI K H (.str x) false := ⟨"str", false, false, .base (.str x), by decide +kernel, by decide +kernel, rfl⟩
theorem isI_lst {a : Addr} {xs : List V} (e : H a = some (.lst xs)) : IsI K H (.ref a) false := ⟨"list", false, false, .base (.lst e), by decide +kernel, by decide +kernel, rfl⟩
theorem isI_tup {a : Addr} {xs : List V} (e : H a = some (.tup xs)) : IsI K H (.ref a) false := ⟨"tuple", false, false, .base (.tup e), by decide +kernel, by decide +kernel, rfl⟩
theorem isI_dK {a : Addr} {kvs : List (Key × V)} (e : H a = some (.dK kvs)) : IsI K H (.ref a) false := ⟨"dict", false, false, .base (.dK e), by decide +kernel, by decide +kernel, rfl⟩
theorem isI_true {x : V} (h : IsI K H x true) : ∃ i, x = .int i := by
  obtain ⟨n, b1, b2, ty, e1, e2, e3⟩ := h
  have c1 : b1 = true := by
    cases b1
    · simp at e3
    · rfl
  have c2 : b2 = false := by
    cases b2
    · rfl
    · simp [c1] at e3
  subst c1 c2
  have no : ∀ {m : String}, kitB m "int" ≠ some true ∨ kitB m "bool" ≠ some false → n = m → False := fun h e => by
    subst e
    exact h.elim (fun z => z e1) fun z => z e2
  cases ty with
  | base h =>
    cases h with
    | int i => exact ⟨i, rfl⟩
    | non => exact (no (m := "NoneType") (.inl (by decide +kernel)) rfl).elim
    | bl b => exact (no (m := "bool") (.inr (by decide +kernel)) rfl).elim
    | str b => exact (no (m := "str") (.inl (by decide +kernel)) rfl).elim
    | flt b => exact (no (m := "float") (.inl (by decide +kernel)) rfl).elim
    | lst e => exact (no (m := "list") (.inl (by decide +kernel)) rfl).elim
    | frz e => exact (no (m := "list") (.inl (by decide +kernel)) rfl).elim
    | tup e => exact (no (m := "tuple") (.inl (by decide +kernel)) rfl).elim
    | dK e => exact (no (m := "dict") (.inl (by decide +kernel)) rfl).elim
    | dT e => exact (no (m := "dict") (.inl (by decide +kernel)) rfl).elim
  | byt b => exact (no (m := "bytes") (.inl (by decide +kernel)) rfl).elim
  | set e => exact (no (m := "set") (.inl (by decide +kernel)) rfl).elim
  | kList e c => exact (no (m := "list") (.inl (by decide +kernel)) rfl).elim
  | kTuple e c => exact (no (m := "tuple") (.inl (by decide +kernel)) rfl).elim
  | kDict e c => exact (no (m := "dict") (.inl (by decide +kernel)) rfl).elim
  | fTuple e => exact (no (m := "tuple") (.inl (by decide +kernel)) rfl).elim
  | fDict e => exact (no (m := "dict") (.inl (by decide +kernel)) rfl).elim
end
/-- a bound: an int or none -/
def oV : Option Int → V
  | none => .non
  | some i => .int i
def loOk (lo : Option Int) (i : Int) : Bool := match lo with
  | none => true
  | some l => decide (l ≤ i)
def hiOk (hi : Option Int) (i : Int) : Bool := match hi with
  | none => true
  | some h => decide (i ≤ h)
/-- an int within bounds -/
def inB (lo hi : Option Int) : V → Bool
  | .int i => loOk lo i && hiOk hi i
  | _ => false
def spIsInt (K : PySem.W.Frag) : Sp := fun vs H Q _ => ∃ (x : V) (b : Bool), vs = [x] ∧ IsI K H x b ∧ Q (.bl b) H
def spWithin (K : PySem.W.Frag) : Sp := fun vs H Q _ => ∃ (x : V) (lo hi : Option Int) (b : Bool), vs = [x, oV lo, oV hi] ∧ IsI K H x b ∧ Q (.bl (b && inB lo hi x)) H
/-- what raises the error at C, with its part, else returns None -/
def RaisesP (C : Addr) (part : Str) (E : XK) (H : Hp) : Prop := ∀ d, H d = none → E (.ref C) (some d) (upd H d (.xd [(("part" : Str), .str part)]))
def spNeedNumber (K : PySem.W.Frag) (C : Addr) : Sp := fun vs H Q E => ∃ (x : V) (part : Str) (lo hi : Option Int) (b : Bool), vs = [x, .str part, oV lo, oV hi] ∧ IsI K H x b ∧
  ((b && inB lo hi x) = true → Q .non H) ∧ ((b && inB lo hi x) = false → RaisesP C part E H)
def spNeedWord (K : PySem.W.Frag) (C : Addr) : Sp := fun vs H Q E => ∃ (x : V) (part : Str) (b : Bool), vs = [x, .str part] ∧ IsI K H x b ∧
  ((b && inB (some 0) none x) = true → Q .non H) ∧ ((b && inB (some 0) none x) = false → RaisesP C part E H)
/-- where nothing is raised the promise holds among calm ones -/
theorem calm_of {P : Program} {w : World} {K : PySem.W.Frag} {mg : Str → Option Value} {base : Heap} {k : Nat} {f : Addr} {fd : FuncData} {ps : List Str} {sp : Sp} (F : FnOk P w K mg base (L2.CX P w) k f fd ps sp) :
    FnOk P w K mg base CX0 k f fd ps (fun vs H Q _ => sp vs H Q fun _ _ _ => False) :=
  ⟨fun vs H Q E h => F.len vs H Q _ h, fun A outer s H args us vs Q E hr he hb hv hs => codeAny_mono (F.run A outer s H args us vs Q _ hr he hb hv hs) fun r s' hq => by
    cases r with
    | error e =>
      obtain ⟨_, _, _, _, _, _, _, _, _, _, _, _, z⟩ := hq
      exact z.elim
    | ok fl => cases fl <;> exact hq⟩
theorem iteB {b : Bool} {A B : Prop} (h1 : b = true → A) (h2 : b = false → B) : if b = true then A else B := by
  cases b with
  | true => exact iteT (h1 rfl)
  | false => exact iteF (h2 rfl)
end OB
set_option exponentiation.threshold 100000
/-! Own errors with one field, raised. -/
namespace OB
open PySem PySem.Spec PyProof.Rows L2
/-- a def of the text, as it stands behind the top -/
structure Df (K : PySem.W.Frag) (mg : Str → Option Value) (x : Str) (st : Stmt) (ps : List Str) (f : Addr) (fd : FuncData) : Prop where
  F : Fun K x x st f fd
  g : mg x = some (.ref f)
  b : Binds K fd ps []
/-- __init__(self, f): self.f = f of an own error -/
def spInit1 (K : PySem.W.Frag) (f : Str) : Sp := fun vs H Q _ => ∃ (a C : Addr) (v : V), vs = [.ref a, v] ∧ OexC K C ∧ PySem.W.findIn K (.ref C) f = some none ∧ H a = some (exo a C none) ∧
  ∀ dx, H dx = none → dx ≠ a → Q .non (upd (upd H dx (exd dx [(f, v)])) a (exo a C (some dx)))
section
variable {P : Program} {w : World} {K : PySem.W.Frag} {mg : Str → Option Value} {base : Heap}
theorem ok_init1 {qual : Str} {st : Stmt} {fI : Addr} {fd : FuncData} {f : Str} {p1 p2 p3 p4 : Pos} (F : Fun K "__init__" qual st fI fd) (S : FnScope ["self", f] ["self", f] (defScope st))
    (hb : defBody st = [.Assign [.Attribute (.Name "self" p1) f p2] (.Name f p3) p4])
    (hv : Vis (defScope st) f) (hs : Vis (defScope st) "self") (hd : (f == ("__debug__" : Str)) = false := by decide) (hcd : (f == ("__classdict__" : Str)) = false := by decide)
    (hsw : ∀ env : Env, swapsWith (.Name f p3) (some (.Attribute (.Name "self" p1) f p2)) p4.line env = pure false := by intro _; rfl) :
    FnOk P w K mg base CX0 1 fI fd ["self", f] (spInit1 K f) := by
  refine F.ok S (fun vs H Q E h => ?_) (fun cdv A outer s H vs Q E hr h => ?_)
  · obtain ⟨a, C, v, rfl, _⟩ := h
    rfl
  · obtain ⟨a, C, v, rfl, T, no, ha, k⟩ := h
    rw [hb]
    refine ⟨_, pss_one (ps_ost (pe_var (i := 0) rfl hs) (pe_var (i := 1) rfl hv hd hcd) (hsw _)), ?_⟩
    exact ⟨v, rfl, .ref a, rfl, a, C, rfl, T, no, .inl ⟨ha, fun dx n ne => k dx n ne⟩⟩
/-- an own error class with one field, as the top leaves it -/
structure Err (P : Program) (w : World) (K : PySem.W.Frag) (mg : Str → Option Value) (base : Heap) (x f : Str) (C fI : Addr) (fd : FuncData) : Prop where
  T : OexC K C
  iC : PySem.W.findIn K (.ref C) "__init__" = some (some (.ref fI))
  tI : PySem.W.typeIn K (.ref fI) = some (.type "function")
  F : FnOk P w K mg base CX0 1 fI fd ["self", f] (spInit1 K f)
  b : Binds K fd ["self", f] []
  g : mg x = some (.ref C)
  no : PySem.W.findIn K (.ref C) f = some none
theorem del_back {H : Hp} {a d : Addr} {o1 o2 o3 o4 : HO} (ha : H a = none) (n : d ≠ a) : upd (del (upd (upd (upd H a o1) d o2) a o3) a) d o4 = upd H d o4 := by
  funext b
  by_cases e : b = d
  · rw [e, upd_same, upd_same]
  · rw [upd_ne e, upd_ne e]
    by_cases e2 : b = a
    · rw [e2, del_same, ha]
    · rw [del_ne e2, upd_ne e2, upd_ne e, upd_ne e2]
end
/-- raise X(e) -/
def tRaise1 (K : PySem.W.Frag) (C : Addr) (f : Str) (W : WX) (te : TE) : TS := fun _ σ H => tMkO C (spInit1 K f) [] (tCons te tNil) σ H fun cls d H' => W cls d σ H'
theorem raise1_of {K : PySem.W.Frag} {C : Addr} {f : Str} {W : WX} {σ : L2.St} {H1 : Hp} {v : V} (T : OexC K C) (no : PySem.W.findIn K (.ref C) f = some none) (h : ∀ d, H1 d = none → W (.ref C) (some d) σ (upd H1 d (.xd [(f, v)]))) :
    tNil σ H1 fun xs H2 => (v :: xs).length ≤ 1000 ∧ ∀ a, H2 a = none → spInit1 K f (.ref a :: ((v :: xs) ++ [])) (upd H2 a (exo a C none))
      (fun u H3 => u = .non ∧ ∃ (d : Addr) (fs : List (Str × V)), H3 a = some (exo a C (some d)) ∧ H3 d = some (exd d fs) ∧ H2 d = none ∧ W (.ref C) (some d) σ (upd (del H3 a) d (.xd fs))) (fun _ _ _ => False) := by
  refine ⟨by show 1 ≤ 1000; decide, fun a ha => ⟨a, C, v, rfl, T, no, upd_same, fun dx nd ne => ?_⟩⟩
  rw [upd_ne ne] at nd
  refine ⟨rfl, dx, [(f, v)], upd_same, ?_, nd, ?_⟩
  · rw [upd_ne ne, upd_same]
  · rw [del_back ha ne]
    exact h dx nd
theorem ps_raise1 {X : Cx} {W : WX} {x f : Str} {C fI : Addr} {fd : FuncData} {e : Expr} {te : TE} {p p2 pos : Pos} (hc : X.calm = true) (tk : Takes X W) (R : Err X.prog X.w X.K X.mg X.base x f C fI fd) (hr : Room 2 X.A) (hg : Gl X x) (he : PE X e te)
    (hx : Passes CX0 X (fun _ _ _ => False) := by exact pass0) (hs : starEach [e] X.env = [(false, eval e X.env)] := by rfl) (hdb : (x == ("__debug__" : Str)) = false := by decide) :
    PS X (.Raise (some (.Call (.Name x p) [e] [] p2)) none pos) (tRaise1 X.K C f W te) :=
  ps_raise (pos := pos) hc tk (pmk_oex (p := p) (pos := p2) R.T R.iC R.tI R.F hr R.b .nil hx hg R.g (pa_cons he pa_nil hs) hdb hs)
section
variable {X : Cx}
/-- 1 << k -/
theorem op_oneN : OpR X (binaryOp .LShift) (fun x y H Q => ∃ k : Nat, x = .int 1 ∧ y = .int (k : Int) ∧ k ≤ 1000000 ∧ Q (.int ((2 ^ k : Nat) : Int)) H) := by
  intro pins s σ H x y v u Q I rx ry h
  obtain ⟨k, rfl, rfl, c, q⟩ := h
  refine op_shl pins s σ H _ _ v u Q I rx ry ⟨_, _, rfl, rfl, ⟨Int.natCast_nonneg _, by omega, by decide⟩, ?_⟩
  have e : (1 : Int) * 2 ^ ((k : Int)).toNat = ((2 ^ k : Nat) : Int) := by
    rw [Int.one_mul, Int.toNat_natCast, Int.natCast_pow]
    rfl
  show Q (.int ((1 : Int) * 2 ^ ((k : Int)).toNat)) H
  rw [e]
  exact q
end
theorem pow_lt9 {i : Nat} (h : i ≤ 8000) : ((2 ^ i : Nat) : Int).natAbs < 2 ^ 9000 := by
  rw [Int.natAbs_natCast]
  exact Nat.pow_lt_pow_right (by decide) (by omega)
section
variable {X : Cx} {CX : CXT} {k : Nat} {f : Addr} {fd : FuncData} {ps ks : List Str} {sp : Sp} {E : XK} {x : Str} {p pos : Pos} {kws : List Keyword} {tk : TA} {g : List Value → List Value → List Value} {gV : List V → List V → List V}
/-- f(k = v, ..): keywords alone -/
theorem pe_callKo (F : FnOk X.prog X.w X.K X.mg X.base CX k f fd ps sp) (hr : Room k X.A) (hg : Gl X x) (hm : X.mg x = some (.ref f)) (hk : PySem.W.keepIn X.K (.ref f) = true) (hb : KBinds X.K fd ps ks g gV) (hx : Passes CX X E)
    (hkw : PK X kws tk) (hall : (backToKw pos (keywordEach kws X.env)).all (·.1.isSome) = true := by rfl) (hks : (backToKw pos (keywordEach kws X.env)).filterMap (·.1) = ks := by rfl)
    (hdb : (x == ("__debug__" : Str)) = false := by decide)
    (hpl : ((backTo pos (starEach [] X.env)).any (·.1) || (backToKw pos (keywordEach kws X.env)).any (·.1.isNone)) = false := by rfl) :
    PE X (.Call (.Name x p) [] kws pos) (tCallK sp gV E tNil tk) := by
  refine ⟨fun pins s σ H Q I h => ?_⟩
  refine wpAny_Call_Name_kw (ld_glob I hg hm ?_ hdb)
  refine PySem.W.callWith_KW0 (h₀ := X.base) I.ok.mod.kin hk hall ?_ hpl
  refine thn (hkw.run pos pins s σ H _ I h) fun ws s2 ⟨zs, H2, I2, rz, q2⟩ => ⟨I2.kIn, ?_⟩
  rw [hks]
  exact run_fnk (us := []) F hr hb hx I2 .nil rz q2
end
/-- how the keywords of a def without defaults bind -/
theorem kbinds {K : PySem.W.Frag} {x qual : Str} {st : Stmt} {f : Addr} {fd : FuncData} {ps ks : List Str} {g : List Value → List Value → List Value} {gV : List V → List V → List V} (F : Fun K x qual st f fd)
    (h : ∀ (kV doc pm : Value) (an : Option Addr) (cdv ct : Value) (us ws : List Value), (g us ws).length = ps.length → bindArgs (PySem.W.fnOf x qual (defArgs st) (defBody st) (defScope st) .none kV doc pm an cdv ct) ⟨us, ks.zip ws⟩ = pure (ps.zip (g us ws)))
    (r : ∀ {vs : List V} {us : List Value} {zs : List V} {ws : List Value}, Vals vs us → Vals zs ws → Vals (gV vs zs) (g us ws)) : KBinds K fd ps ks g gV := by
  obtain ⟨oc, od, kV, doc, pm, an, cdv, ct, osl, rfl, lk, hcd⟩ := F.ex
  exact ⟨fun s us ws _ hl => .of_eq (h kV doc pm an cdv ct us ws hl), r⟩
theorem inB_nat (m : Nat) : inB (some 0) none (.int (m : Int)) = true := by
  show (decide ((0 : Int) ≤ (m : Int)) && true) = true
  rw [decide_eq_true (Int.natCast_nonneg m)]
  rfl
/-- isinstance asks by the table of classes -/
theorem kit_sub {K : PySem.W.Frag} {t : Value} {C : Addr} {b : Bool} (h1 : PySem.W.isClsIn K C = true) (h2 : PySem.W.typeIn K (.ref C) = some (.type "type")) (self : PySem.W.subIn K (.ref C) (.ref C) = some true) (h : PySem.W.subIn K t (.ref C) = some b) :
    PySem.W.kitOne K t (.ref C) = some b := by
  unfold PySem.W.kitOne
  by_cases e : (t == Value.ref C) = true
  · rw [if_pos e]
    have e2 : t = Value.ref C := beq_iff_eq.mp e
    subst e2
    rw [self] at h
    exact h
  · rw [if_neg e]
    have h1' : (PySem.W.clsIn K C).isSome = true := h1
    show (if ((PySem.W.clsIn K C).isSome && PySem.W.typeIn K (.ref C) == some (.type "type")) = true then PySem.W.subIn K t (.ref C) else none) = some b
    rw [h1', h2]
    exact h
end OB
/-! len(set(x)) of a list or a tuple of ints, doubles among them. -/
namespace OB
open PySem PySem.Spec PyProof.Rows L2
theorem sub_len {α : Type} [DecidableEq α] : ∀ {l1 l2 : List α}, l1.Nodup → (∀ x ∈ l1, x ∈ l2) → l1.length ≤ l2.length
  | [], l2, _, _ => Nat.zero_le _
  | a :: r, l2, h, s => by
    have h2 := List.nodup_cons.mp h
    have ha : a ∈ l2 := s a List.mem_cons_self
    have ih := sub_len (l1 := r) (l2 := l2.erase a) h2.2 fun x hx => by
      have ne : x ≠ a := fun z => h2.1 (z ▸ hx)
      exact (List.mem_erase_of_ne ne).mpr (s x (List.mem_cons_of_mem _ hx))
    rw [List.length_erase_of_mem ha] at ih
    have pos : 0 < l2.length := List.length_pos_of_mem ha
    rw [List.length_cons]
    omega
theorem nodup_of_sub {α : Type} [DecidableEq α] : ∀ {l1 l2 : List α}, l1.Nodup → (∀ x ∈ l1, x ∈ l2) → l2.length ≤ l1.length → l2.Nodup
  | [], l2, _, _, hl => by
    have e : l2 = [] := List.length_eq_zero_iff.mp (Nat.le_zero.mp hl)
    rw [e]
    exact List.nodup_nil
  | a :: r, l2, h, s, hl => by
    have h2 := List.nodup_cons.mp h
    have ha : a ∈ l2 := s a List.mem_cons_self
    have hs : ∀ x ∈ r, x ∈ l2.erase a := fun x hx => by
      have ne : x ≠ a := fun z => h2.1 (z ▸ hx)
      exact (List.mem_erase_of_ne ne).mpr (s x (List.mem_cons_of_mem _ hx))
    have le := List.length_erase_of_mem ha
    have pos : 0 < l2.length := List.length_pos_of_mem ha
    rw [List.length_cons] at hl
    have ih := nodup_of_sub (l1 := r) (l2 := l2.erase a) h2.2 hs (by omega)
    have na : a ∉ l2.erase a := fun z => by
      have q := sub_len (l1 := a :: r) (l2 := l2.erase a) h fun x hx => by
        rcases List.mem_cons.mp hx with e | e
        · rw [e]
          exact z
        · exact hs x e
      rw [List.length_cons] at q
      omega
    exact ((List.perm_cons_erase ha).nodup_iff).mpr (List.nodup_cons.mpr ⟨na, ih⟩)
theorem same_len {α : Type} [DecidableEq α] {l1 l2 : List α} (h : l1.Nodup) (s : ∀ x, x ∈ l1 ↔ x ∈ l2) : l1.length ≤ l2.length ∧ (l1.length = l2.length ↔ l2.Nodup) := by
  have a := sub_len h fun x hx => (s x).mp hx
  refine ⟨a, fun e => nodup_of_sub h (fun x hx => (s x).mp hx) (by omega), fun e => ?_⟩
  have b := sub_len e fun x hx => (s x).mpr hx
  omega
theorem fm_nodup (val : Nat → Int) : ∀ i, (PyProof.Rows.firstMet val i).Nodup
  | 0 => List.nodup_nil
  | i + 1 => by
    rw [PyProof.Rows.firstMet_succ]
    have ih := fm_nodup val i
    show (if (PyProof.Rows.firstMet val i).any (· == val i) then PyProof.Rows.firstMet val i else PyProof.Rows.firstMet val i ++ [val i]).Nodup
    split
    · exact ih
    · rename_i h
      refine List.nodup_append.mpr ⟨ih, List.nodup_cons.mpr ⟨List.not_mem_nil, List.nodup_nil⟩, fun x hx y hy e => h ?_⟩
      rw [List.mem_singleton] at hy
      subst hy
      exact List.any_eq_true.mpr ⟨x, hx, by rw [e]; exact beq_self_eq_true _⟩
theorem fm_mem (ns : List Int) (x : Int) : x ∈ PyProof.Rows.firstMet (fun i => ns.getD i 0) ns.length ↔ x ∈ ns := by
  have e := PyProof.Rows.firstMet_any (fun i => ns.getD i 0) ns.length x
  have e2 : (List.range ns.length).map (fun i => ns.getD i 0) = ns := by
    apply List.ext_getElem
    · simp
    · intro i h1 h2
      simp [List.getD_eq_getElem?_getD, h2]
  rw [e2] at e
  have m : ∀ l : List Int, (l.any (· == x)) = true ↔ x ∈ l := fun l => by
    rw [List.any_eq_true]
    exact ⟨fun ⟨y, hy, ey⟩ => (eq_of_beq ey) ▸ hy, fun h => ⟨x, h, beq_self_eq_true _⟩⟩
  rw [← m, ← m, e]
/-- how many unlike ints -/
def tLenSet (K : PySem.W.Frag) (ta : TE) : TE := fun σ H Q => ta σ H fun x H1 => ∃ (p : Addr) (ns : List Int), x = .ref p ∧ (SqL K H1 p (ns.map V.int) ∨ SqT K H1 p (ns.map V.int)) ∧ ns.length ≤ 1100 ∧
  ∀ c : Nat, c ≤ ns.length → (c = ns.length ↔ ns.Nodup) → Q (.int (c : Nat)) H1
theorem pe_lenSet2 {X : Cx} {a : Expr} {ta : TE} {p p2 q pos : Pos} (hg : Gl X "len") (hm : X.mg "len" = none) (hg2 : Gl X "set") (hm2 : X.mg "set" = none) (ha : PE X a ta) (hc : X.calm = true := by rfl)
    (na : starEach [a] X.env = (false, eval a X.env) :: starEach [] X.env := by rfl) : PE X (.Call (.Name "len" p) [.Call (.Name "set" p2) [a] [] q] [] pos) (tLenSet X.K ta) := by
  refine ⟨fun pins s σ H Q I h => ?_⟩
  refine Call_ (ld_blt I hg hm boot_len ?_)
  refine PyProof.Rows.callWith_builtin1 (PyProof.Rows.args_cons ?_ rfl) rfl rfl
  refine Call_ (ld_blt I hg2 hm2 boot_set ?_)
  refine PyProof.Rows.callWith_type1 (PyProof.Rows.args_cons (thn (ha.run pins s σ H _ I h) fun v s1 ⟨x, H1, I1, r1, q1⟩ => PyProof.Rows.args_nil ?_) na) na rfl
  obtain ⟨l, ns, rfl, hq, hl, q1⟩ := q1
  cases r1
  rcases hq with hq | hq
  · obtain ⟨its, r, pl, hz⟩ := I1.list hq
    have hlen : its.toArray.size = ns.length := by rw [List.size_toArray, ← r.length, List.length_map]
    refine PySem.call_set_list (I1.ok.hd hc) pl.isList (ns := ns) (by simpa using RZ.intsAre_vals r) (by rw [hlen]; unfold scanBound; omega) fun h' tk hS hk => ?_
    refine PyProof.Rows.args_nil ?_
    rw [hlen] at hS
    have sl := same_len (fm_nodup (fun i => ns.getD i 0) ns.length) (fm_mem ns)
    obtain ⟨o, es, ep, t, ho, hex, hd, _, _, _, hf, hn⟩ := hS
    have I2 : Inv X pins σ H1 { s1 with heap := h', toks := tk } := I1.kept fun b o e => hk b o (Heap.lt_size e) e
    have q2 := q1 es.size (by rw [hn]; exact sl.1) (by rw [hn]; exact sl.2)
    exact call_len_set ho hex hd hf (by have := sl.1; omega) ⟨.int es.size, H1, I2.tok _, ⟨_, rfl⟩, q2⟩
  · obtain ⟨its, r, pt, hz⟩ := I1.tuple hq
    have hi : IntsAre its.toArray.toList ns := ints_of_vals r
    refine call_set_tupI ns (I1.ok.hd hc) (show s1.heap.IsTuple l its.toArray from pt) hi (by unfold scanBound; omega) fun h' tk c R1 hcn k => ?_
    refine PyProof.Rows.args_nil ?_
    obtain ⟨o, es, ep, t, ho, hex, hd, hgood, hnd, hmem, _, hf, hn, _⟩ := R1
    have I2 : Inv X pins σ H1 { s1 with heap := h', toks := tk } := I1.kept fun b o e => k b o e
    have sl := same_len (l2 := ns) hnd fun x => (by
      have z := (hmem x).symm
      simpa using z)
    rw [List.length_map, Array.length_toList] at sl
    have q2 := q1 es.size sl.1 sl.2
    exact call_len_set ho hex hd hf (by have := sl.1; omega) ⟨.int es.size, H1, I2.tok _, ⟨_, rfl⟩, q2⟩
end OB
set_option maxHeartbeats 4000000
/-! sorted(x) of a list or a tuple of ints. -/
namespace OB
open PySem PySem.Spec PyProof.Rows L2 SrtO
section
variable {prog : Program} {w : World} {A : Around} {E : Value → Shared → Prop} {s : Shared}
theorem collect_tup {l : Addr} {vs : List Value} {Q : List Value → Shared → Prop} (ht : IsTup s.heap l vs.toArray)
    (h : Q vs { s with heap := (s.heap.push (seqObj "list" #[] 0)).update s.heap.objs.size (Obj.mapSeq (· ++ vs.toArray)) }) (hz : vs.length ≤ sizeLine) :
    wpAny (model prog w) A (collect (.ref l)) Q E s := by
  obtain ⟨o, ho, hc, n, hd⟩ := id ht
  unfold collect
  refine wpAny_bind (wpAny_runValue (codeAny_builtin entry_proto_collect' ?_))
  show wpAny _ _ (do again (.builtin "list.__iadd__" ⟨[← newList [], .ref l], []⟩)) _ _ s
  refine wpAny_bind (wpAny_newList (wpAny_pure ⟨Code.quiet_builtin _ (by decide +kernel), codeAny_builtin entry_list_iadd' ?_⟩))
  show wpAny _ _ (Builtin.List.listExtendWith (.ref s.heap.objs.size) (.ref l) (.ref s.heap.objs.size)) _ _ { s with heap := s.heap.push (seqObj "list" #[] 0) }
  unfold Builtin.List.listExtendWith
  have o1 : (s.heap.push (seqObj "list" #[] 0)).get? l = some o := Heap.get?_push_of_some _ ho
  refine wpAny_bind (wpAny_typeOf (T := "tuple") ⟨o, o1, hc⟩ ?_)
  rw [if_pos (show (Builtin.List.listSameRef (Value.ref s.heap.objs.size) (Value.ref l) || Value.type "tuple" == Value.type "list" || Value.type "tuple" == Value.type "tuple") = true by
    rw [show (Value.type "tuple" == Value.type "tuple") = true from rfl, Bool.or_true])]
  refine wpAny_bind (listItems_at o1 hd (wpAny_bind (listItems_at (xs := #[]) (n := 0) (Heap.get?_push_size _ rfl) rfl ?_)))
  have room : ((#[] : Array Value) ++ vs.toArray).size ≤ sizeLine + 1 := by
    rw [Array.size_append, List.size_toArray, List.size_toArray, List.length_nil]
    omega
  rw [if_neg (show ¬ (!(#[] : Array Value).isEmpty && Builtin.List.listTooLong ((#[] : Array Value).size + vs.toArray.size)) = true from fun z => by
    have z : (false && _) = true := z
    rw [Bool.false_and] at z
    cases z)]
  refine wpAny_bind (listUpdate_at (xs := #[]) (n := 0) (Heap.get?_push_size _ rfl) rfl (wpAny_pure ?_) (Nat.zero_le _) room)
  refine wpAny_bind (wpAny_load (get?_update_seq (Heap.get?_push_size _ rfl) _) (wpAny_pure ?_))
  have e : ((#[] : Array Value) ++ vs.toArray).toList = vs := by simp
  rw [e]
  exact h
theorem sorted_tup {l : Addr} {vs : List Value} {ltv : Value → Value → Bool} {Q : Value → Shared → Prop} (O : Swo ltv) (ht : IsTup s.heap l vs.toArray) (hz : vs.length ≤ sizeLine)
    (hS : 2 ≤ vs.length → ∀ (h₁ : Heap) (a : Addr), h₁.get? a = some (seqObj "list" vs.toArray 0) → (∀ b o, s.heap.get? b = some o → b ≠ a ∧ h₁.get? b = some o) → SortableO prog w A.in1.in1 { s with heap := h₁ } a vs ltv)
    (h : ∀ out : List Value, Srtd ltv out → Stb ltv out vs → Q (.ref (s.heap.objs.size + 1)) { s with heap := sortedAll s.heap vs out.toArray }) :
    wpAny (model prog w) A (call (.builtin "sorted") [.ref l]) Q E s := by
  generalize hg : (s.heap.push (seqObj "list" #[] 0)).update s.heap.objs.size (Obj.mapSeq (· ++ vs.toArray)) = g
  have size : g.objs.size = s.heap.objs.size + 1 := by
    rw [← hg, Heap.size_update, Heap.size_push]
  have old : ∀ b o, s.heap.get? b = some o → g.get? b = some o := fun b o q => by
    rw [← hg, Heap.get?_update_ne _ _ _ _ (Nat.ne_of_lt (Heap.lt_size q))]
    exact Heap.get?_push_of_some _ q
  have new : (g.push (seqObj "list" vs.toArray 0)).get? (s.heap.objs.size + 1) = some (seqObj "list" vs.toArray 0) := by
    rw [← size]
    exact Heap.get?_push_size _ rfl
  refine Calls.call_function_entry kind_sorted plain_sorted entry_sorted (args_sorted1 _) ?_
  unfold Builtin.«sorted»
  refine wpAny_bind (m := checkCount "sorted" 1 1 _) (wpAny_pure (wpAny_bind (collect_tup ht ?_ hz)))
  rw [hg]
  refine wpAny_bind (wpAny_newList ?_ hz)
  show wpAny _ _ _ _ _ { s with heap := g.push (seqObj "list" vs.toArray 0) }
  rw [size]
  refine wpAny_bind (wpAny_holding (wpAny_call_entry slot_list_sort ⟨_, new, rfl⟩ entry_list_sort (list_sort_ord O new hz (fun h2 => hS h2 _ _ new fun b o q => ?_) fun out hs hb => ⟨_, rfl, wpAny_pure ⟨_, rfl, ?_⟩⟩) (args_list_sort _)))
  · exact ⟨Nat.ne_of_lt (Nat.lt_succ_of_lt (Heap.lt_size q)), Heap.get?_push_of_some _ (old b o q)⟩
  · rw [← hg]
    exact h out hs hb
end
section
variable {X : Cx}
def rSortedA (K : PySem.W.Frag) : List V → Hp → VK → Prop := fun vs H Q => ∃ (a : Addr) (ns : List Int), vs = [V.ref a] ∧ (SqL K H a (ns.map V.int) ∨ SqT K H a (ns.map V.int)) ∧
  ∀ (ns' : List Int) (p : Addr), ns'.Perm ns → ns'.Pairwise (· ≤ ·) → H p = none → Q (.ref p) (upd H p (.lst (ns'.map V.int)))
theorem cr_sortedA : CallR X (.builtin "sorted") (rSortedA X.K) := by
  intro pins s σ H vs us Q I r h
  obtain ⟨a, ns, rfl, hs, q⟩ := h
  rcases hs with hs | ht
  · exact cr_sortedI pins s σ H _ us Q I r ⟨a, ns, rfl, hs, q⟩
  · obtain ⟨its, rv, hl, hz⟩ := I.tuple ht
    rw [Vals.ref1 r]
    have hi := rv.ints
    refine sorted_tup swo_int hl (by rw [← rv.length]; exact hz) (fun h2 h₁ a' _ _ => ints_sortable hi h2) fun out h1 h2 => ?_
    obtain ⟨k1, k2, k3⟩ := ints_out hi h1 h2
    obtain ⟨ep, at'⟩ := PyProof.Rows.sortedAll_at s.heap its out.toArray
    have hlen : ((out.map iv).map V.int).length ≤ sizeLine := by
      rw [List.length_map] at hz ⊢
      rw [k2.length_eq]
      exact hz
    exact ⟨.ref _, upd H (s.heap.objs.size + 1) (.lst ((out.map iv).map V.int)), I.laid (t' := s.toks) (fun _ _ => PyProof.Rows.sortedAll_old) (Nat.le_succ _) ⟨hlen, out, ep, vals_of_ints k1, at'⟩, rfl, q _ _ k2 k3 (I.hok.fresh (Nat.le_succ _))⟩
end
end OB
/-! A list or a tuple: gone through, asked for its kind. -/
namespace OB
open PySem PySem.Spec PyProof.Rows L2
theorem sqL_same {K : PySem.W.Frag} {H H' : Hp} {a : Addr} {xs : List V} (h : SqL K H a xs) (s : Same H H') : SqL K H' a xs := by
  rcases h with (h | ⟨o, h⟩) | h
  · exact .inl (.inl (s _ _ h))
  · exact .inl (.inr ⟨o, s _ _ h⟩)
  · exact .inr h
theorem sqT_same {K : PySem.W.Frag} {H H' : Hp} {a : Addr} {xs : List V} (h : SqT K H a xs) (s : Same H H') : SqT K H' a xs := by
  rcases h with (h | ⟨o, h⟩) | h
  · exact .inl (.inl (s _ _ h))
  · exact .inl (.inr ⟨o, s _ _ h⟩)
  · exact .inr h
def iSeqA (K : PySem.W.Frag) (te : TE) : TI := fun σ H R => te σ H fun x H1 => ∃ a, x = .ref a ∧ (((∃ xs, SqL K H1 a xs) ∧ R (Itl K a) H1) ∨ ((∃ xs, SqT K H1 a xs) ∧ R (Itt K a) H1))
theorem pi_seqA {X : Cx} {tg e : Expr} {te : TE} (he : PE X e te) : PI X tg e (iSeqA X.K te) := by
  refine ⟨fun pins s σ H R I h => thn (he.run pins s σ H _ I h) fun v s1 ⟨x, H1, I1, r1, a, ex, q⟩ => ?_⟩
  subst ex
  cases r1
  rcases q with ⟨⟨xs, hq⟩, q⟩ | ⟨⟨xs, hq⟩, q⟩
  · obtain ⟨its, rv, p, hz⟩ := I1.list hq
    exact wpAny_pyIter_list p.isList (pi_one (tk := s1.toks) I1 _ (turn_list a _) ⟨_, Heap.get?_push_size _ rfl, rfl, rfl⟩ q)
  · obtain ⟨its, rv, p, hz⟩ := I1.tuple hq
    exact wpAny_pyIter_tuple (show s1.heap.IsTuple a its.toArray from p) (pi_one (tk := s1.toks) I1 _ (turn_tuple a _) ⟨_, Heap.get?_push_size _ rfl, rfl, rfl⟩ q)
/-- a row over it, a list or a tuple: Pv by the new list, the turn and the heap -/
theorem lc_seqA {K : PySem.W.Frag} {a : Addr} {xs : List V} {g : TG} {tt : TT} {te : TE} {vs : List Nat} {σ : L2.St} {H1 : Hp} {Qd : Addr → Hp → Prop} (h : SqL K H1 a xs ∨ SqT K H1 a xs) (Pv : Addr → Nat → Hp → Prop)
    (h0 : ∀ D, H1 D = none → Pv D 0 (upd H1 D (.lst []))) (keep : ∀ D i H, H1 D = none → i ≤ xs.length → Pv D i H → Same H1 H)
    (hs : ∀ D i x H, H1 D = none → xs[i]? = some x → Pv D i H → g x (wipe σ vs) H fun σ2 H2 => wipe σ2 vs = wipe σ vs ∧ tt σ2 H2 fun b H3 =>
      if b = true then te σ2 H3 fun y H4 => ∃ acc, H4 D = some (.lst acc) ∧ acc.length < sizeLine ∧ Pv D (i + 1) (upd H4 D (.lst (acc ++ [y]))) else Pv D (i + 1) H3) (hd : ∀ D H, H1 D = none → Pv D xs.length H → Qd D H) :
    ((∃ ys, SqL K H1 a ys) ∧ ∀ D, H1 D = none → ∃ W : Nat → Nat → Hp → Prop, (∃ m, W 0 m (upd H1 D (.lst []))) ∧ ∀ i m H, W i m H →
      ((Itl K a).stop i H ∧ Qd D H) ∨ ((Itl K a).go i H ∧ ∃ Nx : Hp → Prop, (∀ H', Nx H' → ∃ m', m' < m ∧ W (i + 1) m' H') ∧ ∀ x H', (Itl K a).yld i H x H' → g x (wipe σ vs) H' fun σ2 H2 => wipe σ2 vs = wipe σ vs ∧ tt σ2 H2 fun b H3 =>
        if b = true then te σ2 H3 fun y H4 => ∃ acc, H4 D = some (.lst acc) ∧ acc.length < sizeLine ∧ Nx (upd H4 D (.lst (acc ++ [y]))) else Nx H3)) ∨
    ((∃ ys, SqT K H1 a ys) ∧ ∀ D, H1 D = none → ∃ W : Nat → Nat → Hp → Prop, (∃ m, W 0 m (upd H1 D (.lst []))) ∧ ∀ i m H, W i m H →
      ((Itt K a).stop i H ∧ Qd D H) ∨ ((Itt K a).go i H ∧ ∃ Nx : Hp → Prop, (∀ H', Nx H' → ∃ m', m' < m ∧ W (i + 1) m' H') ∧ ∀ x H', (Itt K a).yld i H x H' → g x (wipe σ vs) H' fun σ2 H2 => wipe σ2 vs = wipe σ vs ∧ tt σ2 H2 fun b H3 =>
        if b = true then te σ2 H3 fun y H4 => ∃ acc, H4 D = some (.lst acc) ∧ acc.length < sizeLine ∧ Nx (upd H4 D (.lst (acc ++ [y]))) else Nx H3)) := by
  rcases h with h | h
  · exact .inl ⟨⟨xs, h⟩, fun D hD => lc_list (Pv D) (h0 D hD) (fun i H hi p => sqL_same h (keep D i H hD hi p)) (fun i x H hx p => hs D i x H hD hx p) fun H p => hd D H hD p⟩
  · exact .inr ⟨⟨xs, h⟩, fun D hD => lc_tup (Pv D) (h0 D hD) (fun i H hi p => sqT_same h (keep D i H hD hi p)) (fun i x H hx p => hs D i x H hD hx p) fun H p => hd D H hD p⟩
/-- whether a value is a list or a tuple -/
def IsL (K : PySem.W.Frag) (H : Hp) (x : V) (b : Bool) : Prop := ∃ (n : String) (b1 b2 : Bool), TyX K H x (.type n) ∧ kitB n "list" = some b1 ∧ kitB n "tuple" = some b2 ∧ b = (b1 || b2)
theorem isL_any {K : PySem.W.Frag} {H : Hp} {x : V} {b : Bool} (h : IsL K H x b) : ∃ t, TyX K H x t ∧ PySem.W.kitAny K t [.type "list", .type "tuple"] = some b := by
  obtain ⟨n, b1, b2, ty, e1, e2, rfl⟩ := h
  refine ⟨_, ty, kitAny_cons (kit_ty e1) (fun z => kitAny_cons (kit_ty e2) (fun z2 => ?_) fun z2 => ?_) fun z => ?_⟩
  · rw [z, z2]
    exact kitAny_nil
  · rw [z, z2]
    rfl
  · rw [z]
    rfl
section
variable {K : PySem.W.Frag} {H : Hp}
theorem isL_int (i : Int) : IsL K H (.int i) false := ⟨"int", false, false, .base (.int i), by decide +kernel, by decide +kernel, rfl⟩
theorem isL_non : IsL K H .non false := ⟨"NoneType", false, false, .base .non, by decide +kernel, by decide +kernel, rfl⟩
theorem isL_bl (b : Bool) : IsL K H (.bl b) false := ⟨"bool", false, false, .base (.bl b), by decide +kernel, by decide +kernel, rfl⟩
theorem isL_str (x : Str) : IsL K H (.str x) false := ⟨"str", false, false, .base (.str x), by decide +kernel, by decide +kernel, rfl⟩
theorem isL_dK {a : Addr} {kvs : List (Key × V)} (e : H a = some (.dK kvs)) : IsL K H (.ref a) false := ⟨"dict", false, false, .base (.dK e), by decide +kernel, by decide +kernel, rfl⟩
theorem isL_lst {a : Addr} {xs : List V} (e : H a = some (.lst xs)) : IsL K H (.ref a) true := ⟨"list", true, false, .base (.lst e), by decide +kernel, by decide +kernel, rfl⟩
theorem isL_tup {a : Addr} {xs : List V} (e : H a = some (.tup xs)) : IsL K H (.ref a) true := ⟨"tuple", false, true, .base (.tup e), by decide +kernel, by decide +kernel, rfl⟩
end
end OB
/-! Promises of defs where it is known that no repr is under way: there repr of a list or a tuple is its text. -/
namespace OB
open PySem PySem.Spec PyProof.Rows L2 LamX
/-- what FnOk promises, asked only where no repr is under way -/
structure FnG (P : Program) (w : World) (K : PySem.W.Frag) (mg : Str → Option Value) (base : Heap) (CX : CXT) (k : Nat) (f : Addr) (fd : FuncData) (ps : List Str) (sp : Sp) : Prop where
  len : ∀ vs H Q E, sp vs H Q E → vs.length = ps.length
  run : ∀ (A : Around) (outer : List Env) (s : Shared) (H : Hp) (args : Args) (us : List Value) (vs : List V) (Q : VK) (E : XK), A.guards = some [] → Room k A → Env0 P w K mg base A outer s H → BindsTo s fd args (ps.zip us) → Vals vs us → sp vs H Q E →
    codeAny (model P w) A (.call (.ref f) args) (CR CX outer P w H s Q E) s
section
variable {P : Program} {w : World} {K : PySem.W.Frag} {mg : Str → Option Value} {base : Heap} {CX : CXT} {k : Nat} {f : Addr} {fd : FuncData} {ps : List Str} {sp : Sp}
theorem FnG.of (F : FnOk P w K mg base CX k f fd ps sp) : FnG P w K mg base CX k f fd ps sp := ⟨F.len, fun A outer s H args us vs Q E _ => F.run A outer s H args us vs Q E⟩
theorem fnG_of {name qual : Str} {params : Arguments} {body : List Stmt} {scope : Scope} {dV kV doc pm cdv ct oc : Value} {an od : Option Addr} {osl : Array (Option Value)} {N : List Str}
    (lk : K.lookup f = some ⟨oc, od, .func (PySem.W.fnOf name qual params body scope dV kV doc pm an cdv ct), osl⟩) (hcd : PySem.W.codeIn K cdv qual = true) (S : FnScope N ps scope) (len : ∀ vs H Q E, sp vs H Q E → vs.length = ps.length)
    (hbody : ∀ (A : Around) (outer : List Env) (s : Shared) (H : Hp) (vs : List V) (Q : VK) (E : XK), A.guards = some [] → Room k (A.deeper (envOfC qual scope s.heap.objs.size f cdv)) → sp vs H Q E →
      ∃ t, PSs (cxOf CX P w K mg base N qual scope f cdv A outer s H E) body t ∧ t { nx := fun _ H' => Q .non H', rt := Q } (L2.start N vs) H) :
    FnG P w K mg base CX (k + 1) f (PySem.W.fnOf name qual params body scope dV kV doc pm an cdv ct) ps sp :=
  ⟨len, fun A outer s H args us vs Q E hgd hr e0 hb r hsp => run_ofS lk hcd S hr e0 hb r (len _ _ _ _ hsp) fun hr' => hbody A outer s H vs Q E hgd hr' hsp⟩
theorem okG {x qual : Str} {st : Stmt} {N : List Str} (F : Fun K x qual st f fd) (S : FnScope N ps (defScope st)) (len : ∀ vs H Q E, sp vs H Q E → vs.length = ps.length)
    (hbody : ∀ (cdv : Value) (A : Around) (outer : List Env) (s : Shared) (H : Hp) (vs : List V) (Q : VK) (E : XK), A.guards = some [] → Room k (A.deeper (envOfC qual (defScope st) s.heap.objs.size f cdv)) → sp vs H Q E →
      ∃ t, PSs (cxOf CX0 P w K mg base N qual (defScope st) f cdv A outer s H E).nox (defBody st) t ∧ t { nx := fun _ H' => Q .non H', rt := Q } (L2.start N vs) H) : FnG P w K mg base CX0 (k + 1) f fd ps sp := by
  obtain ⟨oc, od, kV, doc, pm, an, cdv, ct, osl, rfl, lk, hcd⟩ := F.ex
  refine fnG_of lk hcd S len fun A outer s H vs Q E hgd hr hsp => ?_
  obtain ⟨t, h, q⟩ := hbody cdv A outer s H vs Q E hgd hr hsp
  exact ⟨t, h.nox, q⟩
end
section
variable {X : Cx} {CX : CXT} {k : Nat} {f : Addr} {fd : FuncData} {ps : List Str} {sp : Sp} {E : XK} {x : Str} {p pos : Pos} {e : Expr} {es : List Expr} {t : TA} {ds : List Value} {dvs : List V}
theorem run_fnG {pins : List (Addr × Obj)} {σ : L2.St} {H : Hp} {s : Shared} {Q : VK} {us : List Value} {vs : List V} (F : FnG X.prog X.w X.K X.mg X.base CX k f fd ps sp) (hgd : X.A.guards = some []) (hr : Room k X.A) (hb : L2.Binds X.K fd ps ds) (hd : Vals dvs ds) (hx : Passes CX X E)
    (I : Inv X pins σ H s) (r : Vals vs us) (h : sp (vs ++ dvs) H Q E) : wpAny (model X.prog X.w) X.A (call (.ref f) us) (EP X pins σ Q) X.xe s := by
  have r2 : Vals (vs ++ dvs) (us ++ ds) := r.append hd
  have hl : (us ++ ds).length = ps.length := r2.length ▸ F.len _ _ _ _ h
  refine wpAny_call (codeAny_mono (F.run X.A X.stack s H ⟨us, []⟩ (us ++ ds) (vs ++ dvs) Q E hgd hr I.env0 (hb s us I.kIn hl) r2 h) fun res s' hq => ?_)
  match res, hq with
  | .error _, hq => exact hx pins σ H s _ s' I hq
  | .ok (.ret _), hq => exact I.after hq
/-- f(e, ..), f promised where no repr is under way -/
theorem pe_callG (F : FnG X.prog X.w X.K X.mg X.base CX k f fd ps sp) (hgd : X.A.guards = some []) (hr : Room k X.A) (hg : Gl X x) (hm : X.mg x = some (.ref f)) (hk : PySem.W.keepIn X.K (.ref f) = true) (hb : L2.Binds X.K fd ps ds) (hd : Vals dvs ds) (hx : Passes CX X E)
    (ha : PA X (e :: es) t) (hdb : (x == ("__debug__" : Str)) = false := by decide) (he : starEach (e :: es) X.env = (false, eval e X.env) :: starEach es X.env := by rfl) (hpl : (backTo pos (starEach es X.env)).any (·.1) = false := by rfl) :
    PE X (.Call (.Name x p) (e :: es) [] pos) (tCall sp dvs E t) :=
  ⟨fun pins s σ H Q I h => wpAny_Call_Name_kw (ld_glob I hg hm (PySem.W.callWith_K (h₀ := X.base) I.ok.mod.kin hk (thn (ha.run pos pins s σ H _ I h) fun us s1 ⟨vs, H1, I1, r, q⟩ => ⟨I1.kIn, run_fnG F hgd hr hb hd hx I1 r q⟩) he hpl) hdb)⟩
/-- repr(x), x data of lists and tuples -/
def rReprD (K : PySem.W.Frag) : List V → Hp → VK → Prop := fun xs H Q => ∃ (a : Addr) (d : PyData), xs = [.ref a] ∧ Dp K H (.ref a) d ∧ d.showable = true ∧ d.canLay0 = true ∧ d.depth ≤ 60 ∧ d.shown.length ≤ sizeLine ∧ Q (.str d.shown) H
theorem call_reprD (hgd : X.A.guards = some []) (hu : X.A.units + 64 < cLine) : CallR X (.builtin "repr") (rReprD X.K) := by
  intro pins s σ H xs us Q I r h
  obtain ⟨a, d, rfl, hd, hs, hl, hdp, hz, q⟩ := h
  cases r with
  | cons r rr =>
    cases rr
    obtain ⟨as, rd⟩ := Dp.reads I d _ _ hd r
    cases r
    refine repr_of_reads' rd hs (PyData.noDict_hsm (PyData.hasDict_of_canLay d hl)) hgd (by omega) (fun _ _ e => e) (fun h' u tk hk => ?_) hz
    exact ⟨.str d.shown, H, I.kept hk, ⟨_, rfl⟩, q⟩
end
end OB
/-! The law's own call, its promise asked only where no repr is under way. -/
namespace OB
open PySem PySem.Spec PyProof.Rows L2 LamX
section
variable {P : Program} {w : World} {K : PySem.W.Frag} {mg mb : Str → Option Value} {CX : CXT} {k : Nat} {fa a : Addr} {cs : List (Addr × Addr)} {fd : FuncData} {x : Str} {sp : Sp} {s₁ : Shared} {vs : List Value} {ns : List Int}
/-- what is tracked as the law begins: its script, where it is no part of the text's own objects, and the tables of its lambdas -/
def top (K : PySem.W.Frag) (a : Addr) (vs : List Value) (ns : List Int) (T : List Addr) : Hp := fun b =>
  if b = a then (if K.lookup a = none then some (.frz { cls := .type "list", data := .seq vs.toArray } (.lst (ns.map V.int))) else none) else if b ∈ T then some (.tbl #[]) else none
theorem top_some {T : List Addr} {b : Addr} {u : HO} (h : top K a vs ns T b = some u) :
    (b = a ∧ K.lookup a = none ∧ u = .frz { cls := .type "list", data := .seq vs.toArray } (.lst (ns.map V.int))) ∨ (b ≠ a ∧ b ∈ T ∧ u = .tbl #[]) := by
  unfold top at h
  by_cases e : b = a
  · rw [if_pos e] at h
    by_cases n : K.lookup a = none
    · rw [if_pos n] at h
      exact .inl ⟨e, n, (Option.some.inj h).symm⟩
    · rw [if_neg n] at h
      cases h
  · rw [if_neg e] at h
    by_cases m : b ∈ T
    · rw [if_pos m] at h
      exact .inr ⟨e, m, (Option.some.inj h).symm⟩
    · rw [if_neg m] at h
      cases h
theorem top_none {T : List Addr} {b : Addr} (h1 : b = a → K.lookup a ≠ none) (h2 : b ∉ T) : top K a vs ns T b = none := by
  cases e : top K a vs ns T b with
  | none => rfl
  | some u =>
    rcases top_some e with ⟨q, n, _⟩ | ⟨_, m, _⟩
    · exact absurd n (h1 q)
    · exact absurd m h2
theorem law_callG (KX : K.In s₁.heap) (hns : s₁.heap.Ns mainGlobals mg) (hb : s₁.heap.Ns builtinsNs mb) (hbb : ∀ x : Str, x ≠ "__name__" → mb x = bootBuiltins x) (hlim : s₁.heap.NoLimit) (hg : s₁.gens = #[])
    (hT : ∀ p ∈ cs, s₁.heap.get? p.2 = some { cls := .none, data := .fields #[] }) (nT : ∀ p ∈ cs, K.lookup p.2 = none) (C : ∀ p ∈ cs, PySem.W.CodeHd s₁.heap p.1 p.2)
    (hbm : ∃ (bm : Addr) (ob : Obj), mg "__builtins__" = some (.ref bm) ∧ bm ≠ builtinsNs ∧ s₁.heap.get? bm = some ob ∧ ob.cls = .type "module" ∧ ob.dict = some builtinsNs ∧ ob.data = .plain)
    (ha : s₁.heap.get? a = some { cls := .type "list", data := .seq vs.toArray }) (hi : IntsAre vs ns) (hl : ns.length ≤ sizeLine) (hr : Room k callerA)
    (F : ∀ base : Heap, K.In base → base.Ns mainGlobals mg → (∀ p ∈ cs, TabB base mg p.1 p.2) → FnG P w K mg base CX k fa fd [x] sp) (hbind : ∀ (s : Shared) (u : Value), BindsTo s fd ⟨[u], []⟩ [(x, u)])
    (hsp : ∀ H : Hp, (∀ p ∈ cs, H p.2 = some (.tbl #[])) → SqL K H a (ns.map V.int) → sp [.ref a] H (fun v _ => v = .bl true) fun _ _ _ => False)
    (hCX : ∀ H e s', CX [] H s₁ (fun _ _ _ => False) e s' → False) :
    codeAny (model P w) callerA (.call (.ref fa) ⟨[.ref a], []⟩) (fun r s' => r = .ok (.ret (.bool true)) ∧ OldK s₁.heap s'.heap ∧ s'.os = s₁.os ∧ AllBare s'.gens) s₁ := by
  have rv := vals_ints hi
  obtain ⟨T, eT⟩ : ∃ T, T = cs.map (·.2) := ⟨_, rfl⟩
  have inT : ∀ p ∈ cs, p.2 ∈ T := fun p hp => eT ▸ List.mem_map.mpr ⟨p, hp, rfl⟩
  have ofT : ∀ b ∈ T, ∃ p ∈ cs, p.2 = b := fun b h => List.mem_map.mp (eT ▸ h)
  have tab : ∀ b ∈ T, s₁.heap.get? b = some { cls := .none, data := .fields #[] } := fun b h => by
    obtain ⟨p, hp, rfl⟩ := ofT b h
    exact hT p hp
  have aT : a ∉ T := fun z => by
    have q := (tab a z).symm.trans ha
    have q := congrArg Obj.data (Option.some.inj q)
    cases q
  obtain ⟨H, eH⟩ : ∃ H, H = top K a vs ns T := ⟨_, rfl⟩
  have some_ : ∀ {b u}, H b = some u → (b = a ∧ K.lookup a = none ∧ u = .frz { cls := .type "list", data := .seq vs.toArray } (.lst (ns.map V.int))) ∨ (b ≠ a ∧ b ∈ T ∧ u = .tbl #[]) := fun h => top_some (by rw [eH] at h; exact h)
  have hH : ∀ p ∈ cs, H p.2 = some (.tbl #[]) := fun p hp => by
    have ne : p.2 ≠ a := fun z => aT (z ▸ inT p hp)
    rw [eH]
    unfold top
    rw [if_neg ne, if_pos (inT p hp)]
  have hok : HOk P w H s₁.heap := fun b u z => by
    rcases some_ z with ⟨rfl, _, rfl⟩ | ⟨_, m, rfl⟩
    · exact ⟨ha, by rw [List.length_map]; exact hl, vs, _, rv, ha⟩
    · exact tab b m
  have hS : SqL K H a (ns.map V.int) := by
    cases hk : K.lookup a with
    | none =>
      refine .inl (.inr ⟨{ cls := .type "list", data := .seq vs.toArray }, ?_⟩)
      rw [eH]
      unfold top
      rw [if_pos rfl, if_pos hk]
    | some o =>
      have e := (KX a o hk).symm.trans ha
      cases e
      exact .inr ⟨_, vs.toArray, _, hk, rfl, rfl, rfl, by rw [List.size_toArray, hi.length]; exact hl, by simpa using rv⟩
  -- what is no list and no empty table is not tracked
  have bare : ∀ {b : Addr} {o : Obj}, s₁.heap.get? b = some o → (∀ vs n, o.data ≠ .seq vs n) → o.data ≠ .fields #[] → H b = none := fun {b o} e h1 h2 => by
    cases q : H b with
    | none => rfl
    | some u =>
      rcases some_ q with ⟨rfl, _, _⟩ | ⟨_, m, _⟩
      · cases e.symm.trans ha
        exact (h1 _ _ rfl).elim
      · cases e.symm.trans (tab b m)
        exact (h2 rfl).elim
  have under : ∀ {b : Addr} {o : Obj}, s₁.heap.get? b = some o → H b = none → (hidT s₁.heap H).get? b = some o := fun e n => hidT_get e n
  have names : ∀ {b : Addr} {m : Str → Option Value}, s₁.heap.Ns b m → (hidT s₁.heap H).Ns b m := fun {b m} ⟨o, es, ep, e, d, r⟩ =>
    ⟨o, es, ep, under e (bare e (fun vs n z => by rw [d] at z; cases z) fun z => by rw [d] at z; cases z), d, r⟩
  have hKb : K.In (hidT s₁.heap H) := fun b o e => under (KX b o e) (by
    cases q : H b with
    | none => rfl
    | some u =>
      rcases some_ q with ⟨rfl, n, _⟩ | ⟨_, m, _⟩
      · rw [n] at e
        cases e
      · obtain ⟨p, hp, rfl⟩ := ofT b m
        rw [nT p hp] at e
        cases e)
  have hM : L2.Mod K mg (hidT s₁.heap H) := ⟨hKb, names hns, ⟨mb, names hb, hbb⟩, let ⟨mc, h1, h2⟩ := hlim; ⟨mc, names h1, h2⟩⟩
  have TB : ∀ p ∈ cs, TabB (hidT s₁.heap H) mg p.1 p.2 := fun p hp => by
    have hTp := hT p hp
    refine ⟨?_, ?_, fun z => ?_⟩
    · obtain ⟨o, us, file, tf, flags, tg, inF, text, tt, e1, r1, r2, r3, rest⟩ := C p hp
      exact ⟨o, us, file, tf, flags, tg, inF, text, tt, under e1 (bare e1 (fun vs n z => by rw [r2] at z; cases z) fun z => by
        rw [r2] at z
        cases z
        simp at r3), r1, r2, r3, rest⟩
    · obtain ⟨bm, ob, b1, b2, b3, b4, b5, b6⟩ := hbm
      refine ⟨bm, ob, b1, b2, fun q => ?_, fun q => ?_, under b3 (bare b3 (fun vs n z => by rw [b6] at z; cases z) fun z => by rw [b6] at z; cases z), b4, b5, b6⟩
      · obtain ⟨o, es, ep, e, hd, _⟩ := hns
        rw [q, e] at b3
        cases b3
        rw [hd] at b6
        cases b6
      · rw [q, hTp] at b3
        cases b3
        cases b6
    · obtain ⟨o, es, ep, e, hd, _⟩ := hns
      rw [z, hTp] at e
      cases e
      cases hd
  have e0 : Env0 P w K mg (hidT s₁.heap H) callerA [] s₁ H := ⟨rfl, hM, fun b o e => of_hidT e, Nat.le_of_eq (hidT_size _ _), trivial, fun b hb => absurd (show b ∈ ([] : List Addr) from hb) (by simp), hok, .of_eq hg⟩
  refine codeAny_mono ((F _ hKb (names hns) TB).run callerA [] s₁ H ⟨[.ref a], []⟩ [.ref a] [.ref a] _ _ rfl hr e0 (hbind s₁ (.ref a)) (.cons rfl .nil) (hsp H hH hS)) fun r s' h => ?_
  match r, h with
  | .error e, h => exact (hCX H e s' h).elim
  | .ok (.ret u), h =>
    obtain ⟨v, H', os, bs, un, hok', r', q⟩ := h
    have q : v = .bl true := q
    subst q
    obtain rfl : u = Value.bool true := r'
    have key : ∀ b o, b ∉ T → s₁.heap.get? b = some o → s'.heap.get? b = some o := fun b o nb e => by
      cases q : H b with
      | none => exact un.keep b o e q (by intro z; exact absurd (show b ∈ ([] : List Addr) from z) (by simp)) (by simp)
      | some u =>
        rcases some_ q with ⟨rfl, _, rfl⟩ | ⟨_, m, _⟩
        · obtain ⟨e1, _⟩ := hok b _ q
          obtain ⟨e2, _⟩ := hok' b _ (un.frzs b _ _ q)
          rw [e] at e1
          cases e1
          exact e2
        · exact absurd m nb
    have grown : ∀ p ∈ cs, ∃ more : Array Value, s'.heap.get? p.2 = some { cls := .none, data := .fields more } := fun p hp => by
      obtain ⟨more, z⟩ := un.tbls p.2 #[] (hH p hp)
      exact ⟨_, hok' p.2 _ z⟩
    refine ⟨rfl, ⟨fun b o e => ?_, fun b o e => ?_⟩, os, bs⟩
    · by_cases m : b ∈ T
      · obtain ⟨p, hp, rfl⟩ := ofT b m
        obtain ⟨more, hm⟩ := grown p hp
        rw [hT p hp] at e
        cases e
        exact .inr (.inl ⟨((C p hp).tab (hT p hp)).isCodeTable, rfl, #[], more, rfl, by rw [Array.empty_append]; exact hm⟩)
      · exact .inl (key b o m e)
    · by_cases m : b ∈ T
      · obtain ⟨p, hp, rfl⟩ := ofT b m
        obtain ⟨more, hm⟩ := grown p hp
        exact ⟨_, hm⟩
      · exact ⟨o, key b o m e⟩
/-- what is known of the law's promise at the head's heap -/
def LawG (l : PySem.W.OpenLaw) (w : World) (K : PySem.W.Frag) (CX : CXT) (k n : Nat) (x : Str) (mg : Str → Option Value) (fa : Addr) (h : Heap) : Prop :=
  ∃ (fd : FuncData) (cs : List (Addr × Addr)) (sp : Sp), ((∀ p ∈ cs, h.get? p.2 = some { cls := .none, data := .fields #[] }) ∧ (∀ p ∈ cs, K.lookup p.2 = none) ∧ (∀ p ∈ cs, PySem.W.CodeHd h p.1 p.2)) ∧ (∀ (s : Shared) (u : Value), BindsTo s fd ⟨[u], []⟩ [(x, u)]) ∧
    (∀ (H : Hp) (a : Addr) (ns : List Int), ns.length ≤ n → (∀ z ∈ ns, Builtin.Int.intBits z ≤ 1048576) → (∀ p ∈ cs, H p.2 = some (.tbl #[])) → SqL K H a (ns.map V.int) → sp [.ref a] H (fun v _ => v = .bl true) fun _ _ _ => False) ∧
    ∀ base : Heap, K.In base → base.Ns mainGlobals mg → (∀ p ∈ cs, TabB base mg p.1 p.2) → FnG l.prog w K mg base CX k fa fd [x] sp
end
theorem walk_G {l : PySem.W.OpenLaw} {n k : Nat} {q : Program} {loose : List Str} {XP : (Str → Option Value) → Heap → Prop} {YP : World → Heap → Prop} {d : DefRec} {K : Params → PySem.W.Frag} {CX : World → CXT} {x : Str}
    (hn : l.most = some n) (hn2 : n ≤ sizeLine) (hdf : d.params.defaults = []) (hr : Room k callerA) (hY : ∀ (w : World) (h : Heap), YP w h → (K w.params).In h)
    (F : ∀ (w : World) (mg : Str → Option Value) (fa : Addr) (h : Heap), YP w h → (K w.params).In h → h.Ns mainGlobals mg → mg d.name = some (.ref fa) → LawG l w (K w.params) (CX w) k n x mg fa h)
    (hCX : ∀ (w : World) (H : Hp) (s : Shared) (e : Value) (s' : Shared), CX w [] H s (fun _ _ _ => False) e s' → False) :
    PySem.W.WalkO q loose XP YP l.row.toRowW d [] (fun f vs => PySem.call f vs) := by
  refine Att.attach_callB hn hdf fun w s₀ s₁ mg mb fa o pm cd doc a vs ns G Y ho hd hcd hmg hobj hints hlen hbits hg => ?_
  have KX := hY w _ Y
  obtain ⟨fd, cs, sp, ⟨hT, nT, C⟩, hb, hsp, hF⟩ := F w mg fa _ Y KX G.T.g hmg
  exact law_callG KX G.T.g G.T.b G.T.builtins G.T.nolimit hg hT nT C G.T.bmain hobj hints (Nat.le_trans hlen hn2) hr hF hb (fun H hH hS => hsp H a ns hlen hbits hH hS) fun H e s' => hCX w H s₁ e s'
end OB
/-! repr of a list or a tuple of ints. -/
namespace OB
open PySem PySem.Spec PyProof.Rows L2
theorem shown_ints : ∀ ns : List Int, PyData.shownAll (ns.map PyData.int) = ns.map fun n => Str.ofString (toString n)
  | [] => by simp [PyData.shownAll]
  | n :: r => by simp [PyData.shownAll, PyData.shown, shown_ints r]
theorem show_ints : ∀ ns : List Int, (∀ n ∈ ns, n.natAbs.log2 < 1920) → PyData.showableAll (ns.map PyData.int) = true
  | [], _ => by simp [PyData.showableAll]
  | n :: r, h => by
    have h1 := h n List.mem_cons_self
    have h2 := show_ints r fun x hx => h x (List.mem_cons_of_mem _ hx)
    simp [PyData.showableAll, PyData.showable, h2, h1]
theorem piled_ints : ∀ ns : List Int, (∀ n ∈ ns, n.natAbs.log2 < 1920) → piled (ns.map fun n => Str.ofString (toString n)) ≤ 1923 * ns.length
  | [], _ => Nat.zero_le _
  | n :: r, h => by
    have h1 := int_text_len_1921 (h n List.mem_cons_self)
    have h2 := piled_ints r fun x hx => h x (List.mem_cons_of_mem _ hx)
    rw [List.map_cons, piled_cons, List.length_cons]
    omega
theorem list_len (ts : List Str) : (listText ts).length ≤ piled ts + 2 := by
  have one : (("[" : String) : Str).length = 1 := rfl
  have two : (("]" : String) : Str).length = 1 := rfl
  unfold listText
  rw [strLen_append, two]
  cases ts with
  | nil =>
    show (("[" : String) : Str).length + 1 ≤ _
    rw [one]
    exact Nat.le_add_left _ _
  | cons t r =>
    show (textFrom 1 ((("[" : String) : Str) ++ t) r).length + 1 ≤ _
    rw [textFrom_length_pos r 1 _ (by decide), strLen_append, one, piled_cons]
    omega
theorem depth_ints (ns : List Int) : PyData.depthAll (ns.map PyData.int) ≤ 1 := deep_ints ns
/-- the text of a list, of a tuple of ints -/
def tl (ns : List Int) : Str := PyData.shown (.list (ns.map PyData.int))
def tt (ns : List Int) : Str := PyData.shown (.tuple (ns.map PyData.int))
theorem tl_len {ns : List Int} (h : ∀ n ∈ ns, n.natAbs.log2 < 1920) (hl : ns.length ≤ 1000) : (tl ns).length ≤ sizeLine := by
  have a := piled_ints ns h
  have b := list_len (ns.map fun n => Str.ofString (toString n))
  show (listText (PyData.shownAll (ns.map PyData.int))).length ≤ sizeLine
  rw [shown_ints, sizeLine_eq]
  omega
theorem tt_len {ns : List Int} (h : ∀ n ∈ ns, n.natAbs.log2 < 1920) (hl : ns.length ≤ 1000) : (tt ns).length ≤ sizeLine := by
  have a := piled_ints ns h
  have b := fmt_text (ns.map fun n => Str.ofString (toString n))
  show (tupleText (PyData.shownAll (ns.map PyData.int))).length ≤ sizeLine
  rw [shown_ints, sizeLine_eq]
  omega
section
variable {X : Cx}
def rReprI (K : PySem.W.Frag) : List V → Hp → VK → Prop := fun xs H Q => ∃ (a : Addr) (ns : List Int), xs = [.ref a] ∧ (∀ n ∈ ns, n.natAbs.log2 < 1920) ∧ ns.length ≤ 1000 ∧ ((SqL K H a (ns.map V.int) ∧ Q (.str (tl ns)) H) ∨ (SqT K H a (ns.map V.int) ∧ Q (.str (tt ns)) H))
theorem call_reprI (hgd : X.A.guards = some []) (hu : X.A.units + 64 < cLine) : CallR X (.builtin "repr") (rReprI X.K) := by
  intro pins s σ H xs us Q I r h
  obtain ⟨a, ns, rfl, hs, hl, q⟩ := h
  have sh := show_ints ns hs
  have d := depth_ints ns
  rcases q with ⟨hq, q⟩ | ⟨hq, q⟩
  · refine call_reprD hgd hu pins s σ H _ us Q I r ⟨a, .list (ns.map PyData.int), rfl, Dp.lst hq (dp_ints ns), by simp [PyData.showable, sh], by simp [PyData.canLay0, lay_ints], ?_, tl_len hs hl, q⟩
    show PyData.depthAll (ns.map PyData.int) + 1 ≤ 60
    omega
  · refine call_reprD hgd hu pins s σ H _ us Q I r ⟨a, .tuple (ns.map PyData.int), rfl, Dp.tup hq (dp_ints ns), by simp [PyData.showable, sh], by simp [PyData.canLay0, lay_ints], ?_, tt_len hs hl, q⟩
    show PyData.depthAll (ns.map PyData.int) + 1 ≤ 60
    omega
end
end OB
/-! What a reader of errors told, call by call, in a list that grows; things that stay meanwhile. -/
namespace OB
open PySem PySem.Spec PyProof.Rows L2 LamX
/-- a list that begins with a reference, or a table: what may change -/
def refL : HO → Bool
  | .lst (.ref _ :: _) => true
  | .tbl _ => true
  | _ => false
def Keep (H H' : Hp) : Prop := ∀ q o, H q = some o → refL o = false → H' q = some o
section
variable {H H' H1 H2 : Hp}
theorem Keep.refl : Keep H H := fun _ _ h _ => h
theorem Keep.trans (a : Keep H H1) (b : Keep H1 H2) : Keep H H2 := fun q o h n => b q o (a q o h n) n
theorem Keep.ext (e : ExtN H H') : Keep H H' := fun q o h n => e q o h fun ps z => by
  subst z
  cases n
theorem Keep.same (s : Same H H') : Keep H H' := fun q o h _ => s q o h
theorem Keep.but {p : Addr} (b : But p H H') (hp : ∃ x r, H p = some (.lst (.ref x :: r))) : Keep H H' := fun q o h n => b q o h fun z => by
  obtain ⟨x, r, hp⟩ := hp
  rw [z, hp] at h
  cases h
  cases n
theorem orch_ref {p b : Addr} {n : Nat} (o : Orch H p b n) : ∃ x r, H p = some (.lst (.ref x :: r)) := by
  obtain ⟨ns, t, l, h1, _⟩ := o
  exact ⟨_, _, h1⟩
theorem orch_extN {p b : Addr} {n : Nat} (o : Orch H p b n) (e : ExtN H H') : Orch H' p b n := by
  obtain ⟨ns, t, l, h1, h2, h3⟩ := o
  exact ⟨ns, t, l, e _ _ h1 (fun _ z => nomatch z), e _ _ h2 (fun _ z => nomatch z), h3⟩
theorem tabs_butN {T : List (Addr × Str)} {p : Addr} {xs : List V} (t : Tabs T H) (b : But p H H') (hp : H p = some (.lst xs)) : Tabs T H' := fun x hx => by
  obtain ⟨ps, h1, h2, h3⟩ := t x hx
  have n1 : x.1 ≠ p := fun z => by
    rw [z, hp] at h1
    cases h1
  refine ⟨ps, b _ _ h1 n1, h2, fun pos cv hc => ?_⟩
  obtain ⟨c, e1, e2⟩ := h3 pos cv hc
  have n2 : c ≠ p := fun z => by
    rw [z, hp] at e2
    have e2 := Option.some.inj e2
    cases e2
  exact ⟨c, e1, b _ _ e2 n2⟩
theorem tabs_orchN {T : List (Addr × Str)} {p b : Addr} {n : Nat} (t : Tabs T H) (B : But p H H') (o : Orch H p b n) : Tabs T H' := by
  obtain ⟨ns, x, y, hp, _⟩ := o
  exact tabs_butN t B hp
/-- things that stay -/
def Fix (A : List (Addr × HO)) (H : Hp) : Prop := ∀ a ∈ A, H a.1 = some a.2 ∧ refL a.2 = false
theorem Fix.nil : Fix [] H := fun a h => absurd h List.not_mem_nil
theorem Fix.cons {A : List (Addr × HO)} {a : Addr} {o : HO} (h : H a = some o) (n : refL o = false) (f : Fix A H) : Fix ((a, o) :: A) H := fun x hx => by
  rcases List.mem_cons.mp hx with e | e
  · rw [e]
    exact ⟨h, n⟩
  · exact f x e
theorem Fix.keep {A : List (Addr × HO)} (f : Fix A H) (k : Keep H H') : Fix A H' := fun a ha => ⟨k _ _ (f a ha).1 (f a ha).2, (f a ha).2⟩
theorem Fix.get {A : List (Addr × HO)} (f : Fix A H) {a : Addr} {o : HO} (h : (a, o) ∈ A) : H a = some o := (f _ h).1
theorem Fix.app {A B : List (Addr × HO)} (f : Fix A H) (g : Fix B H) : Fix (A ++ B) H := fun a ha => by
  rcases List.mem_append.mp ha with e | e
  · exact f a e
  · exact g a e
/-- what the reader told: a kind and a part, or None -/
def Ent (H : Hp) (v : V) : Option (Str × Str) → Prop
  | none => v = .non
  | some k => ∃ t, v = .ref t ∧ H t = some (.tup [.str k.1, .str k.2])
def Res (H : Hp) : List V → List (Option (Str × Str)) → Prop
  | [], [] => True
  | v :: r, k :: ks => Ent H v k ∧ Res H r ks
  | _, _ => False
theorem Ent.keep {v : V} {k : Option (Str × Str)} (e : Ent H v k) (q : Keep H H') : Ent H' v k := by
  cases k with
  | none => exact e
  | some k =>
    obtain ⟨t, rfl, h⟩ := e
    exact ⟨t, rfl, q _ _ h rfl⟩
theorem Res.keep (q : Keep H H') : ∀ {vs : List V} {ks : List (Option (Str × Str))}, Res H vs ks → Res H' vs ks
  | [], [], _ => trivial
  | _ :: _, _ :: _, ⟨a, b⟩ => ⟨a.keep q, Res.keep q b⟩
theorem Res.snoc {v : V} {k : Option (Str × Str)} (e : Ent H v k) : ∀ {vs : List V} {ks : List (Option (Str × Str))}, Res H vs ks → Res H (vs ++ [v]) (ks ++ [k])
  | [], [], _ => ⟨e, trivial⟩
  | _ :: _, _ :: _, ⟨a, b⟩ => ⟨a, Res.snoc e b⟩
theorem Res.length : ∀ {vs : List V} {ks : List (Option (Str × Str))}, Res H vs ks → vs.length = ks.length
  | [], [], _ => rfl
  | _ :: _, _ :: _, ⟨_, b⟩ => congrArg (· + 1) (Res.length b)
def entD : Option (Str × Str) → PyData
  | none => .none
  | some k => .tuple [.str k.1, .str k.2]
theorem Ent.dp {K : PySem.W.Frag} {v : V} {k : Option (Str × Str)} (e : Ent H v k) : Dp K H v (entD k) := by
  cases k with
  | none =>
    have e : v = .non := e
    rw [e]
    exact .non
  | some k =>
    obtain ⟨t, rfl, h⟩ := e
    exact Dp.tup (SqT.of h) (.cons (.str _) (.cons (.str _) .nil))
theorem Res.dp {K : PySem.W.Frag} : ∀ {vs : List V} {ks : List (Option (Str × Str))}, Res H vs ks → DpAll K H vs (ks.map entD)
  | [], [], _ => .nil
  | _ :: _, _ :: _, ⟨a, b⟩ => .cons a.dp (Res.dp b)
/-- between two calls of the reader -/
structure St (T : List (Addr × Str)) (p b h : Addr) (A : List (Addr × HO)) (n : Nat) (H : Hp) (vs : List V) (ks : List (Option (Str × Str))) : Prop where
  tabs : Tabs T H
  orch : Orch H p b n
  at' : H h = some (.lst vs)
  hp : h ≠ p
  hb : h ≠ b
  fix : Fix A H
  res : Res H vs ks
  first : ∃ x r, vs = .ref x :: r
variable {T : List (Addr × Str)} {p b h : Addr} {A : List (Addr × HO)} {n m : Nat} {vs : List V} {ks : List (Option (Str × Str))}
theorem St.ext (s : St T p b h A n H vs ks) (e : ExtN H H') (t : Tabs T H') : St T p b h A n H' vs ks :=
  ⟨t, orch_extN s.orch e, e _ _ s.at' (fun _ z => nomatch z), s.hp, s.hb, s.fix.keep (.ext e), s.res.keep (.ext e), s.first⟩
theorem St.but (s : St T p b h A n H vs ks) (B : But p H H') (O : Orch H' p b m) : St T p b h A m H' vs ks :=
  ⟨tabs_orchN s.tabs B s.orch, O, B _ _ s.at' s.hp, s.hp, s.hb, s.fix.keep (.but B (orch_ref s.orch)), s.res.keep (.but B (orch_ref s.orch)), s.first⟩
theorem St.add {v : V} {k : Option (Str × Str)} (s : St T p b h A n H vs ks) (e : Ent H v k) : St T p b h A n (upd H h (.lst (vs ++ [v]))) (vs ++ [v]) (ks ++ [k]) := by
  obtain ⟨x, r, ev⟩ := s.first
  have B : But h H (upd H h (.lst (vs ++ [v]))) := but_at
  have kp : Keep H (upd H h (.lst (vs ++ [v]))) := .but B ⟨x, r, by rw [s.at', ev]⟩
  refine ⟨tabs_butN s.tabs B s.at', s.orch.keep (fun u hu => B _ _ hu (fun z => s.hp z.symm)) (fun u hu => B _ _ hu (fun z => s.hb z.symm)), upd_same, s.hp, s.hb, s.fix.keep kp, (s.res.keep kp).snoc (e.keep kp), x, r ++ [v], by rw [ev]; rfl⟩
theorem St.begin {t h : Addr} {k : Str × Str} (hT : Tabs T H) (O : Orch H p b n) (F : Fix A H) (e : Ent H (.ref t) (some k)) (hh : H h = none) : St T p b h A n (upd H h (.lst [.ref t])) [.ref t] [some k] := by
  have S := same_new (o := .lst [.ref t]) hh
  obtain ⟨u, hu⟩ := O.pn
  obtain ⟨u2, hu2⟩ := O.bn
  exact ⟨hT.ext S, O.same S, upd_same, (ne_of_none hu hh).symm, (ne_of_none hu2 hh).symm, F.keep (.same S), ⟨e.keep (.same S), trivial⟩, t, [], rfl⟩
end
end OB
/-! `except X as n: kept = n` as the first of several clauses, where X is what comes. -/
namespace OB
open PySem PySem.Spec PyProof.Rows L2
def wKeep1 (K : PySem.W.Frag) (c : Value) (i j : Nat) (D : Ends) : WX := fun cls d σ H =>
  PySem.W.exmOne K cls c = some true ∧ ∀ a, H a = none → D.nx (((σ.set i (some (.ref a))).set j (some (.ref a))).set i none) (upd H a (ExA cls d a))
section
variable {X : Cx} {x n m : Str} {c : Value} {i j : Nat} {body : List Stmt} {np pos pos' p1 p2 p3 : Pos} {tb : WX → TS} {hds : List ExceptHandler}
theorem ps_try_keep1 (hs : X.stack = X.env :: X.outer) (hf : X.env.frame = some X.env.locals) (hx : X.ex = []) (hN : X.N.Nodup) (hi : X.N[i]? = some n) (hln : X.env.kindOf n = some .local)
    (hj : X.N[j]? = some m) (hlm : X.env.scope.names.lookup m = some .local) (hc : Names X x c)
    (hb : ∀ (W : WX) (pn : List (Addr × Obj)) (xe : Value → Shared → Prop), Takes (X.tr pn xe) W → PassesOwn (model X.prog X.w) X.A X.env xe → PSs (X.tr pn xe) body (tb W))
    (hdn : (n == ("__debug__" : Str)) = false := by decide) (hcn : (n == ("__classdict__" : Str)) = false := by decide)
    (hsw : ∀ env : Env, swapsWith (.Name n p2) (some (.Name m p1)) p3.line env = pure false := by intro _; rfl) :
    PS X (.Try body (.ExceptHandler (some (.Name x np)) (some n) [.Assign [.Name m p1] (.Name n p2) p3] pos' :: hds) [] [] pos) (fun D σ H => tb (wKeep1 X.K c i j D) D σ H) := by
  refine ⟨fun pins s σ H D I h => ?_⟩
  have okX := I.ok
  have frames : X.A.frames = some (X.env :: X.outer) := by rw [okX.frames, hs]
  have lj : Loc X.env.scope m := .inl hlm
  refine wpAny_Try_except ?_
  have run := (hb (wKeep1 X.K c i j D) (X.pn ++ pins) (fun e s₁ => wpAny (model X.prog X.w) X.A (noteFrame e X.env)
    (fun _ s₂ => wpAny (model X.prog X.w) X.A (setFlight e none)
      (fun _ s₃ => wpAny (model X.prog X.w) X.A (handleBy e X.env (.ExceptHandler (some (.Name x np)) (some n) [.Assign [.Name m p1] (.Name n p2) p3] pos' :: hds)) (SP X pins D) X.xe s₃) X.xe s₂) X.xe s₁)
    (fun u s' air => ?_) PassesOwn.looking).run [] s σ H D (I.toTry _) h
  · refine wpAny_mono run (fun f s1 end1 => ?_) (fun _ _ z => z)
    cases f with
    | next =>
      obtain ⟨σ1, H1, J1, q⟩ := end1
      exact wpAny_execs_nil ⟨σ1, H1, J1.ofTry okX, q⟩
    | ret u =>
      obtain ⟨v, σ1, H1, J1, r, q⟩ := end1
      exact ⟨v, σ1, H1, J1.ofTry okX, r, q⟩
    | brk =>
      obtain ⟨σ1, H1, J1, q⟩ := end1
      exact ⟨σ1, H1, J1.ofTry okX, q⟩
    | cont =>
      obtain ⟨σ1, H1, J1, q⟩ := end1
      exact ⟨σ1, H1, J1.ofTry okX, q⟩
  · obtain ⟨a, B, sI, pins1, σ1, H1, cls, d, rfl, J0, ground, up0, sky, na, os1, bare1, hb1, yes⟩ := air
    have J : Inv X pins σ1 H1 sI := J0.ofTry okX
    have skyX : Sky B (X.env :: X.outer) a (Zc cls d) X.env.locals s'.heap := by
      rw [← hs]
      exact sky
    have Ba : B.get? a = none := by
      rcases skyX with ⟨_, z, _⟩ | ⟨_, z, _⟩ | ⟨_, z, _⟩ <;> exact z
    show wpAny (model X.prog X.w) X.A (noteFrame (.ref a) X.env) _ _ _
    refine Sky.land Zc.steady frames hf skyX fun h3 fl3 up3 => ?_
    have J3 : Inv X pins σ1 H1 { s' with heap := h3 } := J.landed ground fl3.1 (up0.trans up3) os1 bare1
    obtain ⟨oe3, vs3, he3, hz3, hd3⟩ := fl3.there
    have off : a ∉ frs (X.env :: X.outer) := fun hm => by
      obtain ⟨_, o', e', hnf⟩ := fl3.2.2.1.mem hm
      rw [he3] at e'
      cases e'
      exact hnf _ hd3
    have sIa : sI.heap.get? a = none := by
      cases e : sI.heap.get? a with
      | none => rfl
      | some o =>
        have z := ground a o e (by rw [hs]; exact off)
        rw [Ba] at z
        cases z
    have s0a : X.s_0.heap.get? a = none := by
      cases e : X.s_0.heap.get? a with
      | none => rfl
      | some o =>
        obtain ⟨o', z⟩ := J.base.there a o e (by rw [hx]; exact fun z => nomatch z)
        rw [sIa] at z
        cases z
    have nL : a ≠ X.env.locals := fun z => off (List.mem_filterMap.mpr ⟨X.env, List.mem_cons_self, by rw [hf, z]⟩)
    have nF : a ∉ X.fs := fun hm => by
      obtain ⟨e, he, q⟩ := List.mem_filterMap.mp hm
      exact off (List.mem_filterMap.mpr ⟨e, List.mem_cons_of_mem _ he, q⟩)
    have nC : ∀ y k, X.env.cells.lookup y = some k → k ≠ a := fun y k e z => by
      obtain ⟨v, o, ho, _⟩ := J.cell y k e
      rw [z, sIa] at ho
      cases ho
    have nP : ∀ p ∈ X.pn ++ pins, p.1 ≠ a := fun p hp z => by
      have q := (J.pin p hp).1
      rw [z, sIa] at q
      cases q
    have S3 := J3.suite he3 hd3 na nL nF
    refine wpAny_handleBy_cons (codeAny_handlers_test ?_) (by intro q; cases q)
    have LT : PySem.W.Looks (model X.prog X.w) h3 (typeOf (.ref a)) cls := fun A Q E s k q => wpAny_typeOf_ref (k _ _ he3) (by rw [hz3.1]; exact q)
    have LM := PySem.W.exm_one (M := model X.prog X.w) (J3.kIn) LT hb1
    have named : ∀ {Q : Value → Shared → Prop} {E : Value → Shared → Prop}, Q c { s' with heap := h3 } →
        wpAny (model X.prog X.w) (X.A.mark (some (.ref a))) (eval (.Name x np) X.env) Q E { s' with heap := h3 } := fun {Q E} q => by
      obtain ⟨hg, hdbg, hm | ⟨hm, hv, hnn⟩⟩ := hc
      · exact ld_glob (X := X.suite a ((a, oe3) :: (X.pn ++ pins))) S3 hg hm q hdbg
      · exact ld_blt (X := X.suite a ((a, oe3) :: (X.pn ++ pins))) S3 hg hm hv q hnn hdbg
    refine named (LM.here ?_)
    refine codeAny_handlers_suite_as ?_
    refine HandSPX.lands_againZ fl3 fun h4 fl4 up4 => ?_
    have J4 : Inv X pins σ1 H1 { s' with heap := h4 } := J.landed ground fl4.1 ((up0.trans up3).trans up4) os1 bare1
    obtain ⟨oe4, vs4, he4, hz4, hd4⟩ := fl4.there
    have S4 := J4.suite he4 hd4 na nL nF
    refine store_ok (X := X.suite a ((a, oe4) :: (X.pn ++ pins))) (v := .ref a) S4 hN hi (.inl hln) rfl (fun s5 S5 => ?_) (.inr hln)
    have hiσ : i < σ1.length := by
      rw [J.len]
      exact (List.getElem?_eq_some_iff.mp hi).1
    have kept := pss_one (ps_set (X := X.suite a ((a, oe4) :: (X.pn ++ pins))) (pos := p3) (pos' := p1) hN hj lj (pe_var (X := X.suite a ((a, oe4) :: (X.pn ++ pins))) (pos := p2) hi (.inl hln) hdn hcn) (hsw _) (.inr hlm))
    refine wpAny_mono (kept.run [] s5 _ H1 { nx := fun σ' H' => H' = H1 ∧ σ' = (σ1.set i (some (.ref a))).set j (some (.ref a)), rt := fun _ _ => False, bk := fun _ _ => False, ct := fun _ _ => False } S5
      ⟨.ref a, by rw [List.getElem?_set_self hiσ], rfl, rfl⟩) (fun f s6 end6 => ?_) (fun _ _ z => False.elim z)
    cases f with
    | next =>
      obtain ⟨σ6, H6, S6, e6, e7⟩ := end6
      subst e6 e7
      have at6 := (S6.pin (a, oe4) (List.mem_append_left _ List.mem_cons_self)).1
      have J6 : Inv X pins _ H6 s6 := S6.unsuite okX
      have J7 := track (o := ExA cls d a) J6 na s0a nL nC nP (exA_ok at6 hz4 hd4)
      exact gone_ok J7 hN hi hln fun s8 J8 => ⟨_, _, J8, yes a na⟩
    | ret u =>
      obtain ⟨_, _, _, _, _, z⟩ := end6
      exact z.elim
    | brk =>
      obtain ⟨_, _, _, z⟩ := end6
      exact z.elim
    | cont =>
      obtain ⟨_, _, _, z⟩ := end6
      exact z.elim
end
end OB
namespace K02
open PySem PySem.Spec PyProof.Rows L2 OB SkE
def top (i : Nat) : Stmt := PySem.Challenge.pw_oneflip_k02_integers_and_lots_of_bits.main.body.getD i (.Pass ⟨0, 0, 0, 0⟩)
abbrev s_initB : Stmt := inClass (top 2) 0
abbrev s_is_integer : Stmt := top 5
abbrev s_is_within : Stmt := top 6
abbrev s_is_list : Stmt := top 7
abbrev s_are_unlike : Stmt := top 8
abbrev s_is_lot : Stmt := top 9
abbrev s_lot_of : Stmt := top 10
abbrev s_need_lot : Stmt := top 11
abbrev s__law_tub : Stmt := top 13
abbrev s__law_scoop : Stmt := top 14
abbrev s__law_pick : Stmt := top 15
abbrev s__law_stirred : Stmt := top 16
abbrev s__law_any : Stmt := top 17
abbrev s__law_within : Stmt := top 18
abbrev s__law_lot : Stmt := top 19
abbrev s__law_heard : Stmt := top 20
abbrev s_law : Stmt := top 21
/-- the built-in names that the module leaves as they are -/
structure Blt (mg : Str → Option Value) : Prop where
  g_MOST_BIT : ∃ t, mg "MOST_BIT" = some (.int 20000 t)
  n_isinstance : mg "isinstance" = none
  n_int : mg "int" = none
  n_bool : mg "bool" = none
  n_len : mg "len" = none
  n_abs : mg "abs" = none
  n_range : mg "range" = none
  n_list : mg "list" = none
  n_tuple : mg "tuple" = none
  n_all : mg "all" = none
  n_set : mg "set" = none
  n_sorted : mg "sorted" = none
  n_dict : mg "dict" = none
  n_ValueError : mg "ValueError" = none
  n_repr : mg "repr" = none
section
variable {P : Program} {w : World} {K : PySem.W.Frag} {mg : Str → Option Value} {base : Heap}
/-! ### checks -/
theorem sc_is_integer : FnScope ["value"] ["value"] (defScope s_is_integer) := ⟨rfl, rfl, rfl, by decide +kernel, rfl, by decide +kernel, by decide +kernel⟩
theorem ok_is_integer {f : Addr} {fd : FuncData} (F : Fun K "is_integer" "is_integer" s_is_integer f fd) (T : Blt mg) : FnOk P w K mg base CX0 1 f fd ["value"] (spIsInt K) := by
  refine F.ok sc_is_integer (fun vs H Q E h => ?_) (fun cdv A outer s H vs Q E hr h => ?_)
  · obtain ⟨x, b, rfl, _⟩ := h
    rfl
  · obtain ⟨x, b, rfl, ⟨n, b1, b2, ty, e1, e2, e3⟩, k⟩ := h
    refine ⟨_, (pss_one (ps_ret (pe_and (pe_callB call_isi (by rfl) T.n_isinstance (by decide +kernel) (pa_cons (pv 0) (pa_cons (pe_bltn (v := .ty "int") (by rfl) T.n_int (by decide +kernel) rfl) pa_nil))) (pe_one (pe_not (pe_callB call_isi (by rfl) T.n_isinstance (by decide +kernel) (pa_cons (pv 0) (pa_cons (pe_bltn (v := .ty "bool") (by rfl) T.n_bool (by decide +kernel) rfl) pa_nil)))))))), ?_⟩
    refine ⟨x, rfl, x, .ty "int", .type n, .type "int", b1, rfl, .ty _, ty, kit_ty e1, b1, rfl, ?_⟩
    refine iteB (fun c => ?_) (fun c => ?_)
    · refine ⟨x, rfl, x, .ty "bool", .type n, .type "bool", b2, rfl, .ty _, ty, kit_ty e2, b2, rfl, ?_⟩
      rw [c] at e3
      rw [show (!b2) = b by rw [e3, Bool.true_and]]
      exact k
    · rw [c] at e3
      rw [show false = b by rw [e3, Bool.false_and]]
      exact k
theorem sc_is_within : FnScope ["value", "least", "most"] ["value", "least", "most"] (defScope s_is_within) := ⟨rfl, rfl, rfl, by decide +kernel, rfl, by decide +kernel, by decide +kernel⟩
theorem within_end {lo hi : Option Int} {x : V} {b : Bool} {Q : VK} {H : Hp} (hI : IsI K H x b) (k : Q (.bl (b && inB lo hi x)) H) (hb : b = true) : ∃ i, x = .int i ∧ Q (.bl (loOk lo i && hiOk hi i)) H := by
  subst hb
  obtain ⟨i, rfl⟩ := isI_true hI
  exact ⟨i, rfl, k⟩
theorem ok_is_within {f f1 : Addr} {fd fd1 : FuncData} (F : Fun K "is_within" "is_within" s_is_within f fd) (D_is_integer : Df K mg "is_integer" s_is_integer ["value"] f1 fd1) (T : Blt mg) : FnOk P w K mg base CX0 2 f fd ["value", "least", "most"] (spWithin K) := by
  have G_is_integer : FnOk P w K mg base CX0 1 f1 fd1 ["value"] (spIsInt K) := ok_is_integer D_is_integer.F T
  refine F.ok sc_is_within (fun vs H Q E h => ?_) (fun cdv A outer s H vs Q E hr h => ?_)
  · obtain ⟨x, lo, hi, b, rfl, _⟩ := h
    rfl
  · obtain ⟨x, lo, hi, b, rfl, hI, k⟩ := h
    refine ⟨_, (pss_cons (ps_if (pt_not (pt_val (pe_call G_is_integer (hr.mono (by decide)) (by rfl) D_is_integer.g D_is_integer.F.kp D_is_integer.b .nil pass0 (pa_cons (pv 0) pa_nil)))) (pss_one (ps_ret pe_bl)) pss_nil)
  (pss_one (ps_ret (pe_and (pe_or (pe_cmpR op_isN (pv 1) pe_non (nomark _)) (pe_one (pe_cmpR op_le (pv 1) (pv 0) (nomark _)))) (pe_one (pe_or (pe_cmpR op_isN (pv 2) pe_non (nomark _)) (pe_one (pe_cmpR op_le (pv 0) (pv 2) (nomark _))))))))), ?_⟩
    refine ⟨x, rfl, x, b, rfl, hI, b, rfl, ?_⟩
    cases b with
    | false => exact iteT k
    | true =>
      obtain ⟨i, rfl, k'⟩ := within_end hI k rfl
      clear k
      have k := k'
      clear k'
      refine iteF ?_
      refine ⟨_, rfl, rfl, _, rfl, ?_⟩
      cases lo with
      | none =>
        refine iteT ?_
        refine ⟨_, rfl, iteT ?_⟩
        refine ⟨_, rfl, rfl, _, rfl, ?_⟩
        cases hi with
        | none => exact iteT k
        | some h => exact iteF ⟨_, rfl, _, rfl, _, _, rfl, rfl, k⟩
      | some l =>
        refine iteF ?_
        refine ⟨_, rfl, _, rfl, _, _, rfl, rfl, _, rfl, ?_⟩
        refine iteB (fun c => ?_) (fun c => ?_)
        · refine ⟨_, rfl, rfl, _, rfl, ?_⟩
          have e : loOk (some l) i = true := c
          rw [e, Bool.true_and] at k
          cases hi with
          | none => exact iteT k
          | some h => exact iteF ⟨_, rfl, _, rfl, _, _, rfl, rfl, k⟩
        · have e : loOk (some l) i = false := c
          rw [e, Bool.false_and] at k
          exact k
end
end K02
namespace K02
open PySem PySem.Spec PyProof.Rows L2 OB SkE
/-- whatever is laid anew, it is a list or a tuple, or none -/
def EvL (K : PySem.W.Frag) (H : Hp) (x : V) (b : Bool) : Prop := ∀ H', Same H H' → IsL K H' x b
def EvI (K : PySem.W.Frag) (H : Hp) (x : V) (b : Bool) : Prop := ∀ H', Same H H' → IsI K H' x b
def spIsList (K : PySem.W.Frag) : Sp := fun vs H Q _ => ∃ (x : V) (b : Bool), vs = [x] ∧ EvL K H x b ∧ ∀ H', Same H H' → Q (.bl b) H'
/-- a value that is no list or tuple of unlike numbers within bounds, or one -/
def NoLot (K : PySem.W.Frag) (H : Hp) (x : V) (lo hi : Option Int) : Prop := EvL K H x false ∨
  ∃ (a : Addr) (xs : List V) (bs : List Bool), x = .ref a ∧ (SqL K H a xs ∨ SqT K H a xs) ∧ xs.length ≤ 900 ∧ EvL K H x true ∧ bs.length = xs.length ∧
    (∀ (i : Nat) (v : V) (b : Bool), xs[i]? = some v → bs[i]? = some b → ∃ c, EvI K H v c ∧ b = (c && inB lo hi v)) ∧ (bs.all id = true → ∃ ns : List Int, xs = ns.map V.int ∧ ¬ ns.Nodup)
def IsLot (K : PySem.W.Frag) (H : Hp) (x : V) (lo hi : Option Int) (ns : List Int) : Prop := ∃ a : Addr, x = .ref a ∧ (SqL K H a (ns.map V.int) ∨ SqT K H a (ns.map V.int)) ∧ ns.length ≤ 900 ∧ EvL K H x true ∧ (∀ n ∈ ns, inB lo hi (.int n) = true) ∧ ns.Nodup
def spUnlike (K : PySem.W.Frag) : Sp := fun vs H Q _ => ∃ (x : V) (lo hi : Option Int), vs = [x, oV lo, oV hi] ∧
  ((NoLot K H x lo hi ∧ ∀ H', Same H H' → Q (.bl false) H') ∨ (∃ ns, IsLot K H x lo hi ns ∧ ∀ H', Same H H' → Q (.bl true) H'))
section
variable {P : Program} {w : World} {K : PySem.W.Frag} {mg : Str → Option Value} {base : Heap}
theorem sc_is_list : FnScope ["value"] ["value"] (defScope s_is_list) := ⟨rfl, rfl, rfl, by decide +kernel, rfl, by decide +kernel, by decide +kernel⟩
theorem ok_is_list {f : Addr} {fd : FuncData} (F : Fun K "is_list" "is_list" s_is_list f fd) (T : Blt mg) : FnOk P w K mg base CX0 1 f fd ["value"] (spIsList K) := by
  refine F.ok sc_is_list (fun vs H Q E h => ?_) (fun cdv A outer s H vs Q E hr h => ?_)
  · obtain ⟨x, b, rfl, _⟩ := h
    rfl
  · obtain ⟨x, b, rfl, hL, k⟩ := h
    refine ⟨_, (pss_one (ps_ret (pe_callB call_isiT (by rfl) T.n_isinstance (by decide +kernel) (pa_cons (pv 0) (pa_cons (pe_tup (pa_cons (pe_bltn (v := .ty "list") (by rfl) T.n_list (by decide +kernel) rfl) (pa_cons (pe_bltn (v := .ty "tuple") (by rfl) T.n_tuple (by decide +kernel) rfl) pa_nil))) pa_nil))))), ?_⟩
    refine ⟨_, rfl, (by show 2 ≤ sizeLine; decide), fun t ht => ?_⟩
    have S := same_new (o := .tup [.ty "list", .ty "tuple"]) ht
    obtain ⟨ty, hty, hk⟩ := isL_any (hL _ S)
    exact ⟨_, t, _, ty, _, b, rfl, upd_same, .cons (.ty _) (.cons (.ty _) .nil), hty, hk, k _ S⟩
theorem sc_are_unlike : FnScope ["value", "least", "most", "item"] ["value", "least", "most"] (defScope s_are_unlike) := ⟨rfl, rfl, rfl, by decide +kernel, rfl, by decide +kernel, by decide +kernel⟩
abbrev N_are_unlike : List Str := ["value", "least", "most", "item"]
theorem ok_are_unlike {f f1 f2 f3 : Addr} {fd fd1 fd2 fd3 : FuncData} (F : Fun K "are_unlike" "are_unlike" s_are_unlike f fd) (T : Blt mg) (D_is_list : Df K mg "is_list" s_is_list ["value"] f1 fd1) (D_is_within : Df K mg "is_within" s_is_within ["value", "least", "most"] f2 fd2) (D_is_integer : Df K mg "is_integer" s_is_integer ["value"] f3 fd3) :
    FnOk P w K mg base CX0 4 f fd ["value", "least", "most"] (spUnlike K) := by
  have G_is_list : FnOk P w K mg base CX0 1 f1 fd1 ["value"] (spIsList K) := ok_is_list D_is_list.F T
  have G_is_within : FnOk P w K mg base CX0 2 f2 fd2 ["value", "least", "most"] (spWithin K) := ok_is_within D_is_within.F D_is_integer T
  refine F.ok sc_are_unlike (fun vs H Q E h => ?_) (fun cdv A outer s H vs Q E hr h => ?_)
  · obtain ⟨x, lo, hi, rfl, _⟩ := h
    rfl
  · obtain ⟨x, lo, hi, rfl, h⟩ := h
    refine ⟨_, (pss_cons (ps_if (pt_not (pt_val (pe_call G_is_list (hr.mono (by decide)) (by rfl) D_is_list.g D_is_list.F.kp D_is_list.b .nil pass0 (pa_cons (pv 0) pa_nil)))) (pss_one (ps_ret pe_bl)) pss_nil)
  (pss_one (ps_ret (pe_and (pe_callB (cr_all rfl) (by rfl) T.n_all (by decide +kernel) (pa_cons (pe_lc (own := [("item", 3)]) (g := (gName 3)) (tt := tYes) rfl sc_are_unlike.nd (pi_seqA (pv 0)) (blkOk_by (N := N_are_unlike) (own := [("item", 3)]) (sc := defScope s_are_unlike) (by decide +kernel)) (fun _ _ _ _ _ => (pg_name (i := 3) sc_are_unlike.nd rfl (Or.inl rfl))) (fun _ _ _ _ _ => pts_nil) (fun _ _ _ _ _ => (pe_call G_is_within (hr.mono (by decide)) (by rfl) D_is_within.g D_is_within.F.kp D_is_within.b .nil pass0 (pa_cons (pv 3) (pa_cons (pv 1) (pa_cons (pv 2) pa_nil)))))) pa_nil)) (pe_one (pe_cmpR op_eq (pe_lenSet2 (by rfl) T.n_len (by rfl) T.n_set (pv 0)) (pe_callB call_len_seq (by rfl) T.n_len (by decide +kernel) (pa_cons (pv 0) pa_nil)) (nomark _))))))), ?_⟩
    have h2 : (EvL K H x false ∧ ∀ H', Same H H' → Q (.bl false) H') ∨ ∃ (a : Addr) (xs : List V) (bs : List Bool), x = .ref a ∧ (SqL K H a xs ∨ SqT K H a xs) ∧ xs.length ≤ 900 ∧ EvL K H x true ∧ bs.length = xs.length ∧
        (∀ (i : Nat) (v : V) (b : Bool), xs[i]? = some v → bs[i]? = some b → ∃ c, EvI K H v c ∧ b = (c && inB lo hi v)) ∧ (∀ H', Same H H' → (bs.all id = false → Q (.bl false) H') ∧ (bs.all id = true → ∃ ns : List Int, xs = ns.map V.int ∧ Q (.bl (decide ns.Nodup)) H')) := by
      rcases h with ⟨hn | ⟨a, xs, bs, e1, e2, e3, e4, e5, e6, e7⟩, q⟩ | ⟨ns, ⟨a, e1, e2, e3, e4, e5, e6⟩, q⟩
      · exact .inl ⟨hn, q⟩
      · refine .inr ⟨a, xs, bs, e1, e2, e3, e4, e5, e6, fun H' S => ⟨fun _ => q H' S, fun c => ?_⟩⟩
        obtain ⟨ns, e, nd⟩ := e7 c
        refine ⟨ns, e, ?_⟩
        rw [decide_eq_false nd]
        exact q H' S
      · refine .inr ⟨a, ns.map V.int, ns.map fun _ => true, e1, e2, by rw [List.length_map]; exact e3, e4, by rw [List.length_map, List.length_map], fun i v b hv hb => ?_, fun H' S => ⟨fun c => ?_, fun _ => ⟨ns, rfl, ?_⟩⟩⟩
        · rw [List.getElem?_map] at hv hb
          cases e : ns[i]? with
          | none => rw [e] at hv; cases hv
          | some n =>
            rw [e] at hv hb
            cases hv
            cases hb
            exact ⟨true, fun H' _ => isI_int n, by rw [e5 n (List.mem_of_getElem? e)]; rfl⟩
        · rw [show (ns.map fun _ => true).all id = true by simp] at c
          cases c
        · rw [decide_eq_true e6]
          exact q H' S
    rcases h2 with ⟨hL, q⟩ | ⟨a, xs, bs, rfl, hq, hlen, hL, hbl, hb, k⟩
    · exact ⟨_, rfl, x, false, rfl, hL, fun H1 S1 => ⟨_, rfl, q H1 S1⟩⟩
    refine ⟨_, rfl, _, true, rfl, hL, fun H1 S1 => ⟨_, rfl, ?_⟩⟩
    have hq1 : SqL K H1 a xs ∨ SqT K H1 a xs := hq.elim (fun z => .inl (sqL_same z S1)) fun z => .inr (sqT_same z S1)
    refine ⟨_, rfl, a, rfl, lc_seqA hq1 (fun D i H' => Same H1 H' ∧ H' D = some (.lst ((bs.take i).map V.bl))) (fun D hD => ⟨same_new hD, upd_same⟩) (fun D i H' _ _ p => p.1) ?_ ?_⟩
    · rintro D i v H' hD hx ⟨S2, hl⟩
      have hib : i < bs.length := by
        rw [hbl]
        exact (List.getElem?_eq_some_iff.mp hx).1
      obtain ⟨c, hI, ec⟩ := hb i v bs[i] hx (List.getElem?_eq_getElem hib)
      refine ⟨rfl, _, rfl, _, rfl, _, rfl, v, lo, hi, c, rfl, hI _ (S1.trans S2), _, hl, ?_, ?_, ?_⟩
      · rw [List.length_map, List.length_take]
        exact small1000 (by omega)
      · intro q o e
        rw [upd_ne (ne_of_none e hD)]
        exact S2 q o e
      · rw [upd_same, ← ec, List.take_add_one, List.getElem?_eq_getElem hib, List.map_append]
        rfl
    · rintro D H2 hD ⟨S2, hl⟩
      rw [← hbl, List.take_length] at hl
      refine ⟨D, bs, rfl, SqL.of hl, _, rfl, ?_⟩
      obtain ⟨kf, kt⟩ := k H2 (S1.trans S2)
      refine iteB (fun c => ?_) (fun c => kf c)
      obtain ⟨ns, ens, q⟩ := kt c
      subst ens
      have hq2 : SqL K H2 a (ns.map V.int) ∨ SqT K H2 a (ns.map V.int) := hq1.elim (fun z => .inl (sqL_same z S2)) fun z => .inr (sqT_same z S2)
      rw [List.length_map] at hlen
      refine ⟨_, rfl, a, ns, rfl, hq2, by omega, fun c hc hcn => ⟨_, rfl, a, _, rfl, hq2, rfl, ?_⟩⟩
      have e : decide (V.int (c : Int) = V.int (((ns.map V.int).length : Nat) : Int)) = decide ns.Nodup := by
        rw [List.length_map]
        by_cases z : ns.Nodup
        · rw [hcn.mpr z, decide_eq_true z]
          simp
        · rw [decide_eq_false z]
          refine decide_eq_false fun y => z (hcn.mp ?_)
          have y := V.int.inj y
          omega
      rw [e]
      exact q
theorem sc_is_lot : FnScope ["value"] ["value"] (defScope s_is_lot) := ⟨rfl, rfl, rfl, by decide +kernel, rfl, by decide +kernel, by decide +kernel⟩
def spIsLot (K : PySem.W.Frag) : Sp := fun vs H Q _ => ∃ x : V, vs = [x] ∧ ((NoLot K H x (some 0) (some 20000) ∧ ∀ H', Same H H' → Q (.bl false) H') ∨ (∃ ns, IsLot K H x (some 0) (some 20000) ns ∧ ∀ H', Same H H' → Q (.bl true) H'))
theorem ok_is_lot {f f1 : Addr} {fd fd1 : FuncData} (F : Fun K "is_lot" "is_lot" s_is_lot f fd) (T : Blt mg) (D_are_unlike : Df K mg "are_unlike" s_are_unlike ["value", "least", "most"] f1 fd1) (G_are_unlike : FnOk P w K mg base CX0 4 f1 fd1 ["value", "least", "most"] (spUnlike K)) :
    FnOk P w K mg base CX0 5 f fd ["value"] (spIsLot K) := by
  obtain ⟨tB, gB⟩ := T.g_MOST_BIT
  refine F.ok sc_is_lot (fun vs H Q E h => ?_) (fun cdv A outer s H vs Q E hr h => ?_)
  · obtain ⟨x, rfl, _⟩ := h
    rfl
  · obtain ⟨x, rfl, h⟩ := h
    refine ⟨_, (pss_one (ps_ret (pe_call G_are_unlike (hr.mono (by decide)) (by rfl) D_are_unlike.g D_are_unlike.F.kp D_are_unlike.b .nil pass0 (pa_cons (pv 0) (pa_cons pe_int (pa_cons (pe_glob (v := .int 20000) rfl gB ⟨_, rfl⟩) pa_nil)))))), ?_⟩
    exact ⟨_, rfl, x, some 0, some 20000, rfl, h⟩
def spLotOf (K : PySem.W.Frag) (C : Addr) : Sp := fun vs H Q E => ∃ x : V, vs = [x] ∧ ((NoLot K H x (some 0) (some 20000) ∧ ∀ H', Same H H' → RaisesP C "bits" E H') ∨ (∃ ns, IsLot K H x (some 0) (some 20000) ns ∧
  ∀ (ns' : List Int) (q : Addr) (H' : Hp), ns'.Perm ns → ns'.Pairwise (· ≤ ·) → Same H H' → H' q = some (.tup (ns'.map V.int)) → Q (.ref q) H'))
def spNeedLot (K : PySem.W.Frag) (C : Addr) : Sp := fun vs H Q E => ∃ (x : V) (part : Str), vs = [x, .str part] ∧ ((NoLot K H x (some 0) (some 20000) ∧ ∀ H', Same H H' → RaisesP C part E H') ∨ (∃ ns, IsLot K H x (some 0) (some 20000) ns ∧ ∀ H', Same H H' → Q .non H'))
theorem sc_need_lot : FnScope ["value", "part"] ["value", "part"] (defScope s_need_lot) := ⟨rfl, rfl, rfl, by decide +kernel, rfl, by decide +kernel, by decide +kernel⟩
theorem ok_need_lot {f f1 C fI : Addr} {fd fd1 fdI : FuncData} (F : Fun K "need_lot" "need_lot" s_need_lot f fd) (D_is_lot : Df K mg "is_lot" s_is_lot ["value"] f1 fd1) (G_is_lot : FnOk P w K mg base CX0 5 f1 fd1 ["value"] (spIsLot K))
    (R_BadBits : Err P w K mg base "BadBits" "part" C fI fdI) : FnOk P w K mg base (L2.CX P w) 6 f fd ["value", "part"] (spNeedLot K C) := by
  refine F.okX sc_need_lot (fun vs H Q E h => ?_) (fun cdv A outer s H vs Q E hr h => ?_)
  · obtain ⟨x, part, rfl, _⟩ := h
    rfl
  · obtain ⟨x, part, rfl, h⟩ := h
    refine ⟨_, (pss_one (ps_if (pt_not (pt_val (pe_call G_is_lot (hr.mono (by decide)) (by rfl) D_is_lot.g D_is_lot.F.kp D_is_lot.b .nil pass0 (pa_cons (pv 0) pa_nil)))) (pss_one (ps_raise1 rfl (takes_of rfl rfl rfl rfl) R_BadBits (hr.mono (by decide)) (by rfl) (pv 1))) pss_nil)), ?_⟩
    rcases h with ⟨hn, k⟩ | ⟨ns, hl, k⟩
    · refine ⟨_, rfl, x, rfl, .inl ⟨hn, fun H1 S1 => ⟨_, rfl, .str part, rfl, ?_⟩⟩⟩
      exact raise1_of (W := fun cls d _ H => E cls d H) R_BadBits.T R_BadBits.no (k H1 S1)
    · refine ⟨_, rfl, x, rfl, .inr ⟨ns, hl, fun H1 S1 => ⟨_, rfl, ?_⟩⟩⟩
      exact k H1 S1
theorem sc_lot_of : FnScope ["bits"] ["bits"] (defScope s_lot_of) := ⟨rfl, rfl, rfl, by decide +kernel, rfl, by decide +kernel, by decide +kernel⟩
theorem ok_lot_of {f f1 C : Addr} {fd fd1 : FuncData} (F : Fun K "lot_of" "lot_of" s_lot_of f fd) (T : Blt mg) (D_need_lot : Df K mg "need_lot" s_need_lot ["value", "part"] f1 fd1) (G_need_lot : FnOk P w K mg base (L2.CX P w) 6 f1 fd1 ["value", "part"] (spNeedLot K C)) : FnOk P w K mg base (L2.CX P w) 7 f fd ["bits"] (spLotOf K C) := by
  refine F.okX sc_lot_of (fun vs H Q E h => ?_) (fun cdv A outer s H vs Q E hr h => ?_)
  · obtain ⟨x, rfl, _⟩ := h
    rfl
  · obtain ⟨x, rfl, h⟩ := h
    refine ⟨_, (pss_cons (ps_expr (pe_callS G_need_lot (hr.mono (by decide)) (by rfl) D_need_lot.g D_need_lot.F.kp D_need_lot.b (fun σ => passAt (takes_of rfl rfl rfl rfl) σ) (pa_cons (pv 0) (pa_cons pe_str pa_nil))))
  (pss_one (ps_ret (pe_callTy call_tuple_of (by rfl) T.n_tuple (by decide +kernel) (pa_cons (pe_callB cr_sortedA (by rfl) T.n_sorted (by decide +kernel) (pa_cons (pv 0) pa_nil)) pa_nil))))), ?_⟩
    rcases h with ⟨hn, k⟩ | ⟨ns, hl, k⟩
    · exact ⟨_, rfl, x, _, rfl, .inl ⟨hn, k⟩⟩
    · refine ⟨_, rfl, x, _, rfl, .inr ⟨ns, hl, fun H1 S1 => ?_⟩⟩
      obtain ⟨a, rfl, hq, _⟩ := hl
      have hq1 : SqL K H1 a (ns.map V.int) ∨ SqT K H1 a (ns.map V.int) := hq.elim (fun z => .inl (sqL_same z S1)) fun z => .inr (sqT_same z S1)
      refine ⟨_, rfl, a, ns, rfl, hq1, fun ns' p perm up hp => ?_⟩
      refine ⟨p, _, rfl, .inl ⟨SqL.of upd_same, fun q hq => ?_⟩⟩
      exact k ns' q _ perm up (S1.trans ((same_new hp).trans (same_new hq))) upd_same
end
end K02
namespace K02
open PySem PySem.Spec PyProof.Rows L2 OB SkE
section
variable {P : Program} {w : World} {K : PySem.W.Frag} {mg : Str → Option Value} {base : Heap}
theorem cut60 (ns : List Int) : cutV (ns.map V.int) none (some 60) = (ns.take 60).map V.int := by
  unfold cutV
  have a : HT.sIx (ns.map V.int).length 0 none = 0 := rfl
  rw [a, List.drop_zero, Nat.sub_zero, List.map_take]
  have e : HT.sIx (ns.map V.int).length (ns.map V.int).length (some 60) = min 60 (ns.map V.int).length := HT.sIx_nat _ _ 60
  rw [e]
  by_cases h : (ns.map V.int).length ≤ 60
  · rw [Nat.min_eq_right h, List.take_length, List.take_of_length_le h]
  · rw [Nat.min_eq_left (by omega)]
theorem take_more {α : Type} {l : List α} {i : Nat} {x : α} (h : l[i]? = some x) : l.take (i + 1) = l.take i ++ [x] := by
  rw [List.take_add_one, h]
  rfl
theorem sc__law_tub : FnScope ["script", "cell"] ["script"] (defScope s__law_tub) := ⟨rfl, rfl, rfl, by decide +kernel, rfl, by decide +kernel, by decide +kernel⟩
abbrev N__law_tub : List Str := ["script", "cell"]
theorem ok__law_tub {f : Addr} {fd : FuncData} (F : Fun K "_law_tub" "_law_tub" s__law_tub f fd) (T : Blt mg) : FnOk P w K mg base CX0 1 f fd ["script"] (spLot K) := by
  refine F.ok sc__law_tub (fun vs H Q E h => ?_) (fun cdv A outer s H vs Q E hr h => ?_)
  · obtain ⟨a, ns, rfl, _⟩ := h
    rfl
  · obtain ⟨a, ns, rfl, hS, hl, k⟩ := h
    refine ⟨_, (pss_one (ps_ret (pe_lst (pa_cons (pe_lc (own := [("cell", 1)]) (g := (gName 1)) (tt := tYes) rfl sc__law_tub.nd (pi_list (pe_slice sl_list (pv 0) po_none (po_some pe_int))) (blkOk_by (N := N__law_tub) (own := [("cell", 1)]) (sc := defScope s__law_tub) (by decide +kernel)) (fun _ _ _ _ _ => (pg_name (i := 1) sc__law_tub.nd rfl (Or.inl rfl))) (fun _ _ _ _ _ => pts_nil) (fun _ _ _ _ _ => (pe_callTy call_int1 (by rfl) T.n_int (by decide +kernel) (pa_cons (pv 1) pa_nil)))) (pa_cons pe_int (pa_cons pe_int pa_nil)))))), ?_⟩
    refine ⟨_, rfl, _, rfl, a, _, rfl, hS, fun c hc => ?_⟩
    have e1 : cutV (ns.map V.int) none (some 60) = (ns.take 60).map V.int := cut60 ns
    rw [e1]
    have S0 : Same H (upd H c (.lst ((ns.take 60).map V.int))) := same_new hc
    refine ⟨c, rfl, ⟨_, .inl (.inl upd_same)⟩, fun b hb => ?_⟩
    have ncb : c ≠ b := ne_of_none upd_same hb
    refine lc_list (K := K) (a := c) (xs := (ns.take 60).map V.int) (fun i H' => Same (upd H c (.lst ((ns.take 60).map V.int))) H' ∧ H' b = some (.lst (((ns.take 60).map V.int).take i)))
      ⟨same_new hb, upd_same⟩ (fun i H' _ h => h.1.seq (.inl (.inl upd_same))) ?_ ?_
    · rintro i y H' hy ⟨S1, h1⟩
      obtain ⟨z, hz, rfl⟩ : ∃ z, (ns.take 60)[i]? = some z ∧ y = V.int z := by
        rw [List.getElem?_map] at hy
        cases e : (ns.take 60)[i]? with
        | none => rw [e] at hy; cases hy
        | some z => rw [e] at hy; exact ⟨z, rfl, (Option.some.inj hy).symm⟩
      refine ⟨rfl, _, rfl, .inl ⟨_, rfl, _, h1, ?_, ?_, ?_⟩⟩
      · refine small1000 ?_
        rw [List.length_take, List.length_map, List.length_take]
        omega
      · intro q o e
        have nb : q ≠ b := ne_of_none e hb
        rw [upd_ne nb]
        exact S1 q o e
      · rw [upd_same, ← List.map_take, ← List.map_take, take_more hz, List.map_append]
        rfl
    · rintro H' ⟨S1, h1⟩
      rw [List.take_length] at h1
      refine ⟨(by show 3 ≤ sizeLine; decide), fun p hp => ?_⟩
      have S2 : Same H H' := S0.trans S1
      have hb0 : H b = none := S0.free hb
      refine k p b _ (S2.free hp) hb0 ⟨ns.take 60, 0, 0, upd_same, ?_, Int.le_refl _, Int.le_refl _⟩ (S2.trans (same_new hp))
      rw [upd_ne (ne_of_none h1 hp)]
      exact h1
theorem sc__law_scoop : FnScope ["tub", "many", "rest", "turn", "cell", "mixed"] ["tub", "many"] (defScope s__law_scoop) := ⟨rfl, rfl, rfl, by decide +kernel, rfl, by decide +kernel, by decide +kernel⟩
theorem ok__law_scoop {f : Addr} {fd : FuncData} (F : Fun K "_law_scoop" "_law_scoop" s__law_scoop f fd) (T : Blt mg) : FnOk P w K mg base CX0 1 f fd ["tub", "many"] spDraw := by
  refine F.ok sc__law_scoop (fun vs H Q E h => ?_) (fun cdv A outer s H vs Q E hr h => ?_)
  · obtain ⟨p, b, n, many, rfl, _⟩ := h
    rfl
  · obtain ⟨p, b, n, many, rfl, O, hn, hm, hm2, k⟩ := h
    obtain ⟨ns, t, l, hp, hb, ht, htn⟩ := id O
    have npb : p ≠ b := O.ne
    refine ⟨_, (pss_cons (ps_if (pt_cmpR op_gt (pe_ix ix_list (pv 0) pe_int (fun _ _ => rfl)) pe_int (nomark _)) (pss_cons (ps_set (i := 2) sc__law_scoop.nd rfl (Or.inl rfl) (pe_callTy call_int1 (by rfl) T.n_int (by decide +kernel) (pa_cons (pe_ix ix_list (pv 0) pe_int (fun _ _ => rfl)) pa_nil)))
  (pss_cons (ps_asg (pe_op op_fdivW (pv 2) (pv 1)) (pg_sub (pv 0) pe_int set_list))
  (pss_one (ps_ret (pe_op op_mod (pe_callTy call_int1 (by rfl) T.n_int (by decide +kernel) (pa_cons (pv 2) pa_nil)) (pv 1)))))) pss_nil)
  (pss_cons (ps_set (i := 3) sc__law_scoop.nd rfl (Or.inl rfl) (pe_ix ix_list (pv 0) pe_int (fun _ _ => rfl)))
  (pss_cons (ps_asg (pe_op op_add (pv 3) pe_int) (pg_sub (pv 0) pe_int set_list))
  (pss_cons (ps_set (i := 4) sc__law_scoop.nd rfl (Or.inl rfl) (pe_op op_add (pe_op op_mul pe_int (pv 3)) pe_int))
  (C8.pss_cut (ps_if (pt_cmpR (op_neD hr.units) (pe_ix ix_list (pv 0) pe_int (fun _ _ => rfl)) (pe_lst pa_nil) (nomark _)) (pss_one (ps_set (i := 4) sc__law_scoop.nd rfl (Or.inl rfl) (pe_ix ix_list (pe_ix ix_list (pv 0) pe_int (fun _ _ => rfl)) (pe_op op_mod (pe_callTy call_int1 (by rfl) T.n_int (by decide +kernel) (pa_cons (pv 3) pa_nil)) (pe_callB call_len_seq (by rfl) T.n_len (by decide +kernel) (pa_cons (pe_ix ix_list (pv 0) pe_int (fun _ _ => rfl)) pa_nil))) (fun _ _ => rfl)))) pss_nil)
  (pss_cons (ps_if (PW.pt (pw_and (pt_cmpR op_lt (pv 3) (pe_callB call_len_seq (by rfl) T.n_len (by decide +kernel) (pa_cons (pe_ix ix_list (pv 0) pe_int (fun _ _ => rfl)) pa_nil)) (nomark _)) (pw_and1 (pt_cmpR op_ge (pe_callB call_abs (by rfl) T.n_abs (by decide +kernel) (pa_cons (pv 4) pa_nil)) (pe_op op_pow pe_int pe_int) (nomark _))))) (pss_cons (ps_set (i := 2) sc__law_scoop.nd rfl (Or.inl rfl) (pe_op op_add (pe_op op_mul pe_int (pe_op op_sub (pe_callB call_abs (by rfl) T.n_abs (by decide +kernel) (pa_cons (pv 4) pa_nil)) (pe_op op_pow pe_int pe_int))) (pe_callTy call_int1 (by rfl) T.n_int (by decide +kernel) (pa_cons (pe_cmpR op_lt (pv 4) pe_int (nomark _)) pa_nil))))
  (pss_cons (ps_asg (pe_op op_fdivW (pv 2) (pv 1)) (pg_sub (pv 0) pe_int set_list))
  (pss_one (ps_ret (pe_op op_mod (pe_callTy call_int1 (by rfl) T.n_int (by decide +kernel) (pa_cons (pv 2) pa_nil)) (pv 1)))))) pss_nil)
  (pss_cons (ps_set (i := 5) sc__law_scoop.nd rfl (Or.inl rfl) (pe_op op_mod (pe_callTy call_int1 (by rfl) T.n_int (by decide +kernel) (pa_cons (pe_op op_pow (pe_op op_add (pe_op op_add (pe_op op_mod (pe_callTy call_int1 (by rfl) T.n_int (by decide +kernel) (pa_cons (pv 4) pa_nil)) pe_int) (pe_op op_mul pe_int (pv 3))) pe_int) pe_int) pa_nil)) pe_int))
  (pss_cons (ps_set (i := 5) sc__law_scoop.nd rfl (Or.inl rfl) (pe_op op_mod (pe_callTy call_int1 (by rfl) T.n_int (by decide +kernel) (pa_cons (pe_op op_pow (pe_op op_add (pe_op op_add (pe_op op_mul (pv 5) (pe_op op_add (pe_op op_mul pe_int (pv 3)) pe_int)) (pe_op op_mul (pe_op op_mul pe_int (pv 3)) (pv 3))) pe_int) pe_int) pa_nil)) pe_int))
  (pss_one (ps_ret (pe_op op_mod (pe_callTy call_int1 (by rfl) T.n_int (by decide +kernel) (pa_cons (pe_op op_fdiv (pv 5) pe_int) pa_nil)) (pv 1)))))))))))), ?_⟩
    -- quay[2] > 0
    refine ⟨_, rfl, p, _, _, _, rfl, rfl, SqL.of hp, rfl, _, _, rfl, rfl, _, rfl, ?_⟩
    refine ite2 (fun c => ?_) (fun c => ?_)
    · -- left = int(quay[2]); quay[2] = left // many; return int(left) % many
      refine ⟨_, rfl, p, _, _, _, rfl, rfl, SqL.of hp, rfl, .inl ⟨_, rfl, ?_⟩⟩
      refine ⟨_, rfl, _, rfl, _, _, rfl, rfl, wide_div hm hm2 (by decide) (by decide), _, rfl, p, _, _, _, rfl, rfl, hp, rfl, ?_⟩
      refine ⟨_, rfl, .inl ⟨_, rfl, _, rfl, _, _, rfl, rfl, hm, ?_⟩⟩
      refine k _ _ (Int.emod_nonneg _ (by omega)) (Int.emod_lt_of_pos _ hm) ⟨ns, t, _, upd_same, ?_, ht, by omega⟩ but_at
      rw [upd_ne npb.symm]
      exact hb
    · -- turn = quay[1]; quay[1] = turn + 1; cell = A * turn + B
      refine ⟨_, rfl, p, _, _, _, rfl, rfl, SqL.of hp, rfl, ?_⟩
      refine ⟨_, rfl, _, _, rfl, rfl, _, rfl, p, _, _, _, rfl, rfl, hp, rfl, ?_⟩
      refine ⟨_, rfl, _, _, rfl, rfl, .inl ⟨by decide, by decide⟩, _, _, rfl, rfl, ?_⟩
      -- quay[0] != []
      refine ⟨fun σ' H' => ∃ c0 : Int, σ' = [some (.ref p), some (.int many), none, some (.int t), some (.int c0), none] ∧ H' p = some (.lst [.ref b, .int (t + 1), .int l]) ∧ H' b = some (.lst (ns.map V.int)) ∧ But p H H', ?_, ?_⟩
      rotate_left
      · rintro σ' H' ⟨c0, rfl, hp2, hb2, S2⟩
        have ht2 : t ≤ 1000000 := by omega
        have fin : ∀ r : Int, 0 ≤ r → r < many → Q (.int r) H' := fun r h1 h2 => k r H' h1 h2 ⟨ns, t + 1, l, hp2, hb2, by omega, by omega⟩ S2
        have end_ : ∀ x : Int, Q (.int (x % many)) H' := fun x => fin _ (Int.emod_nonneg _ (by omega)) (Int.emod_lt_of_pos _ hm)
        refine ⟨_, rfl, _, rfl, p, _, _, _, rfl, rfl, SqL.of hp2, rfl, b, _, rfl, .inl (SqL.of hb2), _, _, rfl, rfl, _, rfl, ?_⟩
        refine ite2 (fun c1 => ?_) (fun c1 => ?_)
        · refine ⟨_, rfl, _, rfl, _, _, rfl, rfl, ⟨by decide, by decide, by decide⟩, _, _, rfl, rfl, _, rfl, ?_⟩
          refine ite2 (fun c2 => ?_) (fun c2 => ?_)
          · refine ⟨_, rfl, _, rfl, _, _, rfl, rfl, ⟨by decide, by decide, by decide⟩, _, _, rfl, rfl, _, _, rfl, rfl, .inl ⟨by decide, by decide⟩, ?_⟩
            refine ⟨_, rfl, _, _, rfl, rfl, .inr ⟨_, rfl, _, _, rfl, rfl, ?_⟩⟩
            refine ⟨_, rfl, _, rfl, _, _, rfl, rfl, wide_div hm hm2 (by decide) (by decide), _, rfl, p, _, _, _, rfl, rfl, hp2, rfl, ?_⟩
            refine ⟨_, rfl, .inl ⟨_, rfl, _, rfl, _, _, rfl, rfl, hm, ?_⟩⟩
            refine k _ _ (Int.emod_nonneg _ (by omega)) (Int.emod_lt_of_pos _ hm) ⟨ns, t + 1, _, upd_same, ?_, by omega, by omega⟩ (S2.trans but_at)
            rw [upd_ne npb.symm]
            exact hb2
          · refine ⟨_, rfl, .inl ⟨_, rfl, _, _, rfl, rfl, (by show (0 : Int) < _; decide), _, rfl, _, _, rfl, rfl, .inl ⟨by decide, by decide⟩, _, _, rfl, rfl, _, _, rfl, rfl, _, _, rfl, rfl, ⟨by decide, by decide, mix1 (by decide) (by decide) ht ht2 (by decide) (by decide) (by decide) (by decide)⟩, .inl ⟨_, rfl, _, _, rfl, rfl, (by show (0 : Int) < _; decide), ?_⟩⟩⟩
            refine ⟨_, rfl, _, rfl, _, _, rfl, rfl, .inl ⟨by decide, by decide⟩, _, _, rfl, rfl, _, _, rfl, rfl, .inl (mod_lim (by decide) (by decide)), _, rfl, _, _, rfl, rfl, .inl ⟨by decide, by decide⟩, _, rfl, _, _, rfl, rfl, .inr ⟨by omega, by omega⟩, _, _, rfl, rfl, _, _, rfl, rfl, _, _, rfl, rfl,
              ⟨by decide, by decide, mix2 (by decide) (by decide) ht ht2 (by decide) (by decide) (by decide) (by decide) (by decide) (by decide)⟩, .inl ⟨_, rfl, _, _, rfl, rfl, (by show (0 : Int) < _; decide), ?_⟩⟩
            exact ⟨_, rfl, _, _, rfl, rfl, ⟨by decide, by decide⟩, .inl ⟨_, rfl, _, rfl, _, _, rfl, rfl, hm, end_ _⟩⟩
        · refine ⟨_, rfl, .inl ⟨_, rfl, _, _, rfl, rfl, (by show (0 : Int) < _; decide), _, rfl, _, _, rfl, rfl, .inl ⟨by decide, by decide⟩, _, _, rfl, rfl, _, _, rfl, rfl, _, _, rfl, rfl, ⟨by decide, by decide, mix1 (by decide) (by decide) ht ht2 (by decide) (by decide) (by decide) (by decide)⟩, .inl ⟨_, rfl, _, _, rfl, rfl, (by show (0 : Int) < _; decide), ?_⟩⟩⟩
          refine ⟨_, rfl, _, rfl, _, _, rfl, rfl, .inl ⟨by decide, by decide⟩, _, _, rfl, rfl, _, _, rfl, rfl, .inl (mod_lim (by decide) (by decide)), _, rfl, _, _, rfl, rfl, .inl ⟨by decide, by decide⟩, _, rfl, _, _, rfl, rfl, .inr ⟨by omega, by omega⟩, _, _, rfl, rfl, _, _, rfl, rfl, _, _, rfl, rfl,
            ⟨by decide, by decide, mix2 (by decide) (by decide) ht ht2 (by decide) (by decide) (by decide) (by decide) (by decide) (by decide)⟩, .inl ⟨_, rfl, _, _, rfl, rfl, (by show (0 : Int) < _; decide), ?_⟩⟩
          exact ⟨_, rfl, _, _, rfl, rfl, ⟨by decide, by decide⟩, .inl ⟨_, rfl, _, rfl, _, _, rfl, rfl, hm, end_ _⟩⟩
      refine ⟨_, rfl, p, _, _, _, rfl, rfl, SqL.of upd_same, rfl, Nat.zero_le _, fun l0 hl0 => ?_⟩
      have hp1 : (upd (upd H p (.lst [.ref b, .int (t + 1), .int l])) l0 (.lst [])) p = some (.lst [.ref b, .int (t + 1), .int l]) := by
        rw [upd_ne (ne_of_none upd_same hl0), upd_same]
      have hb1 : (upd (upd H p (.lst [.ref b, .int (t + 1), .int l])) l0 (.lst [])) b = some (.lst (ns.map V.int)) := by
        have e : (upd H p (.lst [.ref b, .int (t + 1), .int l])) b = some (.lst (ns.map V.int)) := by
          rw [upd_ne npb.symm]
          exact hb
        rw [upd_ne (ne_of_none e hl0)]
        exact e
      have S1 : But p H (upd (upd H p (.lst [.ref b, .int (t + 1), .int l])) l0 (.lst [])) := but_at.trans (But.of (same_new hl0))
      refine ⟨.list (ns.map PyData.int), .list [], Dp.lst (SqL.of hb1) (dp_ints ns), Dp.lst (SqL.of upd_same) .nil, shaped_ints ns, shaped_ints [], _, rfl, ?_⟩
      rw [eqv_nil]
      refine ite2 (fun c => ?_) (fun c => ?_)
      · have c : ns ≠ [] := by simpa using c
        have hl : 0 < ns.length := List.length_pos_iff.mpr c
        have hl2 : (0 : Int) < ((ns.map V.int).length : Nat) := by
          rw [List.length_map]
          omega
        have h1 := Int.emod_nonneg t (show (((ns.map V.int).length : Nat) : Int) ≠ 0 by omega)
        have h2 := Int.emod_lt_of_pos t hl2
        obtain ⟨j, hj⟩ : ∃ j : Nat, t % (((ns.map V.int).length : Nat) : Int) = (j : Int) := ⟨_, (Int.toNat_of_nonneg h1).symm⟩
        have hj2 : j < ns.length := by
          rw [List.length_map] at hj h2
          omega
        have hx : (ns.map V.int)[j]? = some (V.int ns[j]) := by
          rw [List.getElem?_map, List.getElem?_eq_getElem hj2]
          rfl
        refine ⟨_, rfl, p, _, _, _, rfl, rfl, SqL.of hp1, rfl, ?_⟩
        refine ⟨_, rfl, .inl ⟨_, rfl, _, rfl, p, _, _, _, rfl, rfl, SqL.of hp1, rfl, b, _, rfl, .inl (SqL.of hb1), _, _, rfl, rfl, hl2, ?_⟩⟩
        exact ⟨b, _, _, V.int ns[j], rfl, rfl, SqL.of hb1, at_of hj hx, ns[j], rfl, hp1, hb1, S1⟩
      · exact ⟨_, rfl, hp1, hb1, S1⟩
end
end K02
namespace K02
open PySem PySem.Spec PyProof.Rows L2 OB SkE
/-- one of some things, drawn -/
def spPick : Sp := fun vs H Q _ => ∃ (p b l : Addr) (n : Nat) (xs : List V), vs = [.ref p, .ref l] ∧ Orch H p b n ∧ n < 1000000 ∧ H l = some (.lst xs) ∧ l ≠ p ∧ 0 < xs.length ∧ xs.length ≤ 1000 ∧
  ∀ (j : Nat) (x : V) (H' : Hp), xs[j]? = some x → Orch H' p b (n + 1) → But p H H' → Q x H'
/-- some numbers in a drawn order, in a new list -/
def spStir : Sp := fun vs H Q _ => ∃ (p b l : Addr) (n : Nat) (ns : List Int), vs = [.ref p, .ref l] ∧ Orch H p b n ∧ n + 20 < 1000000 ∧ H l = some (.lst (ns.map V.int)) ∧ l ≠ p ∧ ns.length ≤ 20 ∧
  ∀ (q : Addr) (ns' : List Int) (H' : Hp), ns'.Perm ns → H q = none → H' q = some (.lst (ns'.map V.int)) → Orch H' p b (n + 20) → But p H H' → Q (.ref q) H'
theorem small_of {a b : Nat} (h : a ≤ 1000) (e : b ≤ a) : b ≤ sizeLine := Nat.le_of_lt (small1000 (Nat.le_trans e h))
theorem map_erase : ∀ (as : List Int) (j : Nat), (as.map V.int).eraseIdx j = (as.eraseIdx j).map V.int
  | [], _ => rfl
  | _ :: _, 0 => rfl
  | a :: r, j + 1 => by
    show V.int a :: (r.map V.int).eraseIdx j = V.int a :: (r.eraseIdx j).map V.int
    rw [map_erase r j]
theorem perm_erase : ∀ (as : List Int) (j : Nat) (hj : j < as.length), (as[j] :: as.eraseIdx j).Perm as
  | a :: r, 0, _ => List.Perm.refl _
  | a :: r, j + 1, hj => (List.Perm.swap a (r[j]'(Nat.lt_of_succ_lt_succ hj)) (r.eraseIdx j)).trans ((perm_erase r j (Nat.lt_of_succ_lt_succ hj)).cons a)
section
variable {P : Program} {w : World} {K : PySem.W.Frag} {mg : Str → Option Value} {base : Heap}
theorem sc__law_pick : FnScope ["tub", "some"] ["tub", "some"] (defScope s__law_pick) := ⟨rfl, rfl, rfl, by decide +kernel, rfl, by decide +kernel, by decide +kernel⟩
theorem ok__law_pick {f f1 : Addr} {fd fd1 : FuncData} (F : Fun K "_law_pick" "_law_pick" s__law_pick f fd) (T : Blt mg) (D__law_scoop : Df K mg "_law_scoop" s__law_scoop ["tub", "many"] f1 fd1) : FnOk P w K mg base CX0 2 f fd ["tub", "some"] spPick := by
  have G__law_scoop : FnOk P w K mg base CX0 1 f1 fd1 ["tub", "many"] spDraw := ok__law_scoop D__law_scoop.F T
  refine F.ok sc__law_pick (fun vs H Q E h => ?_) (fun cdv A outer s H vs Q E hr h => ?_)
  · obtain ⟨p, b, l, n, xs, rfl, _⟩ := h
    rfl
  · obtain ⟨p, b, l, n, xs, rfl, O, hn, hl, nlp, h0, h1, k⟩ := h
    refine ⟨_, (pss_one (ps_ret (pe_ix ix_list (pv 1) (pe_call G__law_scoop (hr.mono (by decide)) (by rfl) D__law_scoop.g D__law_scoop.F.kp D__law_scoop.b .nil pass0 (pa_cons (pv 0) (pa_cons (pe_callB call_len_seq (by rfl) T.n_len (by decide +kernel) (pa_cons (pv 1) pa_nil)) pa_nil))) (fun _ _ => rfl)))), ?_⟩
    refine ⟨_, rfl, _, rfl, _, rfl, l, xs, rfl, .inl (SqL.of hl), p, b, n, _, rfl, O, hn, by omega, ?_, fun r H' r0 r1 O' B' => ?_⟩
    · show (xs.length : Int).natAbs < 2 ^ 9000
      rw [Int.natAbs_natCast]
      exact Nat.lt_of_le_of_lt h1 (by decide)
    · obtain ⟨j, rfl⟩ := Int.eq_ofNat_of_zero_le r0
      have hj : j < xs.length := by omega
      exact ⟨l, xs, _, xs[j], rfl, rfl, SqL.of (B' l _ hl nlp), atI_nat (List.getElem?_eq_getElem hj), k j _ H' (List.getElem?_eq_getElem hj) O' B'⟩
theorem sc__law_stirred : FnScope ["tub", "some", "left", "found"] ["tub", "some"] (defScope s__law_stirred) := ⟨rfl, rfl, rfl, by decide +kernel, rfl, by decide +kernel, by decide +kernel⟩
theorem ok__law_stirred {f f1 : Addr} {fd fd1 : FuncData} (F : Fun K "_law_stirred" "_law_stirred" s__law_stirred f fd) (T : Blt mg) (D__law_scoop : Df K mg "_law_scoop" s__law_scoop ["tub", "many"] f1 fd1) : FnOk P w K mg base CX0 2 f fd ["tub", "some"] spStir := by
  have G__law_scoop : FnOk P w K mg base CX0 1 f1 fd1 ["tub", "many"] spDraw := ok__law_scoop D__law_scoop.F T
  refine F.ok sc__law_stirred (fun vs H Q E h => ?_) (fun cdv A outer s H vs Q E hr h => ?_)
  · obtain ⟨p, b, l, n, ns, rfl, _⟩ := h
    rfl
  · obtain ⟨p, b, l, n, ns, rfl, O, hn, hl, nlp, h1, k⟩ := h
    obtain ⟨up, hup⟩ := O.pn
    obtain ⟨ub, hub⟩ := O.bn
    refine ⟨_, (pss_cons (ps_par (i := 2) (j := 3) (by rfl) sc__law_stirred.nd rfl rfl (by decide) rfl rfl (pa_cons (pe_callTy call_list_of (by rfl) T.n_list (by decide +kernel) (pa_cons (pv 1) pa_nil)) (pa_cons (pe_lst pa_nil) pa_nil)) (by rfl))
  (pss_cons (ps_while PassesOwn.never (pt_cmpR (op_neD hr.units) (pv 2) (pe_lst pa_nil) (nomark _)) (pss_one (ps_expr (pe_bm PySem.F.plainAttrs_list PySem.F.slot_list_append PySem.F.type_list_append mt_append (pv 3) (pa_cons (pe_bm PySem.F.plainAttrs_list PySem.F.slot_list_pop PySem.F.type_list_pop mt_popAt (pv 2) (pa_cons (pe_call G__law_scoop (hr.mono (by decide)) (by rfl) D__law_scoop.g D__law_scoop.F.kp D__law_scoop.b .nil pass0 (pa_cons (pv 0) (pa_cons (pe_callB call_len_seq (by rfl) T.n_len (by decide +kernel) (pa_cons (pv 2) pa_nil)) pa_nil))) pa_nil)) pa_nil)))))
  (pss_one (ps_ret (pv 3))))), ?_⟩
    refine ⟨_, rfl, l, _, rfl, .inl (SqL.of hl), fun L hL => ?_⟩
    have S1 := same_new (o := .lst (ns.map V.int)) hL
    refine ⟨Nat.zero_le _, fun g hg => ?_⟩
    have S2 := S1.trans (same_new (o := .lst []) hg)
    have nLg : L ≠ g := ne_of_none upd_same hg
    have nLp : p ≠ L := ne_of_none hup hL
    have nLb : b ≠ L := ne_of_none hub hL
    have hg0 : H g = none := S1.free hg
    have ngp : p ≠ g := ne_of_none hup hg0
    have ngb : b ≠ g := ne_of_none hub hg0
    refine ⟨_, _, rfl, ?_⟩
    refine while_by (fun σ H' => ∃ as bs : List Int, σ = [some (.ref p), some (.ref l), some (.ref L), some (.ref g)] ∧ (as ++ bs).Perm ns ∧ H' L = some (.lst (as.map V.int)) ∧ H' g = some (.lst (bs.map V.int)) ∧ Orch H' p b (n + bs.length) ∧ But p H H')
      (fun σ H' => match H' L with
        | some (.lst xs) => xs.length
        | _ => 0) ⟨ns, [], rfl, by rw [List.append_nil], ?_, upd_same, O.same S2, But.of S2⟩ ?_ ?_
    · rw [upd_ne nLg]
      exact upd_same
    · rintro σ H1 ⟨as, bs, rfl, perm, hLa, hgb, O1, B1⟩
      have hlen : as.length + bs.length = ns.length := by rw [← perm.length_eq, List.length_append]
      refine ⟨_, rfl, Nat.zero_le _, fun e he => ?_⟩
      have S3 := same_new (o := .lst []) he
      refine ⟨.list (as.map PyData.int), .list [], Dp.lst (SqL.of (S3 _ _ hLa)) (dp_ints as), Dp.lst (SqL.of upd_same) .nil, shaped_ints as, shaped_ints [], ?_⟩
      rw [eqv_nil]
      have hb : (!decide (as = [])) = decide (as ≠ []) := by by_cases z : as = [] <;> simp [z]
      refine ⟨_, rfl, ?_⟩
      refine ite2 (fun c => ?_) (fun c => ?_)
      · have c : as ≠ [] := by simpa using c
        have h0 : 0 < as.length := List.length_pos_iff.mpr c
        have O2 := O1.same S3
        have hL2 := S3 _ _ hLa
        have hg2 := S3 _ _ hgb
        have B2 : But p H (upd H1 e (.lst [])) := B1.trans (But.of S3)
        refine ⟨_, rfl, .inl ⟨rfl, _, SqL.of hg2⟩, _, rfl, .inl ⟨rfl, _, SqL.of hL2⟩, _, rfl, _, rfl, L, _, rfl, .inl (SqL.of hL2), p, b, _, _, rfl, O2, by omega, ?_, ?_, fun r H3 r0 r1 O3 B3 => ?_⟩
        · rw [List.length_map]
          omega
        · rw [List.length_map, Int.natAbs_natCast]
          exact Nat.lt_of_le_of_lt (show as.length ≤ 20 by omega) (by decide)
        rw [List.length_map] at r1
        obtain ⟨j, rfl⟩ := Int.eq_ofNat_of_zero_le r0
        have hj : j < as.length := by omega
        have hL3 := B3 _ _ hL2 nLp.symm
        have hg3 := B3 _ _ hg2 ngp.symm
        refine ⟨L, as.map V.int, (j : Int), j, V.int as[j], rfl, rfl, hL3, by omega, by omega, ?_, ?_, ?_⟩
        · rw [List.length_map]
          exact (seqIndex_of (Int.natCast_nonneg j) (by omega)).trans (by rw [Int.toNat_natCast])
        · rw [List.getElem?_map, List.getElem?_eq_getElem hj]
          rfl
        have hg4 : (upd H3 L (.lst ((as.map V.int).eraseIdx j))) g = some (.lst (bs.map V.int)) := by
          rw [upd_ne nLg.symm]
          exact hg3
        refine ⟨g, _, _, rfl, rfl, hg4, small1000 (by rw [List.length_map]; omega), ?_⟩
        have ee : (as.map V.int).eraseIdx j = (as.eraseIdx j).map V.int := map_erase as j
        have el : (as.eraseIdx j).length = as.length - 1 := List.length_eraseIdx_of_lt hj
        have hL5 : (upd (upd H3 L (.lst ((as.map V.int).eraseIdx j))) g (.lst (bs.map V.int ++ [V.int as[j]]))) L = some (.lst ((as.eraseIdx j).map V.int)) := by
          rw [upd_ne nLg, upd_same, ee]
        refine ⟨⟨as.eraseIdx j, bs ++ [as[j]], rfl, ?_, hL5, ?_, ?_, ?_⟩, ?_⟩
        · refine List.Perm.trans ?_ perm
          rw [← List.append_assoc]
          refine List.perm_append_comm.trans ?_
          show (as[j] :: (as.eraseIdx j ++ bs)).Perm _
          rw [← List.cons_append]
          exact (perm_erase as j hj).append_right bs
        · rw [upd_same, List.map_append]
          rfl
        · rw [List.length_append, List.length_singleton]
          exact O3.keep (fun u hu => by rw [upd_ne ngp, upd_ne nLp]; exact hu) fun u hu => by rw [upd_ne ngb, upd_ne nLb]; exact hu
        · intro q o e nq
          have e3 := B2.trans B3 q o e nq
          rw [upd_ne (ne_of_none e hg0), upd_ne (ne_of_none e hL)]
          exact e3
        · rw [hL5, hLa]
          show ((as.eraseIdx j).map V.int).length < (as.map V.int).length
          rw [List.length_map, List.length_map, el]
          omega
      · have c : as = [] := by simpa using c
        subst c
        exact ⟨_, rfl, k g bs _ perm hg0 (S3 _ _ hgb) ((O1.same S3).mono (by have hlen := perm.length_eq; rw [List.nil_append] at hlen; omega)) (B1.trans (But.of S3))⟩
    · rintro σ H1 Q1 Q2 hQ ⟨x, e, n0, hh⟩
      refine ⟨x, e, n0, fun a ha => ?_⟩
      obtain ⟨d1, d2, x1, x2, x3, x4, k, e1, q⟩ := hh a ha
      exact ⟨d1, d2, x1, x2, x3, x4, k, e1, hQ _ _ q⟩
end
end K02
namespace K02
open PySem PySem.Spec PyProof.Rows L2 OB SkE
/-- a value of any kind, and whether it is an integer -/
def spAny (K : PySem.W.Frag) : Sp := fun vs H Q _ => ∃ (p b : Addr) (n : Nat), vs = [.ref p] ∧ Orch H p b n ∧ n + 5 < 1000000 ∧
  ∀ (q : Addr) (x : V) (c : Bool) (A : List (Addr × HO)) (H' : Hp), H q = none → H' q = some (.tup [x, .bl c]) → Fix A H' → (∀ H2, Fix A H2 → IsI K H2 x c) → Orch H' p b (n + 5) → But p H H' → Q (.ref q) H'
def spWithinD : Sp := fun vs H Q _ => ∃ (x : V) (c : Bool) (lo hi : Option Int), vs = [x, .bl c, oV lo, oV hi] ∧ (c = true → ∃ i, x = .int i) ∧ Q (.bl (c && inB lo hi x)) H
section
variable {P : Program} {w : World} {K : PySem.W.Frag} {mg : Str → Option Value} {base : Heap}
theorem sc__law_within : FnScope ["value", "whole", "least", "most"] ["value", "whole", "least", "most"] (defScope s__law_within) := ⟨rfl, rfl, rfl, by decide +kernel, rfl, by decide +kernel, by decide +kernel⟩
theorem ok__law_within {f : Addr} {fd : FuncData} (F : Fun K "_law_within" "_law_within" s__law_within f fd) (T : Blt mg) : FnOk P w K mg base CX0 1 f fd ["value", "whole", "least", "most"] spWithinD := by
  refine F.ok sc__law_within (fun vs H Q E h => ?_) (fun cdv A outer s H vs Q E hr h => ?_)
  · obtain ⟨x, c, lo, hi, rfl, _⟩ := h
    rfl
  · obtain ⟨x, c, lo, hi, rfl, hx, k⟩ := h
    refine ⟨_, (pss_one (ps_ret (pe_and (pv 1) (pe_and (pe_or (pe_cmpR op_isN (pv 2) pe_non (nomark _)) (pe_one (pe_cmpR op_ge (pv 0) (pv 2) (nomark _)))) (pe_one (pe_or (pe_cmpR op_isN (pv 3) pe_non (nomark _)) (pe_one (pe_cmpR op_le (pv 0) (pv 3) (nomark _))))))))), ?_⟩
    refine ⟨_, rfl, _, rfl, ?_⟩
    cases c with
    | false => exact k
    | true =>
      obtain ⟨i, rfl⟩ := hx rfl
      refine iteT ?_
      refine ⟨_, rfl, rfl, _, rfl, ?_⟩
      cases lo with
      | none =>
        refine iteT ?_
        refine ⟨_, rfl, iteT ?_⟩
        refine ⟨_, rfl, rfl, _, rfl, ?_⟩
        cases hi with
        | none => exact iteT k
        | some h => exact iteF ⟨_, rfl, _, rfl, _, _, rfl, rfl, k⟩
      | some l =>
        refine iteF ?_
        refine ⟨_, rfl, _, rfl, _, _, rfl, rfl, _, rfl, ?_⟩
        refine iteB (fun c => ?_) (fun c => ?_)
        · refine ⟨_, rfl, rfl, _, rfl, ?_⟩
          have e : loOk (some l) i = true := c
          have k : Q (.bl (loOk (some l) i && hiOk hi i)) H := k
          rw [e, Bool.true_and] at k
          cases hi with
          | none => exact iteT k
          | some h => exact iteF ⟨_, rfl, _, rfl, _, _, rfl, rfl, k⟩
        · have e : loOk (some l) i = false := c
          have k : Q (.bl (loOk (some l) i && hiOk hi i)) H := k
          rw [e, Bool.false_and] at k
          exact k
theorem sc__law_any : FnScope ["tub", "number", "odd"] ["tub"] (defScope s__law_any) := ⟨rfl, rfl, rfl, by decide +kernel, rfl, by decide +kernel, by decide +kernel⟩
theorem ok__law_any {f f1 f2 : Addr} {fd fd1 fd2 : FuncData} (F : Fun K "_law_any" "_law_any" s__law_any f fd) (T : Blt mg) (D__law_scoop : Df K mg "_law_scoop" s__law_scoop ["tub", "many"] f1 fd1) (D__law_pick : Df K mg "_law_pick" s__law_pick ["tub", "some"] f2 fd2) : FnOk P w K mg base CX0 3 f fd ["tub"] (spAny K) := by
  have G__law_scoop : FnOk P w K mg base CX0 1 f1 fd1 ["tub", "many"] spDraw := ok__law_scoop D__law_scoop.F T
  have G__law_pick : FnOk P w K mg base CX0 2 f2 fd2 ["tub", "some"] spPick := ok__law_pick D__law_pick.F T D__law_scoop
  refine F.ok sc__law_any (fun vs H Q E h => ?_) (fun cdv A outer s H vs Q E hr h => ?_)
  · obtain ⟨p, b, n, rfl, _⟩ := h
    rfl
  · obtain ⟨p, b, n, rfl, O, hn, k⟩ := h
    refine ⟨_, (pss_cons (ps_set (i := 1) sc__law_any.nd rfl (Or.inl rfl) (pe_call G__law_pick (hr.mono (by decide)) (by rfl) D__law_pick.g D__law_pick.F.kp D__law_pick.b .nil pass0 (pa_cons (pv 0) (pa_cons (pe_lst (pa_cons pe_int (pa_cons pe_int (pa_cons (pe_un un_neg pe_int) (pa_cons (pe_call G__law_scoop (hr.mono (by decide)) (by rfl) D__law_scoop.g D__law_scoop.F.kp D__law_scoop.b .nil pass0 (pa_cons (pv 0) (pa_cons pe_int pa_nil))) (pa_cons pe_int (pa_cons pe_int (pa_cons (pe_un un_neg pe_int) (pa_cons (pe_op op_pow pe_int pe_int) pa_nil))))))))) pa_nil))))
  (pss_cons (ps_set (i := 2) sc__law_any.nd rfl (Or.inl rfl) (pe_call G__law_pick (hr.mono (by decide)) (by rfl) D__law_pick.g D__law_pick.F.kp D__law_pick.b .nil pass0 (pa_cons (pv 0) (pa_cons (pe_lst (pa_cons pe_non (pa_cons pe_bl (pa_cons pe_bl (pa_cons pe_str (pa_cons (pe_tup (pa_cons pe_int pa_nil)) (pa_cons (pe_lst (pa_cons pe_int pa_nil)) (pa_cons pe_dnewK pa_nil)))))))) pa_nil))))
  (pss_one (ps_ret (pe_ifExp (pt_cmpR op_gt (pe_call G__law_scoop (hr.mono (by decide)) (by rfl) D__law_scoop.g D__law_scoop.F.kp D__law_scoop.b .nil pass0 (pa_cons (pv 0) (pa_cons pe_int pa_nil))) pe_int (nomark _)) (pe_tup (pa_cons (pv 1) (pa_cons pe_bl pa_nil))) (pe_tup (pa_cons (pv 2) (pa_cons pe_bl pa_nil)))))))), ?_⟩
    refine ⟨_, rfl, _, rfl, _, rfl, p, b, n, 30, rfl, O, by omega, by decide, by decide, fun r H1 r0 r1 O1 B1 => ?_⟩
    refine ⟨_, rfl, _, _, rfl, rfl, ⟨by decide, by decide, by decide⟩, (by show 8 ≤ sizeLine; decide), fun l hl => ?_⟩
    obtain ⟨u1, hu1⟩ := O1.pn
    have nl : l ≠ p := (ne_of_none hu1 hl).symm
    have S1 := same_new (o := .lst [.int 0, .int 1, .int (-1), .int r, .int 20000, .int 20001, .int (-20000), .int (10 ^ (30 : Int).toNat)]) hl
    refine ⟨p, b, l, n + 1, _, rfl, O1.same S1, by omega, upd_same, nl, by show 0 < 8; decide, by show 8 ≤ 1000; decide, fun j x H2 hj O2 B2 => ?_⟩
    have hx : ∃ i, x = .int i := by
      match j, hj with
      | 0, e => cases e; exact ⟨_, rfl⟩
      | 1, e => cases e; exact ⟨_, rfl⟩
      | 2, e => cases e; exact ⟨_, rfl⟩
      | 3, e => cases e; exact ⟨_, rfl⟩
      | 4, e => cases e; exact ⟨_, rfl⟩
      | 5, e => cases e; exact ⟨_, rfl⟩
      | 6, e => cases e; exact ⟨_, rfl⟩
      | 7, e => cases e; exact ⟨_, rfl⟩
      | j + 8, e => cases e
    obtain ⟨i, rfl⟩ := hx
    have B02 : But p H H2 := B1.trans ((But.of S1).trans B2)
    refine ⟨_, rfl, (by show 1 ≤ sizeLine; decide), fun a1 ha1 => ⟨(by show 1 ≤ sizeLine; decide), fun a2 ha2 => fun a3 ha3 => ⟨(by show 7 ≤ sizeLine; decide), fun l2 hl2 => ?_⟩⟩⟩
    obtain ⟨u2, hu2⟩ := O2.pn
    have T1 : Same H2 (upd H2 a1 (.tup [.int 1])) := same_new ha1
    have T2 := T1.trans (same_new (o := .lst [.int 0]) ha2)
    have T3 := T2.trans (same_new (o := .dK []) ha3)
    have F3 : Fix [(a1, .tup [.int 1]), (a2, .lst [.int 0]), (a3, .dK [])] (upd (upd (upd H2 a1 (.tup [.int 1])) a2 (.lst [.int 0])) a3 (.dK [])) :=
      .cons (same_new ha3 _ _ (same_new ha2 _ _ upd_same)) rfl (.cons (same_new ha3 _ _ upd_same) rfl (.cons upd_same rfl .nil))
    have T4 := same_new (o := .lst [.non, .bl true, .bl false, .str "1", .ref a1, .ref a2, .ref a3]) hl2
    have n2 : l2 ≠ p := (ne_of_none (T3 _ _ hu2) hl2).symm
    have O3 := O2.same (T3.trans T4)
    refine ⟨p, b, l2, _, _, rfl, O3, by omega, upd_same, n2, by show 0 < 7; decide, by show 7 ≤ 1000; decide, fun j y H4 hj O4 B4 => ?_⟩
    have F4 := (F3.keep (.same T4)).keep (.but B4 (orch_ref O3))
    have bad : ∀ H5, Fix [(a1, .tup [.int 1]), (a2, .lst [.int 0]), (a3, .dK [])] H5 → IsI K H5 y false := by
      intro H5 e
      match j, hj with
      | 0, z => cases z; exact isI_non
      | 1, z => cases z; exact isI_bl _
      | 2, z => cases z; exact isI_bl _
      | 3, z => cases z; exact isI_str _
      | 4, z => cases z; exact isI_tup (e.get (o := .tup [.int 1]) (by simp))
      | 5, z => cases z; exact isI_lst (e.get (o := .lst [.int 0]) (by simp))
      | 6, z => cases z; exact isI_dK (e.get (o := .dK []) (by simp))
      | j + 7, z => cases z
    have B04 : But p H H4 := B02.trans ((But.of (T3.trans T4)).trans B4)
    refine ⟨_, rfl, p, b, _, 3, rfl, O4, by omega, by decide, by decide, fun r2 H6 r20 r21 O6 B6 => ⟨_, _, rfl, rfl, _, rfl, ?_⟩⟩
    have B06 : But p H H6 := B04.trans B6
    have F6 := F4.keep (.but B6 (orch_ref O4))
    have none_of : ∀ {q : Addr}, H6 q = none → H q = none := fun {q} hq => by
      cases e : H q with
      | none => rfl
      | some o =>
        by_cases z : q = p
        · obtain ⟨u6, hu6⟩ := O6.pn
          rw [z, hu6] at hq
          cases hq
        · rw [B06 q o e z] at hq
          cases hq
    refine iteB (fun c => ?_) (fun c => ?_)
    · refine ⟨_, rfl, (by show 2 ≤ sizeLine; decide), fun q hq => ?_⟩
      exact k q _ _ [] _ (none_of hq) upd_same .nil (fun H2 _ => isI_int i) ((O6.same (same_new hq)).mono (by omega)) (B06.trans (But.of (same_new hq)))
    · refine ⟨_, rfl, (by show 2 ≤ sizeLine; decide), fun q hq => ?_⟩
      exact k q _ _ _ _ (none_of hq) upd_same (F6.keep (.same (same_new hq))) bad ((O6.same (same_new hq)).mono (by omega)) (B06.trans (But.of (same_new hq)))
end
end K02
namespace K02
open PySem PySem.Spec PyProof.Rows L2 OB SkE
/-- a drawn lot: unlike bits to 20,000, in a new list -/
def spLotD : Sp := fun vs H Q _ => ∃ (p b : Addr) (n : Nat), vs = [.ref p] ∧ Orch H p b n ∧ n + 60 < 1000000 ∧
  ∀ (q : Addr) (ns : List Int) (H' : Hp), H q = none → ns.Nodup → (∀ z ∈ ns, 0 ≤ z ∧ z ≤ 20000) → ns.length ≤ 6 → H' q = some (.lst (ns.map V.int)) → Orch H' p b (n + 60) → But p H H' → Q (.ref q) H'
def tru (ns : List Int) : List (Key × V) := ns.map fun z => (.inl z, .bl true)
theorem tru_put (ns : List Int) (z : Int) : putK (tru ns) (.inl z) (.bl true) = if z ∈ ns then tru ns else tru (ns ++ [z]) := by
  unfold putK tru
  by_cases h : z ∈ ns
  · rw [if_pos h, if_pos (by simp only [List.any_map, List.any_eq_true]; exact ⟨z, h, by simp⟩), List.map_map]
    refine List.map_congr_left fun x _ => ?_
    show (if (Sum.inl x : Key) = Sum.inl z then ((Sum.inl x : Key), V.bl true) else (Sum.inl x, V.bl true)) = _
    rw [ite_self]
  · rw [if_neg h, if_neg (by
      simp only [List.any_map, List.any_eq_true, not_exists, not_and]
      intro x hx e
      have e : (Sum.inl x : Key) = Sum.inl z := by simpa using e
      exact h (Sum.inl.inj e ▸ hx)), List.map_append]
    rfl
theorem merge_facts : ∀ (xs ns : List Int), ns.Nodup → ∃ ms : List Int, mergeK (tru ns) (tru xs) = tru ms ∧ ms.Nodup ∧ (∀ z ∈ ms, z ∈ ns ∨ z ∈ xs) ∧ ms.length ≤ ns.length + xs.length
  | [], ns, h => ⟨ns, rfl, h, fun _ z => .inl z, Nat.le_refl _⟩
  | x :: r, ns, h => by
    have e : mergeK (tru ns) (tru (x :: r)) = mergeK (putK (tru ns) (.inl x) (.bl true)) (tru r) := rfl
    rw [e, tru_put]
    by_cases hx : x ∈ ns
    · rw [if_pos hx]
      obtain ⟨ms, e1, e2, e3, e4⟩ := merge_facts r ns h
      exact ⟨ms, e1, e2, fun z hz => (e3 z hz).elim .inl fun k => .inr (List.mem_cons_of_mem _ k), by rw [List.length_cons]; omega⟩
    · rw [if_neg hx]
      obtain ⟨ms, e1, e2, e3, e4⟩ := merge_facts r (ns ++ [x]) (List.nodup_append.mpr ⟨h, List.nodup_cons.mpr ⟨List.not_mem_nil, List.nodup_nil⟩, fun a ha b hb e => hx (by rw [List.mem_singleton.mp hb] at e; exact e ▸ ha)⟩)
      refine ⟨ms, e1, e2, fun z hz => ?_, by rw [List.length_append, List.length_singleton] at e4; rw [List.length_cons]; omega⟩
      rcases e3 z hz with k | k
      · rcases List.mem_append.mp k with k | k
        · exact .inl k
        · exact .inr (List.mem_singleton.mp k ▸ List.mem_cons_self)
      · exact .inr (List.mem_cons_of_mem _ k)
theorem paired_imp {α β : Type} {F G : α → β → Prop} (h : ∀ a b, F a b → G a b) : ∀ {l1 : List α} {l2 : List β}, Paired F l1 l2 → Paired G l1 l2
  | _, _, .nil => .nil
  | _, _, .cons a r => .cons (h _ _ a) (paired_imp h r)
theorem tru_keys (ns : List Int) : (tru ns).map (fun kv => kV kv.1) = ns.map V.int := by
  unfold tru
  rw [List.map_map]
  rfl
section
variable {P : Program} {w : World} {K : PySem.W.Frag} {mg : Str → Option Value} {base : Heap}
theorem but_none {H H' : Hp} {p b q : Addr} {n : Nat} (O : Orch H' p b n) (B : But p H H') (hq : H' q = none) : H q = none := by
  cases e : H q with
  | none => rfl
  | some o =>
    by_cases z : q = p
    · obtain ⟨u6, hu6⟩ := O.pn
      rw [z, hu6] at hq
      cases hq
    · rw [B q o e z] at hq
      cases hq
theorem sc__law_lot : FnScope ["tub", "some", "turn", "each"] ["tub"] (defScope s__law_lot) := ⟨rfl, rfl, rfl, by decide +kernel, rfl, by decide +kernel, by decide +kernel⟩
abbrev N__law_lot : List Str := ["tub", "some", "turn", "each"]
theorem ok__law_lot {f f1 f2 f3 : Addr} {fd fd1 fd2 fd3 : FuncData} (F : Fun K "_law_lot" "_law_lot" s__law_lot f fd) (T : Blt mg) (D__law_scoop : Df K mg "_law_scoop" s__law_scoop ["tub", "many"] f1 fd1) (D__law_pick : Df K mg "_law_pick" s__law_pick ["tub", "some"] f2 fd2) (D__law_stirred : Df K mg "_law_stirred" s__law_stirred ["tub", "some"] f3 fd3) :
    FnOk P w K mg base CX0 3 f fd ["tub"] spLotD := by
  have G__law_scoop : FnOk P w K mg base CX0 1 f1 fd1 ["tub", "many"] spDraw := ok__law_scoop D__law_scoop.F T
  have G__law_pick : FnOk P w K mg base CX0 2 f2 fd2 ["tub", "some"] spPick := ok__law_pick D__law_pick.F T D__law_scoop
  have G__law_stirred : FnOk P w K mg base CX0 2 f3 fd3 ["tub", "some"] spStir := ok__law_stirred D__law_stirred.F T D__law_scoop
  refine F.ok sc__law_lot (fun vs H Q E h => ?_) (fun cdv A outer s H vs Q E hr h => ?_)
  · obtain ⟨p, b, n, rfl, _⟩ := h
    rfl
  · obtain ⟨p, b, n, rfl, O, hn, k⟩ := h
    refine ⟨_, (pss_cons (ps_setLc (i := 1) (own := [("turn", 2)]) (g := (gName 2)) (tt := tYes) rfl sc__law_lot.nd rfl rfl (sw_true rfl rfl rfl (by decide +kernel)) (pi_range1 (by rfl) T.n_range (pa_cons (pe_call G__law_scoop (hr.mono (by decide)) (by rfl) D__law_scoop.g D__law_scoop.F.kp D__law_scoop.b .nil pass0 (pa_cons (pv 0) (pa_cons pe_int pa_nil))) pa_nil)) (blkOk_by (N := N__law_lot) (own := [("turn", 2)]) (sc := defScope s__law_lot) (by decide +kernel)) (fun _ _ _ _ _ => (pg_name (i := 2) sc__law_lot.nd rfl (Or.inl rfl))) (fun _ _ _ _ _ => pts_nil) (fun _ _ _ _ _ => (pe_call G__law_pick (hr.mono (by decide)) (by rfl) D__law_pick.g D__law_pick.F.kp D__law_pick.b .nil pass0 (pa_cons (pv 0) (pa_cons (pe_lst (pa_cons (pe_call G__law_scoop (hr.mono (by decide)) (by rfl) D__law_scoop.g D__law_scoop.F.kp D__law_scoop.b .nil pass0 (pa_cons (pv 0) (pa_cons pe_int pa_nil))) (pa_cons (pe_call G__law_scoop (hr.mono (by decide)) (by rfl) D__law_scoop.g D__law_scoop.F.kp D__law_scoop.b .nil pass0 (pa_cons (pv 0) (pa_cons pe_int pa_nil))) (pa_cons pe_int (pa_cons pe_int pa_nil))))) pa_nil)))))
  (pss_one (ps_ret (pe_call G__law_stirred (hr.mono (by decide)) (by rfl) D__law_stirred.g D__law_stirred.F.kp D__law_stirred.b .nil pass0 (pa_cons (pv 0) (pa_cons (pe_callTy (call_list_dK rfl) (by rfl) T.n_list (by decide +kernel) (pa_cons (pe_callTy (call_dictP rfl) (by rfl) T.n_dict (by decide +kernel) (pa_cons (pe_lc (own := [("each", 3)]) (g := (gName 3)) (tt := tYes) rfl sc__law_lot.nd (pi_list (pv 1)) (blkOk_by (N := N__law_lot) (own := [("each", 3)]) (sc := defScope s__law_lot) (by decide +kernel)) (fun _ _ _ _ _ => (pg_name (i := 3) sc__law_lot.nd rfl (Or.inl rfl))) (fun _ _ _ _ _ => pts_nil) (fun _ _ _ _ _ => (pe_tup (pa_cons (pv 3) (pa_cons pe_bl pa_nil))))) pa_nil)) pa_nil)) pa_nil)))))), ?_⟩
    refine ⟨_, rfl, p, b, n, 7, rfl, O, by omega, by decide, by decide, fun r H1 r0 r1 O1 B1 => ?_⟩
    obtain ⟨c, rfl⟩ := Int.eq_ofNat_of_zero_le r0
    refine ⟨_, rfl, by omega, by omega, fun D hD => ?_⟩
    obtain ⟨u1, hu1⟩ := O1.pn
    obtain ⟨v1, hv1⟩ := O1.bn
    have nDp : D ≠ p := (ne_of_none hu1 hD).symm
    have nDb : D ≠ b := (ne_of_none hv1 hD).symm
    rw [Int.toNat_natCast]
    refine lc_range (n := c) (fun i H' => Orch H' p b (n + 1 + 3 * i) ∧ But p H H' ∧ ∃ xs : List Int, xs.length = i ∧ (∀ z ∈ xs, 0 ≤ z ∧ z ≤ 20000) ∧ H' D = some (.lst (xs.map V.int))) ⟨O1.same (same_new hD), B1.trans (But.of (same_new hD)), [], rfl, fun z hz => absurd hz List.not_mem_nil, upd_same⟩ ?_ ?_
    · rintro i H2 hi ⟨O2, B2, xs, h1, h2, h3⟩
      refine ⟨rfl, _, rfl, _, rfl, p, b, _, 9, rfl, O2, by omega, by decide, by decide, fun r3 H3 r30 r31 O3 B3 => ?_⟩
      refine ⟨_, rfl, p, b, _, 400, rfl, O3, by omega, by decide, by decide, fun r4 H4 r40 r41 O4 B4 => ⟨(by show 4 ≤ sizeLine; decide), fun l hl => ?_⟩⟩
      obtain ⟨u4, hu4⟩ := O4.pn
      have nl : l ≠ p := (ne_of_none hu4 hl).symm
      have S4 := same_new (o := .lst [.int r3, .int r4, .int 20000, .int 0]) hl
      refine ⟨p, b, l, _, _, rfl, O4.same S4, by omega, upd_same, nl, by show 0 < 4; decide, by show 4 ≤ 1000; decide, fun j x H5 hj O5 B5 => ?_⟩
      obtain ⟨z, rfl, z0, z1⟩ : ∃ z, x = V.int z ∧ 0 ≤ z ∧ z ≤ 20000 := by
        match j, hj with
        | 0, e => cases e; exact ⟨_, rfl, r30, by omega⟩
        | 1, e => cases e; exact ⟨_, rfl, r40, by omega⟩
        | 2, e => cases e; exact ⟨_, rfl, by decide, by decide⟩
        | 3, e => cases e; exact ⟨_, rfl, by decide, by decide⟩
        | j + 4, e => cases e
      have B25 : But p H2 H5 := B3.trans (B4.trans ((But.of S4).trans B5))
      have h5 := B25 _ _ h3 nDp
      refine ⟨_, h5, small1000 (by rw [List.length_map]; omega), (O5.keep (fun u hu => by rw [upd_ne nDp.symm]; exact hu) fun u hu => by rw [upd_ne nDb.symm]; exact hu).mono (by omega), fun q o e nq => ?_, xs ++ [z], by rw [List.length_append, List.length_singleton, h1], fun y hy => ?_, ?_⟩
      · rw [upd_ne (ne_of_none e (but_none O1 B1 hD))]
        exact B2.trans B25 q o e nq
      · rcases List.mem_append.mp hy with e | e
        · exact h2 y e
        · rw [List.mem_singleton.mp e]
          exact ⟨z0, z1⟩
      · rw [upd_same, List.map_append]
        rfl
    · rintro H2 ⟨O2, B2, xs, h1, h2, h3⟩
      refine ⟨_, rfl, _, rfl, D, rfl, ⟨_, SqL.of h3⟩, fun D2 hD2 => ?_⟩
      have tl : ∀ i : Nat, (tru (xs.take i)).length ≤ xs.length := fun i => by
        unfold tru
        rw [List.length_map, List.length_take]
        omega
      refine lc_list (K := K) (a := D) (xs := xs.map V.int) (fun i H' => Same H2 H' ∧ ∃ ps : List Addr, H' D2 = some (.lst (ps.map V.ref)) ∧ Paired (fun p kv => SqT K H' p [kV kv.1, kv.2]) ps (tru (xs.take i))) ⟨same_new hD2, [], upd_same, .nil⟩ (fun i H' _ h => SqL.of (h.1 _ _ h3)) ?_ ?_
      · rintro i y H3 hy ⟨S3, ps, e1, e2⟩
        obtain ⟨z, hz, rfl⟩ : ∃ z, xs[i]? = some z ∧ y = V.int z := by
          rw [List.getElem?_map] at hy
          cases e : xs[i]? with
          | none => rw [e] at hy; cases hy
          | some z => rw [e] at hy; exact ⟨z, rfl, (Option.some.inj hy).symm⟩
        refine ⟨rfl, _, rfl, (by show 2 ≤ sizeLine; decide), fun t ht => ?_⟩
        have St := same_new (o := .tup [.int z, .bl true]) ht
        have nt : D2 ≠ t := ne_of_none e1 ht
        have hpl := e2.length
        have h4 := tl i
        have e3 := St _ _ e1
        have S5 : Same H2 (upd (upd H3 t (.tup [.int z, .bl true])) D2 (.lst (ps.map V.ref ++ [V.ref t]))) := fun q o e => by
          rw [upd_ne (ne_of_none e hD2)]
          exact (S3.trans St) q o e
        have up : ∀ {q : Addr} {ys : List V}, SqT K H3 q ys → SqT K (upd (upd H3 t (.tup [.int z, .bl true])) D2 (.lst (ps.map V.ref ++ [V.ref t]))) q ys := fun {q ys} hq => by
          have nq : ∀ {o : HO}, H3 q = some o → (∀ zs, o ≠ .lst zs) → upd (upd H3 t (.tup [.int z, .bl true])) D2 (.lst (ps.map V.ref ++ [V.ref t])) q = some o := fun {o} e no => by
            have n2 : q ≠ D2 := fun z => by
              rw [z, e1] at e
              exact no _ (Option.some.inj e).symm
            rw [upd_ne n2]
            exact St _ _ e
          rcases hq with (e | ⟨o, e⟩) | e
          · exact .inl (.inl (nq e fun _ z => nomatch z))
          · exact .inl (.inr ⟨o, nq e fun _ z => nomatch z⟩)
          · exact .inr e
        refine ⟨_, e3, small1000 (by rw [List.length_map]; omega), S5, ps ++ [t], by rw [upd_same, List.map_append]; rfl, ?_⟩
        rw [take_more hz]
        unfold tru
        rw [List.map_append]
        refine Paired.snoc ?_ (.inl (.inl (by rw [upd_ne nt.symm]; exact upd_same)))
        exact paired_imp (fun _ _ h => up h) e2
      · rintro H3 ⟨S3, ps, e1, e2⟩
        rw [List.length_map, List.take_length] at e2
        obtain ⟨ms, m1, m2, m3, m4⟩ := merge_facts xs [] List.nodup_nil
        refine ⟨D2, ps, _, rfl, SqL.of e1, e2, fun g hg => ?_⟩
        have Sg := same_new (o := .dK (mergeK [] (tru xs))) hg
        refine ⟨g, _, rfl, upd_same, fun l hl => ?_⟩
        have Sl := same_new (o := .lst (ms.map V.int)) hl
        have el : (mergeK [] (tru xs)).map (fun kv => kV kv.1) = ms.map V.int := by
          rw [show mergeK [] (tru xs) = tru ms from m1, tru_keys]
        rw [el]
        have S4 := S3.trans (Sg.trans Sl)
        have O4 := O2.same S4
        obtain ⟨u4, hu4⟩ := O4.pn
        have nlp : l ≠ p := by
          obtain ⟨u2, hu2⟩ := O2.pn
          exact (ne_of_none (S3.trans Sg _ _ hu2) hl).symm
        have hms : ms.length ≤ 6 := by
          rw [List.length_nil] at m4
          omega
        have B4 : But p H (upd (upd H3 g (.dK (mergeK [] (tru xs)))) l (.lst (ms.map V.int))) := B2.trans (But.of S4)
        refine ⟨p, b, l, _, ms, rfl, O4, by omega, upd_same, nlp, by omega, fun q ns H5 perm hq hq5 O5 B5 => ?_⟩
        refine k q ns H5 (but_none O4 B4 hq) (perm.nodup_iff.mpr m2) (fun z hz => h2 z ?_) (by rw [perm.length_eq]; exact hms) hq5 (O5.mono (by omega)) (B4.trans B5)
        rcases m3 z (perm.mem_iff.mp hz) with e | e
        · exact absurd e List.not_mem_nil
        · exact e
end
end K02
namespace K02
open PySem PySem.Spec PyProof.Rows L2 OB SkE LamX
/-- what the law's reader of errors asks of the error's class -/
structure Kinds (K : PySem.W.Frag) (mg : Str → Option Value) (CB : Addr) : Prop where
  gB : mg "BadBits" = some (.ref CB)
  xf : XfC K CB
  ec : ExcC K CB
  ex : PySem.W.exmOne K (.ref CB) (.ref CB) = some true
  no : PySem.W.findIn K (.ref CB) "part" = some none
  kk : PySem.W.kitOne K (.ref CB) (.ref CB) = some true
def TTheard (CB : Addr) : List V → (XK → Hp → VK → Prop) → Hp → VK → Prop := fun vs tl H Q => vs = [] ∧
  tl (fun cls d H' => ∃ (dd : Addr) (part : Str), d = some dd ∧ H' dd = some (.xd [(("part" : Str), .str part)]) ∧ cls = .ref CB ∧ ∀ H'', Same H' H'' → Q (.str part) H'') H fun _ H' => Q .non H'
section
theorem sc__law_heard : FnScope ["ask", "caught", "error"] ["ask"] (defScope s__law_heard) := ⟨rfl, rfl, rfl, by decide +kernel, rfl, by decide +kernel, by decide +kernel⟩
theorem heard_gives {X : Cx} {g CB : Addr} {cdg : Value} {q : Str} {kk : Nat} (Z : Kinds X.K X.mg CB) (T : Blt X.mg) : Gives X ["ask", "caught", "error"] "_law_heard" (defScope s__law_heard) g cdg (defBody s__law_heard) "ask" q kk (TTheard CB) := by
  intro f c' vs s H Q tl hr act hc mono h
  obtain ⟨rfl, h⟩ := h
  have g_BadBits := Z.gB
  refine ⟨_, (pss_cons (ps_set (i := 1) sc__law_heard.nd rfl (Or.inl rfl) pe_non)
  (pss_cons (ps_try_keep1 (i := 2) (j := 1) rfl rfl rfl sc__law_heard.nd rfl rfl rfl rfl ⟨by rfl, by decide, .inl g_BadBits⟩ (fun W pn xe tk _ => (pss_one (ps_expr (act W pn xe _ _ tk)))))
  (pss_one (ps_ret (pe_ifExp (pt_cmpR op_isN (pv 1) pe_non (nomark _)) pe_non (pe_ifExp (pt_val (pe_callB (call_or call_isX call_isi) (by rfl) T.n_isinstance (by decide +kernel) (pa_cons (pv 1) (pa_cons (pe_glob (v := .ref _) (by rfl) g_BadBits rfl) pa_nil)))) (pe_xa (pv 1)) pe_str)))))), ?_⟩
  refine ⟨rfl, hc, ?_⟩
  refine mono _ _ _ _ _ ?_ ?_ h
  rotate_left
  · intro v H' k
    exact ⟨_, rfl, rfl, _, rfl, k⟩
  · rintro cls d H' ⟨dd, part, rfl, hd, rfl, k⟩
    refine ⟨Z.ex, fun a ha => ?_⟩
    have nad : dd ≠ a := ne_of_none hd ha
    have hd1 : (upd H' a (ExA (.ref CB) (some dd) a)) dd = some (.xd [(("part" : Str), .str part)]) := by
      rw [upd_ne nad]
      exact hd
    refine ⟨_, rfl, rfl, _, rfl, ?_⟩
    refine iteF ?_
    refine ⟨_, rfl, .inl ⟨a, CB, some dd, .ref CB, .ref CB, true, rfl, Z.ec, upd_same, (fun z e => by cases e; exact ⟨_, hd1⟩), .own CB, Z.kk, _, rfl, ?_⟩⟩
    refine iteT ?_
    exact ⟨_, rfl, a, CB, dd, _, _, rfl, Z.xf, Z.no, upd_same, hd1, rfl, k _ (same_new ha)⟩
end
end K02
namespace K02
open PySem PySem.Spec PyProof.Rows L2 OB SkE LamX
def LQ : Str := (envOfC "law" (defScope s_law) 0 0 .none).qual ++ "<lambda>"
def rTupOf (K : PySem.W.Frag) : List V → Hp → VK → Prop := fun xs H Q => ∃ p ys, xs = [.ref p] ∧ ((SqL K H p ys ∧ ∀ l, H l = none → Q (.ref l) (upd H l (.tup ys))) ∨ (SqT K H p ys ∧ Q (.ref p) H))
def spLaw (K : PySem.W.Frag) (Pt : Addr) : Sp := fun vs H Q _ => ∃ (a : Addr) (ns : List Int), vs = [.ref a] ∧ SqL K H a (ns.map V.int) ∧ ns.length ≤ 63 ∧ H Pt = some (.tbl #[]) ∧ ∀ H', Q (.bl true) H'
def rot {α : Type} : List α → List α → List α
  | [], [a, b, c] => [b, c, a]
  | _, _ => []
theorem rot_vals {vs : List V} {us : List Value} {zs : List V} {ws : List Value} (g : Vals vs us) (h : Vals zs ws) : Vals (rot vs zs) (rot us ws) := by
  cases g with
  | cons _ _ => exact .nil
  | nil =>
    cases h with
    | nil => exact .nil
    | cons a r =>
      cases r with
      | nil => exact .nil
      | cons b r =>
        cases r with
        | nil => exact .nil
        | cons c r =>
          cases r with
          | nil => exact .cons b (.cons c (.cons a .nil))
          | cons d r => exact .nil
/-- what stays, but for the tub and the tables -/
def Kp (p : Addr) (H H' : Hp) : Prop := ∀ q o, H q = some o → q ≠ p → (∀ ps, o ≠ .tbl ps) → H' q = some o
theorem Kp.trans {p : Addr} {H H1 H2 : Hp} (a : Kp p H H1) (b : Kp p H1 H2) : Kp p H H2 := fun q o e n t => b q o (a q o e n t) n t
theorem Kp.but {p : Addr} {H H' : Hp} (b : But p H H') : Kp p H H' := fun q o e n _ => b q o e n
theorem Kp.same {p : Addr} {H H' : Hp} (s : Same H H') : Kp p H H' := fun q o e _ _ => s q o e
theorem Kp.ext {p : Addr} {H H' : Hp} (s : ExtN H H') : Kp p H H' := fun q o e _ t => s q o e t
section
variable {K : PySem.W.Frag} {CB : Addr} {vs : List V} {H : Hp} {Q1 Q2 : VK} {E1 E2 : XK}
theorem l_mono (hE : ∀ c d H, E1 c d H → E2 c d H) (hQ : ∀ v H, Q1 v H → Q2 v H) (h : spLotOf K CB vs H Q1 E1) : spLotOf K CB vs H Q2 E2 := by
  obtain ⟨x, e, h⟩ := h
  refine ⟨x, e, ?_⟩
  rcases h with ⟨hb, r⟩ | ⟨ns, h1, q⟩
  · exact .inl ⟨hb, fun H' S d hd => hE _ _ _ (r H' S d hd)⟩
  · exact .inr ⟨ns, h1, fun ns' a H' p u S e => hQ _ _ (q ns' a H' p u S e)⟩
theorem mono_l1 : ∀ σ : L2.St, MonoL fun E H' Q' => (tCallS (spLotOf K CB) (WE fun cls d _ H => E cls d H) (tCons (tVar 12) tNil)) σ H' Q' := by
  rintro σ E1 E2 H Q1 Q2 hE hQ ⟨v, e, h⟩
  exact ⟨v, e, l_mono (fun c d H => hE c d H) (fun v H => hQ v H) h⟩
theorem mono_l2 : ∀ σ : L2.St, MonoL fun E H' Q' => (tCallS (spLotOf K CB) (WE fun cls d _ H => E cls d H) (tCons (tCB (rTupOf K) (tCons (tVar 8) tNil)) tNil)) σ H' Q' := by
  rintro σ E1 E2 H Q1 Q2 hE hQ ⟨v, e, a, ys, e2, h⟩
  refine ⟨v, e, a, ys, e2, ?_⟩
  rcases h with ⟨h1, h⟩ | ⟨h1, h⟩
  · exact .inl ⟨h1, fun l hl => l_mono (fun c d H => hE c d H) (fun v H => hQ v H) (h l hl)⟩
  · exact .inr ⟨h1, l_mono (fun c d H => hE c d H) (fun v H => hQ v H) h⟩
end
theorem same_yes {x : V} : decide (x = x) = true := by simp
theorem same_text {x : V} : (!decide (x = x)) = false := by simp
theorem in_yes {z : Int} (h : 0 ≤ z ∧ z ≤ 20000) : inB (some 0) (some 20000) (.int z) = true := by
  show (decide ((0 : Int) ≤ z) && decide (z ≤ 20000)) = true
  rw [decide_eq_true h.1, decide_eq_true h.2]
  rfl
theorem paired_at {α β : Type} {F : α → β → Prop} : ∀ {l1 : List α} {l2 : List β}, Paired F l1 l2 → ∀ (i : Nat) (a : α) (b : β), l1[i]? = some a → l2[i]? = some b → F a b
  | _, _, .nil, i, a, b, h1, _ => by cases h1
  | _, _, .cons h r, 0, a, b, h1, h2 => by
    cases h1
    cases h2
    exact h
  | _, _, .cons h r, i + 1, a, b, h1, h2 => paired_at r i a b h1 h2
theorem paired_app {α β : Type} {F : α → β → Prop} {m1 : List α} {m2 : List β} (g : Paired F m1 m2) : ∀ {l1 : List α} {l2 : List β}, Paired F l1 l2 → Paired F (l1 ++ m1) (l2 ++ m2)
  | _, _, .nil => g
  | _, _, .cons h r => .cons h (paired_app g r)
theorem paired_ints {K : PySem.W.Frag} {H : Hp} : ∀ ns : List Int, (∀ z ∈ ns, 0 ≤ z ∧ z ≤ 20000) → Paired (fun v b => ∃ c, EvI K H v c ∧ b = (c && inB (some 0) (some 20000) v)) (ns.map V.int) (ns.map fun _ => true)
  | [], _ => .nil
  | z :: r, h => .cons ⟨true, fun _ _ => isI_int _, by rw [in_yes (h z List.mem_cons_self)]; rfl⟩ (paired_ints r fun y hy => h y (List.mem_cons_of_mem _ hy))
/-- a lot with one item more, that is no bit or one of its own -/
theorem no_bent {K : PySem.W.Frag} {p q : Addr} {H : Hp} {ns1 ns2 : List Int} {o : V} (nq : q ≠ p) (hq : H q = some (.lst ((ns1.map V.int ++ [o]) ++ ns2.map V.int))) (hl : ns1.length + ns2.length ≤ 800) (hin : ∀ z ∈ ns1 ++ ns2, 0 ≤ z ∧ z ≤ 20000)
    (ho : ∃ c, (∀ H', Kp p H H' → IsI K H' o c) ∧ ((c && inB (some 0) (some 20000) o) = true → ∃ z, o = .int z ∧ z ∈ ns1 ++ ns2)) : ∀ H', Kp p H H' → NoLot K H' (.ref q) (some 0) (some 20000) := by
  obtain ⟨c, hc, hd⟩ := ho
  intro H' kp
  have hq' := kp q _ hq nq (fun _ z => nomatch z)
  refine .inr ⟨q, _, (ns1.map (fun _ => true) ++ [c && inB (some 0) (some 20000) o]) ++ ns2.map (fun _ => true), rfl, .inl (SqL.of hq'), ?_, fun H2 S => isL_lst (S _ _ hq'), ?_, ?_, fun z => ?_⟩
  · simp only [List.length_append, List.length_map, List.length_singleton]
    omega
  · simp only [List.length_append, List.length_map, List.length_singleton]
  · exact paired_at (paired_app (paired_ints ns2 fun z hz => hin z (List.mem_append_right _ hz)) (paired_app (.cons ⟨c, fun H2 S => hc H2 (kp.trans (.same S)), rfl⟩ .nil) (paired_ints ns1 fun z hz => hin z (List.mem_append_left _ hz))))
  · rw [List.all_append, List.all_append] at z
    have z2 : (c && inB (some 0) (some 20000) o) = true := by
      rw [Bool.and_eq_true, Bool.and_eq_true] at z
      have := z.1.2
      simpa using this
    obtain ⟨y, rfl, hy⟩ := hd z2
    refine ⟨ns1 ++ [y] ++ ns2, by rw [List.map_append, List.map_append]; rfl, fun nd => ?_⟩
    rw [List.append_assoc, List.nodup_append] at nd
    obtain ⟨_, n2, n3⟩ := nd
    rcases List.mem_append.mp hy with e | e
    · exact n3 y e y (List.mem_append_left _ List.mem_cons_self) rfl
    · have n2 := List.nodup_cons.mp (show (y :: ns2).Nodup from n2)
      exact n2.1 e
theorem is_lot_l {K : PySem.W.Frag} {H : Hp} {q : Addr} {ns : List Int} (h : H q = some (.lst (ns.map V.int))) (hl : ns.length ≤ 6) (hin : ∀ z ∈ ns, 0 ≤ z ∧ z ≤ 20000) (nd : ns.Nodup) : IsLot K H (.ref q) (some 0) (some 20000) ns :=
  ⟨q, rfl, .inl (SqL.of h), by omega, fun _ S => isL_lst (S _ _ h), fun z hz => in_yes (hin z hz), nd⟩
theorem is_lot_t {K : PySem.W.Frag} {H : Hp} {q : Addr} {ns : List Int} (h : H q = some (.tup (ns.map V.int))) (hl : ns.length ≤ 6) (hin : ∀ z ∈ ns, 0 ≤ z ∧ z ≤ 20000) (nd : ns.Nodup) : IsLot K H (.ref q) (some 0) (some 20000) ns :=
  ⟨q, rfl, .inr (SqT.of h), by omega, fun _ S => isL_tup (S _ _ h), fun z hz => in_yes (hin z hz), nd⟩
theorem cut_to {ns : List Int} {k : Nat} (h : k ≤ ns.length) : cutV (ns.map V.int) none (some (k : Int)) = (ns.take k).map V.int := by
  unfold cutV
  have a : HT.sIx (ns.map V.int).length 0 none = 0 := rfl
  have e : HT.sIx (ns.map V.int).length (ns.map V.int).length (some (k : Int)) = min k (ns.map V.int).length := HT.sIx_nat _ _ k
  rw [a, e, List.drop_zero, Nat.sub_zero, List.length_map, Nat.min_eq_left h, List.map_take]
theorem cut_from {ns : List Int} {k : Nat} (h : k ≤ ns.length) : cutV (ns.map V.int) (some (k : Int)) none = (ns.drop k).map V.int := by
  unfold cutV
  have a : HT.sIx (ns.map V.int).length (ns.map V.int).length none = (ns.map V.int).length := rfl
  have e : HT.sIx (ns.map V.int).length 0 (some (k : Int)) = min k (ns.map V.int).length := HT.sIx_nat _ _ k
  rw [a, e, List.length_map, Nat.min_eq_left h, List.map_drop]
  exact List.take_of_length_le (by rw [List.length_drop, List.length_map]; omega)
theorem dp_two {K : PySem.W.Frag} {H : Hp} {l : Addr} {a b : Bool} (h : H l = some (.lst [.bl a, .bl b])) : Dp K H (.ref l) (.list [.bool a, .bool b]) := .lst (SqL.of h) (.cons (.bl _) (.cons (.bl _) .nil))
theorem two_ok (a b : Bool) : PyData.showable (.list [.bool a, .bool b]) = true ∧ PyData.canLay0 (.list [.bool a, .bool b]) = true ∧ PyData.depth (.list [.bool a, .bool b]) ≤ 60 ∧ (PyData.shown (.list [.bool a, .bool b])).length ≤ sizeLine := by
  cases a <;> cases b <;> decide +kernel
theorem lay_ints : ∀ ns : List Int, PyData.canLayAll0 (ns.map PyData.int) = true
  | [] => rfl
  | z :: r => by
    show (PyData.canLay0 (.int z) && PyData.canLayAll0 (r.map PyData.int)) = true
    rw [lay_ints r]
    rfl
theorem list_ne (ns : List Int) : (!PyData.eqv (.list (ns.map PyData.int)) (.list (ns.map PyData.int))) = false := by
  rw [SeqAt.eqv_refl _ (show PyData.canLay0 (.list (ns.map PyData.int)) = true from lay_ints ns)]
  rfl
theorem same_new2 {H : Hp} {d : Addr} {o1 o2 : HO} (hd : H d = none) : Same H (upd (upd H d o1) d o2) := fun q o e => by
  rw [upd_ne (ne_of_none e hd), upd_ne (ne_of_none e hd)]
  exact e
theorem Kp.refl {p : Addr} {H : Hp} : Kp p H H := fun _ _ e _ _ => e
theorem log_bit {z : Int} (h : 0 ≤ z ∧ z ≤ 20000) : z.natAbs.log2 < 1920 := by
  have h2 : z.natAbs < 2 ^ 15 := by
    have : (2 : Nat) ^ 15 = 32768 := by decide
    omega
  by_cases e : z.natAbs = 0
  · rw [e]
    decide
  · exact Nat.lt_of_lt_of_le ((Nat.log2_lt e).mpr h2) (by decide)
section
variable {P : Program} {w : World} {K : PySem.W.Frag} {mg : Str → Option Value} {base : Heap}
abbrev N_law : List Str := ["script", "tub", "turn", "value", "whole", "least", "most", "due", "lot", "kept", "at", "odd", "bent"]
theorem sc_law : FnScope ["script", "tub", "turn", "value", "whole", "least", "most", "due", "lot", "kept", "at", "odd", "bent"] ["script"] (defScope s_law) := ⟨rfl, rfl, rfl, by decide +kernel, rfl, by decide +kernel, by decide +kernel⟩
theorem ok_law {f f1 f2 f3 f4 f5 f6 f7 f8 f9 f10 CB c Pt : Addr} {fd1 fd2 fd3 fd4 fd5 fd6 fd7 fd8 fd9 fd10 : FuncData} {oc kV doc pm ct : Value} {od an : Option Addr} {osl : Array (Option Value)} (T : Blt mg)
    (lk : K.lookup f = some ⟨oc, od, .func (PySem.W.fnOf "law" "law" (defArgs s_law) (defBody s_law) (defScope s_law) .none kV doc pm an (.ref c) ct), osl⟩) (hcd : PySem.W.codeIn K (.ref c) "law" = true)
    (TB : TabB base mg c Pt) (Z : Kinds K mg CB)
    (D__law_tub : Df K mg "_law_tub" s__law_tub ["script"] f1 fd1) (G__law_tub : FnOk P w K mg base CX0 1 f1 fd1 ["script"] (spLot K))
    (D__law_scoop : Df K mg "_law_scoop" s__law_scoop ["tub", "many"] f2 fd2) (D__law_pick : Df K mg "_law_pick" s__law_pick ["tub", "some"] f3 fd3)
    (D__law_any : Df K mg "_law_any" s__law_any ["tub"] f4 fd4) (D__law_within : Df K mg "_law_within" s__law_within ["value", "whole", "least", "most"] f5 fd5)
    (D__law_lot : Df K mg "_law_lot" s__law_lot ["tub"] f6 fd6) (G__law_lot : FnOk P w K mg base CX0 3 f6 fd6 ["tub"] spLotD)
    (D__law_heard : Df K mg "_law_heard" s__law_heard ["ask"] f7 fd7)
    (D_is_integer : Df K mg "is_integer" s_is_integer ["value"] f8 fd8) (D_is_within : Df K mg "is_within" s_is_within ["value", "least", "most"] f9 fd9)
    {f11 : Addr} {fd11 : FuncData} (D_is_lot : Df K mg "is_lot" s_is_lot ["value"] f10 fd10) (G_is_lot : FnOk P w K mg base CX0 5 f10 fd10 ["value"] (spIsLot K))
    (D_lot_of : Df K mg "lot_of" s_lot_of ["bits"] f11 fd11) (GX_lot_of : FnOk P w K mg base (L2.CX P w) 7 f11 fd11 ["bits"] (spLotOf K CB)) :
    FnG P w K mg base CX0 14 f (PySem.W.fnOf "law" "law" (defArgs s_law) (defBody s_law) (defScope s_law) .none kV doc pm an (.ref c) ct) ["script"] (spLaw K Pt) := by
  have G_lot_of := calm_of GX_lot_of
  have G__law_scoop : FnOk P w K mg base CX0 1 f2 fd2 ["tub", "many"] spDraw := ok__law_scoop D__law_scoop.F T
  have G__law_pick : FnOk P w K mg base CX0 2 f3 fd3 ["tub", "some"] spPick := ok__law_pick D__law_pick.F T D__law_scoop
  have G__law_any : FnOk P w K mg base CX0 3 f4 fd4 ["tub"] (spAny K) := ok__law_any D__law_any.F T D__law_scoop D__law_pick
  have G__law_within : FnOk P w K mg base CX0 1 f5 fd5 ["value", "whole", "least", "most"] spWithinD := ok__law_within D__law_within.F T
  have G_is_integer : FnOk P w K mg base CX0 1 f8 fd8 ["value"] (spIsInt K) := ok_is_integer D_is_integer.F T
  have G_is_within : FnOk P w K mg base CX0 2 f9 fd9 ["value", "least", "most"] (spWithin K) := ok_is_within D_is_within.F D_is_integer T
  have kb_is_integer : KBinds K fd8 ["value"] ["value"] (fun us ws => us ++ ws) (fun us ws => us ++ ws) := kbinds D_is_integer.F (fun _ _ _ _ _ _ us ws hl => by
      have hl2 : us.length + ws.length = 1 := by
        rw [← List.length_append]
        exact hl
      rcases us with _ | ⟨a, _ | ⟨b, us⟩⟩ <;> rcases ws with _ | ⟨x, _ | ⟨y, ws⟩⟩ <;> first | rfl | (simp at hl2; done) | (simp at hl2; omega)) fun a b => a.append b
  have kb_is_lot : KBinds K fd10 ["value"] ["value"] (fun us ws => us ++ ws) (fun us ws => us ++ ws) := kbinds D_is_lot.F (fun _ _ _ _ _ _ us ws hl => by
      have hl2 : us.length + ws.length = 1 := by
        rw [← List.length_append]
        exact hl
      rcases us with _ | ⟨a, _ | ⟨b, us⟩⟩ <;> rcases ws with _ | ⟨x, _ | ⟨y, ws⟩⟩ <;> first | rfl | (simp at hl2; done) | (simp at hl2; omega)) fun a b => a.append b
  have kb_lot_of : KBinds K fd11 ["bits"] ["bits"] (fun us ws => us ++ ws) (fun us ws => us ++ ws) := kbinds D_lot_of.F (fun _ _ _ _ _ _ us ws hl => by
      have hl2 : us.length + ws.length = 1 := by
        rw [← List.length_append]
        exact hl
      rcases us with _ | ⟨a, _ | ⟨b, us⟩⟩ <;> rcases ws with _ | ⟨x, _ | ⟨y, ws⟩⟩ <;> first | rfl | (simp at hl2; done) | (simp at hl2; omega)) fun a b => a.append b
  have kb_is_within : KBinds K fd9 ["value", "least", "most"] ["most", "value", "least"] (fun us ws => rot us ws) (fun us ws => rot us ws) := kbinds D_is_within.F (fun _ _ _ _ _ _ us ws hl => by
      rcases us with _ | ⟨a, us⟩
      · rcases ws with _ | ⟨x, _ | ⟨y, _ | ⟨z, _ | ⟨t, ws⟩⟩⟩⟩ <;> first | rfl | (exact absurd hl (by decide)) | (exact absurd (show 0 = 3 from hl) (by decide))
      · exact absurd (show 0 = 3 from hl) (by decide)) fun a b => rot_vals a b
  obtain ⟨ocH, odH, kVH, docH, pmH, anH, cdvH, ctH, oslH, eH, lkH, hcH⟩ := D__law_heard.F.ex
  subst eH
  have bind0 : ∀ {pr : Arguments}, (∀ (q : Str) (body : Expr) (scope : Scope) (cl : List (Str × Addr)) (pm cv ctv : Value), bindArgs (lFn q pr body scope cl .none pm cv ctv) ⟨[], []⟩ = pure []) → ∀ ds : List Value, Vals (([] : List Int).map V.int) ds → LamB pr [] ds := fun h ds rd => by
    cases rd
    exact lamB0 h
  have bind1 : ∀ {pr : Arguments} {a : Str}, (∀ (d : Value) (q : Str) (body : Expr) (scope : Scope) (cl : List (Str × Addr)) (T : Addr) (pm cv ctv : Value), ∃ k, bindArgs (lFn q pr body scope cl (.ref T) pm cv ctv) ⟨[], []⟩ = seqItems? (.ref T) >>= k ∧ k (some #[d]) = pure [(a, d)]) →
      ∀ ds : List Value, Vals (([0] : List Int).map V.int) ds → LamB pr [a] ds := fun h ds rd => by
    cases rd with
    | cons r rr =>
      cases rr
      exact lamB1 (h _)
  refine fnG_of lk hcd sc_law (fun vs H Q E h => ?_) fun A outer s H vs Q E hgd hr h => ?_
  · obtain ⟨a, ns, rfl, _⟩ := h
    rfl
  · obtain ⟨a, ns, rfl, hS, hl, hP, k⟩ := h
    have t0 : ∃ t, PSs (cxOf CX0 P w K mg base ["script", "tub", "turn", "value", "whole", "least", "most", "due", "lot", "kept", "at", "odd", "bent"] "law" (defScope s_law) f (.ref c) A outer s H E).nox (defBody s_law) t ∧ t { nx := fun _ H' => Q .non H', rt := Q } (L2.start ["script", "tub", "turn", "value", "whole", "least", "most", "due", "lot", "kept", "at", "odd", "bent"] [.ref a]) H := by
      refine ⟨_, (pss_cons (ps_set (i := 1) sc_law.nd rfl (Or.inl rfl) (pe_call G__law_tub (hr.mono (by decide)) (by rfl) D__law_tub.g D__law_tub.F.kp D__law_tub.b .nil pass0 (pa_cons (pv 0) pa_nil)))
  (pss_cons (ps_for PassesOwn.never rfl (pi_range1 (by rfl) T.n_range (pa_cons pe_int pa_nil)) (pg_name (i := 2) sc_law.nd rfl (Or.inl rfl)) (pss_cons (ps_asg (pe_call G__law_any (hr.mono (by decide)) (by rfl) D__law_any.g D__law_any.F.kp D__law_any.b .nil pass0 (pa_cons (pv 1) pa_nil)) (pg_tup (by rfl) (pgs_cons (pg_name (i := 3) sc_law.nd rfl (Or.inl rfl)) (pgs_cons (pg_name (i := 4) sc_law.nd rfl (Or.inl rfl)) pgs_nil))))
  (pss_cons (ps_par (i := 5) (j := 6) (by rfl) sc_law.nd rfl rfl (by decide) rfl rfl (pa_cons (pe_call G__law_pick (hr.mono (by decide)) (by rfl) D__law_pick.g D__law_pick.F.kp D__law_pick.b .nil pass0 (pa_cons (pv 1) (pa_cons (pe_lst (pa_cons pe_non (pa_cons pe_int (pa_cons (pe_un un_neg pe_int) (pa_cons (pe_call G__law_scoop (hr.mono (by decide)) (by rfl) D__law_scoop.g D__law_scoop.F.kp D__law_scoop.b .nil pass0 (pa_cons (pv 1) (pa_cons pe_int pa_nil))) pa_nil))))) pa_nil))) (pa_cons (pe_call G__law_pick (hr.mono (by decide)) (by rfl) D__law_pick.g D__law_pick.F.kp D__law_pick.b .nil pass0 (pa_cons (pv 1) (pa_cons (pe_lst (pa_cons pe_non (pa_cons pe_int (pa_cons pe_int (pa_cons (pe_call G__law_scoop (hr.mono (by decide)) (by rfl) D__law_scoop.g D__law_scoop.F.kp D__law_scoop.b .nil pass0 (pa_cons (pv 1) (pa_cons pe_int pa_nil))) pa_nil))))) pa_nil))) pa_nil)) (by rfl))
  (pss_cons (ps_if (pt_cmpR op_ne (pe_callB (call_reprD hgd hr.units) (by rfl) T.n_repr (by decide +kernel) (pa_cons (pe_lst (pa_cons (pe_call G_is_integer (hr.mono (by decide)) (by rfl) D_is_integer.g D_is_integer.F.kp D_is_integer.b .nil pass0 (pa_cons (pv 3) pa_nil)) (pa_cons (pe_callKo G_is_integer (hr.mono (by decide)) (by rfl) D_is_integer.g D_is_integer.F.kp kb_is_integer pass0 (pk_cons (pv 3) pk_nil)) pa_nil))) pa_nil)) (pe_callB (call_reprD hgd hr.units) (by rfl) T.n_repr (by decide +kernel) (pa_cons (pe_lst (pa_cons (pv 4) (pa_cons (pv 4) pa_nil))) pa_nil)) (nomark _)) (pss_one (ps_ret pe_bl)) pss_nil)
  (pss_cons (ps_set (i := 7) sc_law.nd rfl (Or.inl rfl) (pe_call G__law_within (hr.mono (by decide)) (by rfl) D__law_within.g D__law_within.F.kp D__law_within.b .nil pass0 (pa_cons (pv 3) (pa_cons (pv 4) (pa_cons (pv 5) (pa_cons (pv 6) pa_nil))))))
  (pss_cons (ps_if (pt_cmpR op_ne (pe_callB (call_reprD hgd hr.units) (by rfl) T.n_repr (by decide +kernel) (pa_cons (pe_lst (pa_cons (pe_call G_is_within (hr.mono (by decide)) (by rfl) D_is_within.g D_is_within.F.kp D_is_within.b .nil pass0 (pa_cons (pv 3) (pa_cons (pv 5) (pa_cons (pv 6) pa_nil)))) (pa_cons (pe_callKo G_is_within (hr.mono (by decide)) (by rfl) D_is_within.g D_is_within.F.kp kb_is_within pass0 (pk_cons (pv 6) (pk_cons (pv 3) (pk_cons (pv 5) pk_nil)))) pa_nil))) pa_nil)) (pe_callB (call_reprD hgd hr.units) (by rfl) T.n_repr (by decide +kernel) (pa_cons (pe_lst (pa_cons (pv 7) (pa_cons (pv 7) pa_nil))) pa_nil)) (nomark _)) (pss_one (ps_ret pe_bl)) pss_nil)
  (pss_cons (ps_set (i := 8) sc_law.nd rfl (Or.inr rfl) (pe_call G__law_lot (hr.mono (by decide)) (by rfl) D__law_lot.g D__law_lot.F.kp D__law_lot.b .nil pass0 (pa_cons (pv 1) pa_nil)))
  (pss_cons (ps_set (i := 9) sc_law.nd rfl (Or.inl rfl) (pe_callTy call_list_of (by rfl) T.n_list (by decide +kernel) (pa_cons (pv 8) pa_nil)))
  (pss_cons (ps_if (PW.pt (pw_or (pt_cmpR op_ne (pe_callB (call_reprD hgd hr.units) (by rfl) T.n_repr (by decide +kernel) (pa_cons (pe_lst (pa_cons (pe_call G_is_lot (hr.mono (by decide)) (by rfl) D_is_lot.g D_is_lot.F.kp D_is_lot.b .nil pass0 (pa_cons (pv 8) pa_nil)) (pa_cons (pe_callKo G_is_lot (hr.mono (by decide)) (by rfl) D_is_lot.g D_is_lot.F.kp kb_is_lot pass0 (pk_cons (pe_callTy call_tuple_of (by rfl) T.n_tuple (by decide +kernel) (pa_cons (pv 8) pa_nil)) pk_nil)) pa_nil))) pa_nil)) pe_str (nomark _)) (pw_or (pt_cmpR op_ne (pe_callB (call_reprI hgd hr.units) (by rfl) T.n_repr (by decide +kernel) (pa_cons (pe_callKo G_lot_of (hr.mono (by decide)) (by rfl) D_lot_of.g D_lot_of.F.kp kb_lot_of pass0 (pk_cons (pv 8) pk_nil)) pa_nil)) (pe_callB (call_reprI hgd hr.units) (by rfl) T.n_repr (by decide +kernel) (pa_cons (pe_callTy call_tuple_of (by rfl) T.n_tuple (by decide +kernel) (pa_cons (pe_callB cr_sortedA (by rfl) T.n_sorted (by decide +kernel) (pa_cons (pv 9) pa_nil)) pa_nil)) pa_nil)) (nomark _)) (pw_or1 (pt_cmpR (op_neD hr.units) (pv 8) (pv 9) (nomark _)))))) (pss_one (ps_ret pe_bl)) pss_nil)
  (pss_cons (ps_par (i := 10) (j := 11) (by rfl) sc_law.nd rfl rfl (by decide) rfl rfl (pa_cons (pe_call G__law_scoop (hr.mono (by decide)) (by rfl) D__law_scoop.g D__law_scoop.F.kp D__law_scoop.b .nil pass0 (pa_cons (pv 1) (pa_cons (pe_op op_add (pe_callB call_len_seq (by rfl) T.n_len (by decide +kernel) (pa_cons (pv 8) pa_nil)) pe_int) pa_nil))) (pa_cons (pe_call G__law_pick (hr.mono (by decide)) (by rfl) D__law_pick.g D__law_pick.F.kp D__law_pick.b .nil pass0 (pa_cons (pv 1) (pa_cons (pe_op op_cat (pe_lst (pa_cons (pe_un un_neg pe_int) (pa_cons pe_int (pa_cons pe_bl (pa_cons pe_non (pa_cons pe_str (pa_cons (pe_tup (pa_cons pe_int pa_nil)) (pa_cons (pe_lst (pa_cons pe_int pa_nil)) pa_nil)))))))) (pv 8)) pa_nil))) pa_nil)) (by rfl))
  (pss_cons (ps_set (i := 12) sc_law.nd rfl (Or.inr rfl) (pe_call G__law_pick (hr.mono (by decide)) (by rfl) D__law_pick.g D__law_pick.F.kp D__law_pick.b .nil pass0 (pa_cons (pv 1) (pa_cons (pe_lst (pa_cons (pe_op op_cat (pe_op op_cat (pe_slice sl_list (pv 8) po_none (po_some (pv 10))) (pe_lst (pa_cons (pv 11) pa_nil))) (pe_slice sl_list (pv 8) (po_some (pv 10)) po_none)) (pa_cons pe_non (pa_cons pe_int (pa_cons pe_str (pa_cons (pe_disp (pps_cons pe_int pe_int pps_nil) (by rfl) (by rfl) (fun z => by cases z) (by decide)) (pa_cons (pe_op op_cat (pv 8) (pe_lst (pa_cons (pv 11) pa_nil))) pa_nil))))))) pa_nil))))
  (pss_one (ps_if (PW.pt (pw_or (pt_cmpR op_isnot_bl (pe_call G_is_lot (hr.mono (by decide)) (by rfl) D_is_lot.g D_is_lot.F.kp D_is_lot.b .nil pass0 (pa_cons (pv 12) pa_nil)) pe_bl (nomark _)) (pw_or (pt_cmpR op_ne (pe_lam (T := [(Pt, LQ)]) (vs := []) (TT := TTheard CB) (k := 8) (nm := []) (dts := []) (t := fun E => tCallS (spLotOf K CB) (WE fun cls d _ H => E cls d H) (tCons (tVar 12) tNil)) (by rfl) D__law_heard.g D__law_heard.F.kp lkH hcH D__law_heard.b sc__law_heard rfl (Or.inl rfl) (heard_gives Z T) TB rfl List.mem_cons_self (fun p hp _ => congrArg Prod.snd (List.mem_singleton.mp hp)) (hr.mono (by decide)) (lamN_by (sc := defScope s_law) (N := N_law) (by decide +kernel)) (.inl ⟨rfl, rfl⟩) (bind0 fun _ _ _ _ _ _ _ => rfl) mono_l1 pa_nil (fun _ _ _ => rfl) rfl (fun A outer s H E f c' hr2 => pe_callS GX_lot_of (hr2.mono (by decide)) (by rfl) D_lot_of.g D_lot_of.F.kp D_lot_of.b (fun σ => passAt (takes_of rfl rfl rfl rfl) σ) (pa_cons (pv 12) pa_nil))) pe_str (nomark _)) (pw_or1 (pt_cmpR op_notN (pe_lam (T := [(Pt, LQ)]) (vs := []) (TT := TTheard CB) (k := 8) (nm := ["one"]) (dts := [0]) (t := fun E => tCallS (spLotOf K CB) (WE fun cls d _ H => E cls d H) (tCons (tCB (rTupOf K) (tCons (tVar 8) tNil)) tNil)) (by rfl) D__law_heard.g D__law_heard.F.kp lkH hcH D__law_heard.b sc__law_heard rfl (Or.inl rfl) (heard_gives Z T) TB rfl List.mem_cons_self (fun p hp _ => congrArg Prod.snd (List.mem_singleton.mp hp)) (hr.mono (by decide)) (lamN_by (sc := defScope s_law) (N := N_law) (by decide +kernel)) (.inr ⟨0, _, _, rfl, rfl⟩) (bind1 fun _ _ _ _ _ _ _ _ _ => ⟨_, rfl, rfl⟩) mono_l2 pa_nil (fun _ _ _ => rfl) rfl (fun A outer s H E f c' hr2 => pe_callS GX_lot_of (hr2.mono (by decide)) (by rfl) D_lot_of.g D_lot_of.F.kp D_lot_of.b (fun σ => passAt (takes_of rfl rfl rfl rfl) σ) (pa_cons (pe_callTy call_tuple_of (by rfl) T.n_tuple (by decide +kernel) (pa_cons (pv 8) pa_nil)) pa_nil))) pe_non (nomark _)))))) (pss_one (ps_ret pe_bl)) pss_nil)))))))))))))
  (pss_one (ps_ret (pe_and (pe_cmpR op_is_bl (pe_call G_is_lot (hr.mono (by decide)) (by rfl) D_is_lot.g D_is_lot.F.kp D_is_lot.b .nil pass0 (pa_cons (pe_lst pa_nil) pa_nil)) pe_bl (nomark _)) (pe_and (pe_cmpR (op_eqD hr.units) (pe_call G_lot_of (hr.mono (by decide)) (by rfl) D_lot_of.g D_lot_of.F.kp D_lot_of.b .nil pass0 (pa_cons (pe_tup pa_nil) pa_nil)) (pe_tup pa_nil) (nomark _)) (pe_one (pe_cmpR op_is_bl (pe_call G_is_lot (hr.mono (by decide)) (by rfl) D_is_lot.g D_is_lot.F.kp D_is_lot.b .nil pass0 (pa_cons (pe_lst (pa_cons pe_int (pa_cons pe_bl pa_nil))) pa_nil)) pe_bl (nomark _))))))))), ?_⟩
      refine ⟨_, rfl, a, ns, rfl, hS, hl, fun p b H1 hp hb O S1 => ?_⟩
      have T1 : Tabs [(Pt, LQ)] H1 := fun q hq => by
        rw [List.mem_singleton.mp hq]
        exact .nil (S1 _ _ hP)
      refine ⟨6, rfl, by decide, by decide, ?_⟩
      refine for_range (n := 6) (fun i σ H' => Orch H' p b (80 * i) ∧ Tabs [(Pt, LQ)] H' ∧ ∃ u2 u3 u4 u5 u6 u7 u8 u9 u10 u11 u12 : Option V, σ = [some (.ref a), some (.ref p), u2, u3, u4, u5, u6, u7, u8, u9, u10, u11, u12]) ⟨O, T1, none, none, none, none, none, none, none, none, none, none, none, rfl⟩ ?_ ?_
      · rintro i σ H2 hi ⟨O2, T2, u2, u3, u4, u5, u6, u7, u8, u9, u10, u11, u12, rfl⟩
        refine ⟨_, rfl, p, b, _, rfl, O2, by omega, fun q x cc AF H3 hq0 hq F3 hI O3 B3 => ?_⟩
        refine ⟨q, _, rfl, SqT.of hq, rfl, _, _, rfl, _, _, rfl, rfl, ?_⟩
        have T3 := tabs_orchN T2 B3 O2
        have hx : cc = true → ∃ i, x = .int i := fun e => by
          subst e
          exact isI_true (hI _ F3)
        -- least, most
        refine ⟨_, rfl, _, rfl, _, rfl, p, b, _, 30, rfl, O3, by omega, by decide, by decide, fun r4 H4 r40 r41 O4 B4 => ⟨(by show 4 ≤ sizeLine; decide), fun l4 hl4 => ?_⟩⟩
        obtain ⟨w4, hw4⟩ := O4.pn
        have n4 : l4 ≠ p := (ne_of_none hw4 hl4).symm
        have S4 := same_new (o := .lst [.non, .int 0, .int (-1), .int r4]) hl4
        refine ⟨p, b, l4, _, _, rfl, O4.same S4, by omega, upd_same, n4, by show 0 < 4; decide, by show 4 ≤ 1000; decide, fun j4 x4 H5 hj4 O5 B5 => ?_⟩
        obtain ⟨lo, rfl⟩ : ∃ lo : Option Int, x4 = oV lo := by
          match j4, hj4 with
          | 0, e => cases e; exact ⟨none, rfl⟩
          | 1, e => cases e; exact ⟨some _, rfl⟩
          | 2, e => cases e; exact ⟨some _, rfl⟩
          | 3, e => cases e; exact ⟨some _, rfl⟩
          | j + 4, e => cases e
        have T5 := tabs_orchN ((tabs_orchN T3 B4 O3).ext S4) B5 (O4.same S4)
        have K5 : Kp p H3 H5 := (Kp.but B4).trans ((Kp.same S4).trans (Kp.but B5))
        have F5 := (F3.keep (.but B4 (orch_ref O3))).keep (.same S4) |>.keep (.but B5 (orch_ref (O4.same S4)))
        refine ⟨_, rfl, _, rfl, p, b, _, 30, rfl, O5, by omega, by decide, by decide, fun r6 H6 r60 r61 O6 B6 => ⟨(by show 4 ≤ sizeLine; decide), fun l6 hl6 => ?_⟩⟩
        obtain ⟨w6, hw6⟩ := O6.pn
        have n6 : l6 ≠ p := (ne_of_none hw6 hl6).symm
        have S6 := same_new (o := .lst [.non, .int 1, .int 20000, .int r6]) hl6
        refine ⟨p, b, l6, _, _, rfl, O6.same S6, by omega, upd_same, n6, by show 0 < 4; decide, by show 4 ≤ 1000; decide, fun j6 x6 H7 hj6 O7 B7 => ?_⟩
        obtain ⟨hi', rfl⟩ : ∃ lo : Option Int, x6 = oV lo := by
          match j6, hj6 with
          | 0, e => cases e; exact ⟨none, rfl⟩
          | 1, e => cases e; exact ⟨some _, rfl⟩
          | 2, e => cases e; exact ⟨some _, rfl⟩
          | 3, e => cases e; exact ⟨some _, rfl⟩
          | j + 4, e => cases e
        have T7 := tabs_orchN ((tabs_orchN T5 B6 O5).ext S6) B7 (O6.same S6)
        have F7 := (F5.keep (.but B6 (orch_ref O5))).keep (.same S6) |>.keep (.but B7 (orch_ref (O6.same S6)))
        refine ⟨_, _, rfl, ?_⟩
        -- is_integer
        have I7 := hI _ F7
        refine ⟨_, rfl, x, cc, rfl, I7, _, rfl, x, cc, rfl, I7, (by show 2 ≤ sizeLine; decide), fun l8 hl8 => ?_⟩
        have S8 := same_new (o := .lst [.bl cc, .bl cc]) hl8
        obtain ⟨w1, w2, w3, w4'⟩ := two_ok cc cc
        refine ⟨l8, .list [.bool cc, .bool cc], rfl, dp_two upd_same, w1, w2, w3, w4', ?_⟩
        refine ⟨_, rfl, _, rfl, (by show 2 ≤ sizeLine; decide), fun l9 hl9 => ?_⟩
        have S9 := same_new (o := .lst [.bl cc, .bl cc]) hl9
        refine ⟨l9, .list [.bool cc, .bool cc], rfl, dp_two upd_same, w1, w2, w3, w4', ?_⟩
        refine ⟨rfl, _, rfl, ?_⟩
        rw [same_text]
        refine iteF ?_
        have S79 := S8.trans S9
        have T9 := T7.ext S79
        have F9 := F7.keep (.same S79)
        have O9 := O7.same S79
        -- due
        refine ⟨_, rfl, _, rfl, _, rfl, _, rfl, x, cc, lo, hi', rfl, hx, ?_⟩
        have I9 := hI _ F9
        refine ⟨_, rfl, _, rfl, _, rfl, x, lo, hi', cc, rfl, I9, _, rfl, _, rfl, _, rfl, x, lo, hi', cc, rfl, I9, (by show 2 ≤ sizeLine; decide), fun l10 hl10 => ?_⟩
        generalize (cc && inB lo hi' x) = due
        have S10 := same_new (o := .lst [.bl due, .bl due]) hl10
        obtain ⟨v1, v2, v3, v4⟩ := two_ok due due
        refine ⟨l10, .list [.bool due, .bool due], rfl, dp_two upd_same, v1, v2, v3, v4, ?_⟩
        refine ⟨_, rfl, _, rfl, (by show 2 ≤ sizeLine; decide), fun l11 hl11 => ?_⟩
        have S11 := same_new (o := .lst [.bl due, .bl due]) hl11
        refine ⟨l11, .list [.bool due, .bool due], rfl, dp_two upd_same, v1, v2, v3, v4, ?_⟩
        refine ⟨rfl, _, rfl, ?_⟩
        rw [same_text]
        refine iteF ?_
        have T11 := T9.ext (S10.trans S11)
        have O11 := O9.same (S10.trans S11)
        -- lot, kept
        refine ⟨_, rfl, p, b, _, rfl, O11, by omega, fun lt ns' H12 hlt0 nd hin hlen hlt O12 B12 => ?_⟩
        have T12 := tabs_orchN T11 B12 O11
        have nlt : lt ≠ p := by
          obtain ⟨w, hw⟩ := O11.pn
          exact (ne_of_none hw hlt0).symm
        refine ⟨_, rfl, lt, _, rfl, .inl (SqL.of hlt), fun kt hkt => ?_⟩
        have S13 := same_new (o := .lst (ns'.map V.int)) hkt
        have hlt13 := S13 _ _ hlt
        have O13 := O12.same S13
        have T13 := T12.ext S13
        -- is_lot(lot), is_lot(value=tuple(lot))
        refine ⟨_, rfl, _, rfl, .inr ⟨ns', is_lot_l hlt13 hlen hin nd, fun H14 S14 => ?_⟩⟩
        have hlt14 := S14 _ _ hlt13
        refine ⟨_, rfl, lt, _, rfl, .inl ⟨SqL.of hlt14, fun t1 ht1 => ?_⟩⟩
        have S15 := same_new (o := .tup (ns'.map V.int)) ht1
        refine ⟨_, rfl, .inr ⟨ns', is_lot_t upd_same hlen hin nd, fun H16 S16 => ⟨(by show 2 ≤ sizeLine; decide), fun l16 hl16 => ?_⟩⟩⟩
        have S17 := same_new (o := .lst [.bl true, .bl true]) hl16
        obtain ⟨y1, y2, y3, y4⟩ := two_ok true true
        refine ⟨l16, .list [.bool true, .bool true], rfl, dp_two upd_same, y1, y2, y3, y4, ?_⟩
        refine ⟨rfl, _, rfl, ?_⟩
        rw [show (!decide (V.str (PyData.shown (.list [.bool true, .bool true])) = V.str (Str.ofString "[True, True]"))) = false from by decide +kernel]
        refine iteF ?_
        have S18 := ((S14.trans S15).trans S16).trans S17
        have hlt18 := S18 _ _ hlt13
        have hkt18 := S18 _ _ (upd_same (H := H12) (a := kt) (o := .lst (ns'.map V.int)))
        have O18 := O13.same S18
        have T18 := T13.ext S18
        -- lot_of(bits=lot), tuple(sorted(kept))
        refine ⟨_, rfl, _, rfl, .inr ⟨ns', is_lot_l hlt18 hlen hin nd, fun nsA qa H19 permA upA S19 hqa => ?_⟩⟩
        have linA : ∀ z ∈ nsA, 0 ≤ z ∧ z ≤ 20000 := fun z hz => hin z (permA.mem_iff.mp hz)
        have lenA : nsA.length ≤ 6 := by rw [permA.length_eq]; exact hlen
        refine ⟨qa, nsA, rfl, fun z hz => log_bit (linA z hz), by omega, .inr ⟨SqT.of hqa, ?_⟩⟩
        have hkt19 := S19 _ _ hkt18
        refine ⟨_, rfl, kt, ns', rfl, .inl (SqL.of hkt19), fun nsB pb permB upB hpb => ?_⟩
        refine ⟨pb, _, rfl, .inl ⟨SqL.of upd_same, fun tb htb => ?_⟩⟩
        have eAB : nsB = nsA := PySem.W.ksm_same (permB.trans permA.symm) upB upA
        subst eAB
        refine ⟨tb, nsB, rfl, fun z hz => log_bit (linA z hz), by omega, .inr ⟨SqT.of upd_same, ?_⟩⟩
        refine ⟨rfl, _, rfl, ?_⟩
        rw [same_text]
        refine iteF ?_
        have S20 := S19.trans ((same_new (o := .lst (nsB.map V.int)) hpb).trans (same_new (o := .tup (nsB.map V.int)) htb))
        have hlt20 := S20 _ _ hlt18
        have hkt20 := S20 _ _ hkt18
        have O20 := O18.same S20
        have T20 := T18.ext S20
        -- lot != kept
        refine ⟨_, rfl, _, rfl, .list (ns'.map PyData.int), .list (ns'.map PyData.int), Dp.lst (SqL.of hlt20) (dp_ints ns'), Dp.lst (SqL.of hkt20) (dp_ints ns'), shaped_ints ns', shaped_ints ns', ?_⟩
        rw [list_ne]
        refine ⟨_, rfl, ?_⟩
        refine iteF ?_
        generalize (upd (upd H19 pb (.lst (nsB.map V.int))) tb (.tup (nsB.map V.int))) = H20 at O20 T20 hlt20 hkt20 S20 ⊢
        clear S18 S17 S16 S15 S14 S13 S79 hkt18 hlt18 hlt14 hlt13 hkt19 permA permB upA upB hqa linA lenA T18 O18 T13 O13
        -- at, odd
        refine ⟨_, rfl, _, rfl, lt, _, rfl, .inl (SqL.of hlt20), _, _, rfl, rfl, p, b, _, _, rfl, O20, by omega, ?_, ?_, fun r21 H21 r0 r1 O21 B21 => ?_⟩
        · rw [List.length_map]
          omega
        · rw [List.length_map]
          exact Nat.lt_of_le_of_lt (show ((ns'.length : Int) + 1).natAbs ≤ 7 by omega) (by decide)
        rw [List.length_map] at r1
        obtain ⟨at', rfl⟩ := Int.eq_ofNat_of_zero_le r0
        have hat : at' ≤ ns'.length := by omega
        have T21 := tabs_orchN T20 B21 O20
        have hlt21 := B21 _ _ hlt20 nlt
        refine ⟨_, rfl, _, rfl, (by show 1 ≤ sizeLine; decide), fun a1 ha1 => ⟨(by show 1 ≤ sizeLine; decide), fun a2 ha2 => ⟨(by show 7 ≤ sizeLine; decide), fun l22 hl22 => ?_⟩⟩⟩
        have Q1 : Same H21 (upd H21 a1 (.tup [.int 1])) := same_new ha1
        have Q2 := Q1.trans (same_new (o := .lst [.int 0]) ha2)
        have Q3 := same_new (o := .lst [.int (-1), .int 20001, .bl true, .non, .str "0", .ref a1, .ref a2]) hl22
        obtain ⟨w21, hw21⟩ := O21.pn
        have na1 : a1 ≠ p := (ne_of_none hw21 ha1).symm
        have na2 : a2 ≠ p := (ne_of_none (Q1 _ _ hw21) ha2).symm
        have ha1' := Q3 _ _ (same_new ha2 _ _ (upd_same (H := H21) (a := a1) (o := .tup [.int 1])))
        have ha2' := Q3 _ _ (upd_same (H := upd H21 a1 (.tup [.int 1])) (a := a2) (o := .lst [.int 0]))
        have Q23 := Q2.trans Q3
        refine ⟨_, rfl, l22, lt, _, _, rfl, rfl, upd_same, Q23 _ _ hlt21, ?_, fun l23 hl23 => ?_⟩
        · rw [List.length_map]
          show 7 + ns'.length ≤ sizeLine
          rw [sizeLine_eq]
          omega
        have Q4 := same_new (o := .lst ([.int (-1), .int 20001, .bl true, .non, .str "0", .ref a1, .ref a2] ++ ns'.map V.int)) hl23
        have Q24 := Q23.trans Q4
        have n23 : l23 ≠ p := (ne_of_none (Q23 _ _ hw21) hl23).symm
        have O24 := O21.same Q24
        refine ⟨p, b, l23, _, _, rfl, O24, by omega, upd_same, n23, ?_, ?_, fun jo o H25 hjo O25 B25 => ?_⟩
        · simp
        · simp only [List.length_append, List.length_map, List.length_cons, List.length_nil]
          omega
        have T25 := tabs_orchN (T21.ext Q24) B25 O24
        have hlt25 := B25 _ _ (Q24 _ _ hlt21) nlt
        have ha1'' := B25 _ _ (Q4 _ _ ha1') na1
        have ha2'' := B25 _ _ (Q4 _ _ ha2') na2
        have odd : ∃ c, (∀ H', Kp p H25 H' → IsI K H' o c) ∧ ((c && inB (some 0) (some 20000) o) = true → ∃ z, o = .int z ∧ z ∈ ns') := by
          match jo, hjo with
          | 0, e => cases e; exact ⟨true, fun _ _ => isI_int _, fun z => absurd z (by decide +kernel)⟩
          | 1, e => cases e; exact ⟨true, fun _ _ => isI_int _, fun z => absurd z (by decide +kernel)⟩
          | 2, e => cases e; exact ⟨false, fun _ _ => isI_bl _, fun z => nomatch z⟩
          | 3, e => cases e; exact ⟨false, fun _ _ => isI_non, fun z => nomatch z⟩
          | 4, e => cases e; exact ⟨false, fun _ _ => isI_str _, fun z => nomatch z⟩
          | 5, e => cases e; exact ⟨false, fun H' kp => isI_tup (kp _ _ ha1'' na1 fun _ z => nomatch z), fun z => nomatch z⟩
          | 6, e => cases e; exact ⟨false, fun H' kp => isI_lst (kp _ _ ha2'' na2 fun _ z => nomatch z), fun z => nomatch z⟩
          | j + 7, e =>
            have e : (ns'.map V.int)[j]? = some o := e
            rw [List.getElem?_map] at e
            cases e2 : ns'[j]? with
            | none => rw [e2] at e; cases e
            | some z =>
              rw [e2] at e
              cases e
              exact ⟨true, fun _ _ => isI_int _, fun _ => ⟨z, rfl, List.mem_of_getElem? e2⟩⟩
        clear hjo
        refine ⟨_, _, rfl, ?_⟩
        -- bent
        refine ⟨_, rfl, _, rfl, _, rfl, _, rfl, lt, _, rfl, SqL.of hlt25, fun s1 hs1 => ⟨_, rfl, (by show 1 ≤ sizeLine; decide), fun s2 hs2 => ?_⟩⟩
        rw [cut_to hat] at hs2 ⊢
        have R1 : Same H25 (upd H25 s1 (.lst ((ns'.take at').map V.int))) := same_new hs1
        have R2 := R1.trans (same_new (o := .lst [o]) hs2)
        refine ⟨s1, s2, _, _, rfl, rfl, same_new hs2 _ _ upd_same, upd_same, ?_, fun s3 hs3 => ?_⟩
        · rw [List.length_map, List.length_take, List.length_singleton, sizeLine_eq]
          omega
        have R3 := R2.trans (same_new (o := .lst ((ns'.take at').map V.int ++ [o])) hs3)
        refine ⟨_, rfl, _, rfl, _, rfl, lt, _, rfl, SqL.of (R3 _ _ hlt25), fun s4 hs4 => ?_⟩
        rw [cut_from hat]
        have R4 := R3.trans (same_new (o := .lst ((ns'.drop at').map V.int)) hs4)
        refine ⟨s3, s4, _, _, rfl, rfl, same_new hs4 _ _ upd_same, upd_same, ?_, fun s5 hs5 => ?_⟩
        · simp only [List.length_append, List.length_map, List.length_take, List.length_drop, List.length_singleton]
          rw [sizeLine_eq]
          omega
        have R5 := R4.trans (same_new (o := .lst ((ns'.take at').map V.int ++ [o] ++ (ns'.drop at').map V.int)) hs5)
        refine fun d hd => ⟨upd_same, [(.inl 0, .int 1)], rfl, by decide, ?_⟩
        refine ⟨_, rfl, _, rfl, (by show 1 ≤ sizeLine; decide), fun s6 hs6 => ?_⟩
        have r6 := same_new2 (o1 := .dK []) (o2 := .dK (mergeK [] [(.inl 0, .int 1)])) hd
        have r7 := same_new (o := .lst [o]) hs6
        have R7 := R5.trans (r6.trans r7)
        refine ⟨lt, s6, _, _, rfl, rfl, R7 _ _ hlt25, upd_same, ?_, fun s7 hs7 => ⟨(by show 6 ≤ sizeLine; decide), fun l30 hl30 => ?_⟩⟩
        · simp only [List.length_map, List.length_singleton]
          rw [sizeLine_eq]
          omega
        have r8 := same_new (o := .lst (ns'.map V.int ++ [o])) hs7
        have r9 := same_new (o := .lst [.ref s5, .non, .int 5, .str "012", .ref d, .ref s7]) hl30
        have R9 := R7.trans (r8.trans r9)
        have O30 := O25.same R9
        obtain ⟨w25, hw25⟩ := O25.pn
        have n5 : s5 ≠ p := (ne_of_none (R4 _ _ hw25) hs5).symm
        have nd' : d ≠ p := (ne_of_none (R5 _ _ hw25) hd).symm
        have n7 : s7 ≠ p := (ne_of_none (R7 _ _ hw25) hs7).symm
        have n30 : l30 ≠ p := (ne_of_none (R7.trans r8 _ _ hw25) hl30).symm
        refine ⟨p, b, l30, _, _, rfl, O30, by omega, upd_same, n30, by show 0 < 6; decide, by show 6 ≤ 1000; decide, fun jb v H31 hjb O31 B31 => ?_⟩
        have K31 : Kp p H25 H31 := (Kp.same R9).trans (Kp.but B31)
        have T31 := tabs_orchN (T25.ext R9) B31 O30
        have hlt31 := B31 _ _ (R9 _ _ hlt25) nlt
        have h5 := B31 _ _ ((r6.trans (r7.trans (r8.trans r9))) _ _ upd_same) n5
        have hd31 := B31 _ _ ((r7.trans (r8.trans r9)) _ _ upd_same) nd'
        have h7 := B31 _ _ (r9 _ _ upd_same) n7
        have bentNo : ∀ H', Kp p H31 H' → NoLot K H' v (some 0) (some 20000) := by
          obtain ⟨oc, o1, o2⟩ := odd
          match jb, hjb with
          | 0, e =>
            cases e
            refine no_bent n5 h5 ?_ (by rw [List.take_append_drop]; exact hin) ⟨oc, fun H' kp => o1 H' (K31.trans kp), by rw [List.take_append_drop]; exact o2⟩
            rw [List.length_take, List.length_drop]
            omega
          | 1, e => cases e; exact fun H' _ => .inl fun H2 _ => isL_non
          | 2, e => cases e; exact fun H' _ => .inl fun H2 _ => isL_int _
          | 3, e => cases e; exact fun H' _ => .inl fun H2 _ => isL_str _
          | 4, e => cases e; exact fun H' kp => .inl fun H2 S => isL_dK (S _ _ (kp _ _ hd31 nd' fun _ z => nomatch z))
          | 5, e =>
            cases e
            refine no_bent (ns1 := ns') (ns2 := []) n7 (by rw [List.map_nil, List.append_nil]; exact h7) (by rw [List.length_nil]; omega) (by rw [List.append_nil]; exact hin) ⟨oc, fun H' kp => o1 H' (K31.trans kp), by rw [List.append_nil]; exact o2⟩
          | j + 6, e => cases e
        clear hjb odd R9 R7 R5 R4 R3 R2 R1 r9 r8 r7 r6 h5 hd31 h7
        refine ⟨_, rfl, v, rfl, .inl ⟨bentNo _ .refl, fun H32 S32 => ⟨false, false, rfl, rfl, _, rfl, ?_⟩⟩⟩
        refine iteF ?_
        have T32 := T31.ext S32
        have O32 := O31.same S32
        refine ⟨T32, fun Ha ea Ta => ⟨rfl, _, rfl, v, rfl, .inl ⟨bentNo _ ((Kp.same S32).trans (.ext ea)), fun H33 S33 => fun dd hdd => ⟨dd, "bits", rfl, upd_same, rfl, fun H34 S34 => ⟨rfl, _, rfl, ?_⟩⟩⟩⟩⟩
        rw [show (!decide (V.str "bits" = V.str (Str.ofString "bits"))) = false from by decide +kernel]
        refine iteF ?_
        have S3a := S33.trans ((same_new (o := .xd [(("part" : Str), .str "bits")]) hdd).trans S34)
        have T34 := Ta.ext S3a
        have O34 := (orch_extN O32 ea).same S3a
        have hlt34 := S3a _ _ (ea _ _ (S32 _ _ hlt31) fun _ z => nomatch z)
        refine ⟨T34, fun Hb eb Tb => ⟨rfl, _, rfl, lt, _, rfl, .inl ⟨SqL.of (eb _ _ hlt34 fun _ z => nomatch z), fun t2 ht2 => ⟨_, rfl, .inr ⟨ns', is_lot_t upd_same hlen hin nd, fun nsC qc H35 pC uC S35 hqc => ⟨rfl, _, rfl, ?_⟩⟩⟩⟩⟩⟩
        refine iteF ?_
        have S3b := (same_new (o := .tup (ns'.map V.int)) ht2).trans S35
        exact ⟨((orch_extN O34 eb).same S3b).mono (by omega), Tb.ext S3b, _, _, _, _, _, _, _, _, _, _, _, rfl⟩
      · rintro σ H2 ⟨O2, T2, u2, u3, u4, u5, u6, u7, u8, u9, u10, u11, u12, rfl⟩
        refine ⟨Nat.zero_le _, fun e1 he1 => ⟨_, rfl, .inr ⟨[], is_lot_l (ns := []) upd_same (by decide) (fun _ z => absurd z List.not_mem_nil) List.nodup_nil, fun H3 S3 => ⟨true, true, rfl, rfl, _, rfl, ?_⟩⟩⟩⟩
        refine iteT ?_
        refine ⟨Nat.zero_le _, fun e2 he2 => ⟨_, rfl, .inr ⟨[], is_lot_t (ns := []) upd_same (by decide) (fun _ z => absurd z List.not_mem_nil) List.nodup_nil, fun nsC qc H5 pC uC S5 hqc => ⟨Nat.zero_le _, fun e3 he3 => ?_⟩⟩⟩⟩
        have eC : nsC = [] := pC.eq_nil
        subst eC
        have hqc' := same_new (o := .tup []) he3 _ _ hqc
        refine ⟨.tuple [], .tuple [], Dp.tup (SqT.of hqc') .nil, Dp.tup (SqT.of upd_same) .nil, by decide, by decide, _, rfl, ?_⟩
        refine iteT ?_
        refine ⟨(by show 2 ≤ sizeLine; decide), fun e4 he4 => ⟨_, rfl, .inl ⟨.inr ⟨e4, _, [true, false], rfl, .inl (SqL.of upd_same), by show 2 ≤ 900; decide, fun H' S => isL_lst (S _ _ upd_same), rfl, fun i v b hv hb => ?_, fun z => by simp at z⟩, fun H6 S6 => ⟨false, false, rfl, rfl, k _⟩⟩⟩⟩
        match i, hv, hb with
        | 0, e, e2 => cases e; cases e2; exact ⟨true, fun _ _ => isI_int _, by decide +kernel⟩
        | 1, e, e2 => cases e; cases e2; exact ⟨false, fun _ _ => isI_bl _, rfl⟩
        | j + 2, e, e2 => cases e
    obtain ⟨t, h1, h2⟩ := t0
    exact ⟨t, h1.nox, h2⟩
end
end K02
namespace K02
open PySem PySem.Spec PyProof.Rows L2 OB SkE LamX
theorem sc_initB : FnScope ["self", "part"] ["self", "part"] (defScope s_initB) := ⟨rfl, rfl, rfl, by decide +kernel, rfl, by decide +kernel, by decide +kernel⟩
theorem all_mk {l : PySem.W.OpenLaw} {w : World} {K : PySem.W.Frag} {h : Heap} {mg : Str → Option Value} {fa f_is_integer f_is_within f_is_list f_are_unlike f_is_lot f_lot_of f_need_lot f__law_tub f__law_scoop f__law_pick f__law_stirred f__law_any f__law_within f__law_lot f__law_heard f_law CF C_BadBits fi_BadBits N_BadBits c Pt : Addr} {cd_is_integer oc_is_integer kV_is_integer dc_is_integer pm_is_integer ct_is_integer cd_is_within oc_is_within kV_is_within dc_is_within pm_is_within ct_is_within cd_is_list oc_is_list kV_is_list dc_is_list pm_is_list ct_is_list cd_are_unlike oc_are_unlike kV_are_unlike dc_are_unlike pm_are_unlike ct_are_unlike cd_is_lot oc_is_lot kV_is_lot dc_is_lot pm_is_lot ct_is_lot cd_lot_of oc_lot_of kV_lot_of dc_lot_of pm_lot_of ct_lot_of cd_need_lot oc_need_lot kV_need_lot dc_need_lot pm_need_lot ct_need_lot cd__law_tub oc__law_tub kV__law_tub dc__law_tub pm__law_tub ct__law_tub cd__law_scoop oc__law_scoop kV__law_scoop dc__law_scoop pm__law_scoop ct__law_scoop cd__law_pick oc__law_pick kV__law_pick dc__law_pick pm__law_pick ct__law_pick cd__law_stirred oc__law_stirred kV__law_stirred dc__law_stirred pm__law_stirred ct__law_stirred cd__law_any oc__law_any kV__law_any dc__law_any pm__law_any ct__law_any cd__law_within oc__law_within kV__law_within dc__law_within pm__law_within ct__law_within cd__law_lot oc__law_lot kV__law_lot dc__law_lot pm__law_lot ct__law_lot cd__law_heard oc__law_heard kV__law_heard dc__law_heard pm__law_heard ct__law_heard oc_law kV_law dc_law pm_law ct_law oi_BadBits kVi_BadBits dci_BadBits pmi_BadBits cti_BadBits cdi_BadBits : Value} {od_is_integer an_is_integer od_is_within an_is_within od_is_list an_is_list od_are_unlike an_are_unlike od_is_lot an_is_lot od_lot_of an_lot_of od_need_lot an_need_lot od__law_tub an__law_tub od__law_scoop an__law_scoop od__law_pick an__law_pick od__law_stirred an__law_stirred od__law_any an__law_any od__law_within an__law_within od__law_lot an__law_lot od__law_heard an__law_heard od_law an_law odi_BadBits ani_BadBits dd_BadBits odC : Option Addr} {sl_is_integer sl_is_within sl_is_list sl_are_unlike sl_is_lot sl_lot_of sl_need_lot sl__law_tub sl__law_scoop sl__law_pick sl__law_stirred sl__law_any sl__law_within sl__law_lot sl__law_heard sl_law sli_BadBits slC : Array (Option Value)} {vsC : Array Value} {t_MOST_BIT : Tok} {nm_BadBits q_BadBits : Str} {bs_BadBits sub_BadBits : List Value} {sn_BadBits : List Str} {ab_BadBits : Bool} {col_BadBits : Option Bool} {m0_BadBits m1_BadBits m2_BadBits m3_BadBits m5_BadBits : Option Value}
    (X : K.In h) (G : h.Ns mainGlobals mg) (hfa : mg "law" = some (.ref fa))
    (a_is_integer : PySem.W.nsIn K mainGlobals "is_integer" = some (some (.ref f_is_integer)))
    (l_is_integer : K.lookup f_is_integer = some ⟨oc_is_integer, od_is_integer, .func (PySem.W.fnOf "is_integer" "is_integer" (defArgs s_is_integer) (defBody s_is_integer) (defScope s_is_integer) .none kV_is_integer dc_is_integer pm_is_integer an_is_integer cd_is_integer ct_is_integer), sl_is_integer⟩)
    (c_is_integer : PySem.W.codeIn K cd_is_integer "is_integer" = true)
    (k_is_integer : PySem.W.keepIn K (.ref f_is_integer) = true)
    (a_is_within : PySem.W.nsIn K mainGlobals "is_within" = some (some (.ref f_is_within)))
    (l_is_within : K.lookup f_is_within = some ⟨oc_is_within, od_is_within, .func (PySem.W.fnOf "is_within" "is_within" (defArgs s_is_within) (defBody s_is_within) (defScope s_is_within) .none kV_is_within dc_is_within pm_is_within an_is_within cd_is_within ct_is_within), sl_is_within⟩)
    (c_is_within : PySem.W.codeIn K cd_is_within "is_within" = true)
    (k_is_within : PySem.W.keepIn K (.ref f_is_within) = true)
    (a_is_list : PySem.W.nsIn K mainGlobals "is_list" = some (some (.ref f_is_list)))
    (l_is_list : K.lookup f_is_list = some ⟨oc_is_list, od_is_list, .func (PySem.W.fnOf "is_list" "is_list" (defArgs s_is_list) (defBody s_is_list) (defScope s_is_list) .none kV_is_list dc_is_list pm_is_list an_is_list cd_is_list ct_is_list), sl_is_list⟩)
    (c_is_list : PySem.W.codeIn K cd_is_list "is_list" = true)
    (k_is_list : PySem.W.keepIn K (.ref f_is_list) = true)
    (a_are_unlike : PySem.W.nsIn K mainGlobals "are_unlike" = some (some (.ref f_are_unlike)))
    (l_are_unlike : K.lookup f_are_unlike = some ⟨oc_are_unlike, od_are_unlike, .func (PySem.W.fnOf "are_unlike" "are_unlike" (defArgs s_are_unlike) (defBody s_are_unlike) (defScope s_are_unlike) .none kV_are_unlike dc_are_unlike pm_are_unlike an_are_unlike cd_are_unlike ct_are_unlike), sl_are_unlike⟩)
    (c_are_unlike : PySem.W.codeIn K cd_are_unlike "are_unlike" = true)
    (k_are_unlike : PySem.W.keepIn K (.ref f_are_unlike) = true)
    (a_is_lot : PySem.W.nsIn K mainGlobals "is_lot" = some (some (.ref f_is_lot)))
    (l_is_lot : K.lookup f_is_lot = some ⟨oc_is_lot, od_is_lot, .func (PySem.W.fnOf "is_lot" "is_lot" (defArgs s_is_lot) (defBody s_is_lot) (defScope s_is_lot) .none kV_is_lot dc_is_lot pm_is_lot an_is_lot cd_is_lot ct_is_lot), sl_is_lot⟩)
    (c_is_lot : PySem.W.codeIn K cd_is_lot "is_lot" = true)
    (k_is_lot : PySem.W.keepIn K (.ref f_is_lot) = true)
    (a_lot_of : PySem.W.nsIn K mainGlobals "lot_of" = some (some (.ref f_lot_of)))
    (l_lot_of : K.lookup f_lot_of = some ⟨oc_lot_of, od_lot_of, .func (PySem.W.fnOf "lot_of" "lot_of" (defArgs s_lot_of) (defBody s_lot_of) (defScope s_lot_of) .none kV_lot_of dc_lot_of pm_lot_of an_lot_of cd_lot_of ct_lot_of), sl_lot_of⟩)
    (c_lot_of : PySem.W.codeIn K cd_lot_of "lot_of" = true)
    (k_lot_of : PySem.W.keepIn K (.ref f_lot_of) = true)
    (a_need_lot : PySem.W.nsIn K mainGlobals "need_lot" = some (some (.ref f_need_lot)))
    (l_need_lot : K.lookup f_need_lot = some ⟨oc_need_lot, od_need_lot, .func (PySem.W.fnOf "need_lot" "need_lot" (defArgs s_need_lot) (defBody s_need_lot) (defScope s_need_lot) .none kV_need_lot dc_need_lot pm_need_lot an_need_lot cd_need_lot ct_need_lot), sl_need_lot⟩)
    (c_need_lot : PySem.W.codeIn K cd_need_lot "need_lot" = true)
    (k_need_lot : PySem.W.keepIn K (.ref f_need_lot) = true)
    (a__law_tub : PySem.W.nsIn K mainGlobals "_law_tub" = some (some (.ref f__law_tub)))
    (l__law_tub : K.lookup f__law_tub = some ⟨oc__law_tub, od__law_tub, .func (PySem.W.fnOf "_law_tub" "_law_tub" (defArgs s__law_tub) (defBody s__law_tub) (defScope s__law_tub) .none kV__law_tub dc__law_tub pm__law_tub an__law_tub cd__law_tub ct__law_tub), sl__law_tub⟩)
    (c__law_tub : PySem.W.codeIn K cd__law_tub "_law_tub" = true)
    (k__law_tub : PySem.W.keepIn K (.ref f__law_tub) = true)
    (a__law_scoop : PySem.W.nsIn K mainGlobals "_law_scoop" = some (some (.ref f__law_scoop)))
    (l__law_scoop : K.lookup f__law_scoop = some ⟨oc__law_scoop, od__law_scoop, .func (PySem.W.fnOf "_law_scoop" "_law_scoop" (defArgs s__law_scoop) (defBody s__law_scoop) (defScope s__law_scoop) .none kV__law_scoop dc__law_scoop pm__law_scoop an__law_scoop cd__law_scoop ct__law_scoop), sl__law_scoop⟩)
    (c__law_scoop : PySem.W.codeIn K cd__law_scoop "_law_scoop" = true)
    (k__law_scoop : PySem.W.keepIn K (.ref f__law_scoop) = true)
    (a__law_pick : PySem.W.nsIn K mainGlobals "_law_pick" = some (some (.ref f__law_pick)))
    (l__law_pick : K.lookup f__law_pick = some ⟨oc__law_pick, od__law_pick, .func (PySem.W.fnOf "_law_pick" "_law_pick" (defArgs s__law_pick) (defBody s__law_pick) (defScope s__law_pick) .none kV__law_pick dc__law_pick pm__law_pick an__law_pick cd__law_pick ct__law_pick), sl__law_pick⟩)
    (c__law_pick : PySem.W.codeIn K cd__law_pick "_law_pick" = true)
    (k__law_pick : PySem.W.keepIn K (.ref f__law_pick) = true)
    (a__law_stirred : PySem.W.nsIn K mainGlobals "_law_stirred" = some (some (.ref f__law_stirred)))
    (l__law_stirred : K.lookup f__law_stirred = some ⟨oc__law_stirred, od__law_stirred, .func (PySem.W.fnOf "_law_stirred" "_law_stirred" (defArgs s__law_stirred) (defBody s__law_stirred) (defScope s__law_stirred) .none kV__law_stirred dc__law_stirred pm__law_stirred an__law_stirred cd__law_stirred ct__law_stirred), sl__law_stirred⟩)
    (c__law_stirred : PySem.W.codeIn K cd__law_stirred "_law_stirred" = true)
    (k__law_stirred : PySem.W.keepIn K (.ref f__law_stirred) = true)
    (a__law_any : PySem.W.nsIn K mainGlobals "_law_any" = some (some (.ref f__law_any)))
    (l__law_any : K.lookup f__law_any = some ⟨oc__law_any, od__law_any, .func (PySem.W.fnOf "_law_any" "_law_any" (defArgs s__law_any) (defBody s__law_any) (defScope s__law_any) .none kV__law_any dc__law_any pm__law_any an__law_any cd__law_any ct__law_any), sl__law_any⟩)
    (c__law_any : PySem.W.codeIn K cd__law_any "_law_any" = true)
    (k__law_any : PySem.W.keepIn K (.ref f__law_any) = true)
    (a__law_within : PySem.W.nsIn K mainGlobals "_law_within" = some (some (.ref f__law_within)))
    (l__law_within : K.lookup f__law_within = some ⟨oc__law_within, od__law_within, .func (PySem.W.fnOf "_law_within" "_law_within" (defArgs s__law_within) (defBody s__law_within) (defScope s__law_within) .none kV__law_within dc__law_within pm__law_within an__law_within cd__law_within ct__law_within), sl__law_within⟩)
    (c__law_within : PySem.W.codeIn K cd__law_within "_law_within" = true)
    (k__law_within : PySem.W.keepIn K (.ref f__law_within) = true)
    (a__law_lot : PySem.W.nsIn K mainGlobals "_law_lot" = some (some (.ref f__law_lot)))
    (l__law_lot : K.lookup f__law_lot = some ⟨oc__law_lot, od__law_lot, .func (PySem.W.fnOf "_law_lot" "_law_lot" (defArgs s__law_lot) (defBody s__law_lot) (defScope s__law_lot) .none kV__law_lot dc__law_lot pm__law_lot an__law_lot cd__law_lot ct__law_lot), sl__law_lot⟩)
    (c__law_lot : PySem.W.codeIn K cd__law_lot "_law_lot" = true)
    (k__law_lot : PySem.W.keepIn K (.ref f__law_lot) = true)
    (a__law_heard : PySem.W.nsIn K mainGlobals "_law_heard" = some (some (.ref f__law_heard)))
    (l__law_heard : K.lookup f__law_heard = some ⟨oc__law_heard, od__law_heard, .func (PySem.W.fnOf "_law_heard" "_law_heard" (defArgs s__law_heard) (defBody s__law_heard) (defScope s__law_heard) .none kV__law_heard dc__law_heard pm__law_heard an__law_heard cd__law_heard ct__law_heard), sl__law_heard⟩)
    (c__law_heard : PySem.W.codeIn K cd__law_heard "_law_heard" = true)
    (k__law_heard : PySem.W.keepIn K (.ref f__law_heard) = true)
    (a_law : PySem.W.nsIn K mainGlobals "law" = some (some (.ref f_law)))
    (l_law : K.lookup f_law = some ⟨oc_law, od_law, .func (PySem.W.fnOf "law" "law" (defArgs s_law) (defBody s_law) (defScope s_law) .none kV_law dc_law pm_law an_law (.ref c) ct_law), sl_law⟩)
    (c_law : PySem.W.codeIn K (.ref c) "law" = true)
    (k_law : PySem.W.keepIn K (.ref f_law) = true)
    (aF : PySem.W.nsIn K mainGlobals "FlipError" = some (some (.ref CF)))
    (eF : PySem.W.subIn K (.ref CF) (.type "BaseException") = some true)
    (dF : PySem.W.hasDictIn K CF = true)
    (tF : PySem.W.typeIn K (.ref CF) = some (.type "type"))
    (a_BadBits : PySem.W.nsIn K mainGlobals "BadBits" = some (some (.ref C_BadBits)))
    (x_BadBits : K.lookup C_BadBits = some (excClassObj nm_BadBits q_BadBits C_BadBits N_BadBits bs_BadBits [.ref CF, .type "ValueError", .type "Exception", .type "BaseException", .type "object"] true sn_BadBits sub_BadBits ab_BadBits col_BadBits dd_BadBits m0_BadBits m1_BadBits m2_BadBits m3_BadBits m5_BadBits "ValueError.__new__"))
    (sa_BadBits : PySem.W.findIn K (.ref C_BadBits) "__setattr__" = some (some (.builtin "object.__setattr__")))
    (e_BadBits : PySem.W.subIn K (.ref C_BadBits) (.type "BaseException") = some true)
    (t_BadBits : PySem.W.typeIn K (.ref C_BadBits) = some (.type "type"))
    (k_BadBits : PySem.W.keepIn K (.ref C_BadBits) = true)
    (i_BadBits : PySem.W.findIn K (.ref C_BadBits) "__init__" = some (some (.ref fi_BadBits)))
    (ti_BadBits : PySem.W.typeIn K (.ref fi_BadBits) = some (.type "function"))
    (li_BadBits : K.lookup fi_BadBits = some ⟨oi_BadBits, odi_BadBits, .func (PySem.W.fnOf "__init__" "BadBits.__init__" (defArgs s_initB) (defBody s_initB) (defScope s_initB) .none kVi_BadBits dci_BadBits pmi_BadBits ani_BadBits cdi_BadBits cti_BadBits), sli_BadBits⟩)
    (ci_BadBits : PySem.W.codeIn K cdi_BadBits "BadBits.__init__" = true)
    (ki_BadBits : PySem.W.keepIn K (.ref fi_BadBits) = true)
    (no_BadBits_part : PySem.W.findIn K (.ref C_BadBits) "part" = some none)
    (ga_BadBits : PySem.W.findIn K (.ref C_BadBits) "__getattribute__" = some (some (.builtin "BaseException.__getattribute__")))
    (gg_BadBits : PySem.W.findIn K (.ref C_BadBits) "__getattr__" = some none)
    (hd_BadBits : PySem.W.hasDictIn K C_BadBits = true)
    (ha_BadBits : PySem.W.findIn K (.ref C_BadBits) "__class__" = some (some (.builtin "object.__class__")))
    (hm_BadBits : PySem.W.mroIn K C_BadBits (.type "object") = some true)
    (sf_BadBits : PySem.W.subIn K (.ref C_BadBits) (.ref CF) = some true)
    (is_BadBits : PySem.W.isClsIn K C_BadBits = true)
    (z_BadBits : PySem.W.subIn K (.type "NoneType") (.ref C_BadBits) = some false)
    (sub_BadBits_BadBits : PySem.W.subIn K (.ref C_BadBits) (.ref C_BadBits) = some true)
    (spn : PySem.W.specialIn K (.builtin "object.__class__") "__get__" = some (some (.builtin "getset_descriptor.__get__")))
    (tkn : PySem.W.takesIn K (.builtin "object.__class__") = some true)
    (a_MOST_BIT : PySem.W.nsIn K mainGlobals "MOST_BIT" = some (some (.int 20000 t_MOST_BIT)))
    (n_isinstance : PySem.W.nsIn K mainGlobals "isinstance" = some none)
    (n_int : PySem.W.nsIn K mainGlobals "int" = some none)
    (n_bool : PySem.W.nsIn K mainGlobals "bool" = some none)
    (n_len : PySem.W.nsIn K mainGlobals "len" = some none)
    (n_abs : PySem.W.nsIn K mainGlobals "abs" = some none)
    (n_range : PySem.W.nsIn K mainGlobals "range" = some none)
    (n_list : PySem.W.nsIn K mainGlobals "list" = some none)
    (n_tuple : PySem.W.nsIn K mainGlobals "tuple" = some none)
    (n_all : PySem.W.nsIn K mainGlobals "all" = some none)
    (n_set : PySem.W.nsIn K mainGlobals "set" = some none)
    (n_sorted : PySem.W.nsIn K mainGlobals "sorted" = some none)
    (n_dict : PySem.W.nsIn K mainGlobals "dict" = some none)
    (n_ValueError : PySem.W.nsIn K mainGlobals "ValueError" = some none)
    (n_repr : PySem.W.nsIn K mainGlobals "repr" = some none)
    (l_code : K.lookup c = some ⟨.type "code", odC, .fields vsC, slC⟩)
    (v11 : vsC[11]? = some (.ref Pt))
    (hdc : PySem.W.codeHdIn K c Pt = true)
    (kPt : K.lookup Pt = none)
    (hPt : h.get? Pt = some { cls := .none, data := .fields #[] }) :
    OB.LawG l w K CX0 14 63 "script" mg fa h := by
  have efa := hfa.symm.trans (PySem.W.mg_of X G a_law)
  cases efa
  have D_is_integer : Df K mg "is_integer" s_is_integer ["value"] f_is_integer _ := ⟨fun_mk (st := s_is_integer) l_is_integer c_is_integer k_is_integer, PySem.W.mg_of X G a_is_integer, (fun_mk (st := s_is_integer) l_is_integer c_is_integer k_is_integer).binds (ps := ["value"]) fun _ _ _ _ _ _ us hl => match us, hl with | [_], _ => rfl⟩
  have D_is_within : Df K mg "is_within" s_is_within ["value", "least", "most"] f_is_within _ := ⟨fun_mk (st := s_is_within) l_is_within c_is_within k_is_within, PySem.W.mg_of X G a_is_within, (fun_mk (st := s_is_within) l_is_within c_is_within k_is_within).binds (ps := ["value", "least", "most"]) fun _ _ _ _ _ _ us hl => match us, hl with | [_, _, _], _ => rfl⟩
  have D_is_list : Df K mg "is_list" s_is_list ["value"] f_is_list _ := ⟨fun_mk (st := s_is_list) l_is_list c_is_list k_is_list, PySem.W.mg_of X G a_is_list, (fun_mk (st := s_is_list) l_is_list c_is_list k_is_list).binds (ps := ["value"]) fun _ _ _ _ _ _ us hl => match us, hl with | [_], _ => rfl⟩
  have D_are_unlike : Df K mg "are_unlike" s_are_unlike ["value", "least", "most"] f_are_unlike _ := ⟨fun_mk (st := s_are_unlike) l_are_unlike c_are_unlike k_are_unlike, PySem.W.mg_of X G a_are_unlike, (fun_mk (st := s_are_unlike) l_are_unlike c_are_unlike k_are_unlike).binds (ps := ["value", "least", "most"]) fun _ _ _ _ _ _ us hl => match us, hl with | [_, _, _], _ => rfl⟩
  have D_is_lot : Df K mg "is_lot" s_is_lot ["value"] f_is_lot _ := ⟨fun_mk (st := s_is_lot) l_is_lot c_is_lot k_is_lot, PySem.W.mg_of X G a_is_lot, (fun_mk (st := s_is_lot) l_is_lot c_is_lot k_is_lot).binds (ps := ["value"]) fun _ _ _ _ _ _ us hl => match us, hl with | [_], _ => rfl⟩
  have D_lot_of : Df K mg "lot_of" s_lot_of ["bits"] f_lot_of _ := ⟨fun_mk (st := s_lot_of) l_lot_of c_lot_of k_lot_of, PySem.W.mg_of X G a_lot_of, (fun_mk (st := s_lot_of) l_lot_of c_lot_of k_lot_of).binds (ps := ["bits"]) fun _ _ _ _ _ _ us hl => match us, hl with | [_], _ => rfl⟩
  have D_need_lot : Df K mg "need_lot" s_need_lot ["value", "part"] f_need_lot _ := ⟨fun_mk (st := s_need_lot) l_need_lot c_need_lot k_need_lot, PySem.W.mg_of X G a_need_lot, (fun_mk (st := s_need_lot) l_need_lot c_need_lot k_need_lot).binds (ps := ["value", "part"]) fun _ _ _ _ _ _ us hl => match us, hl with | [_, _], _ => rfl⟩
  have D__law_tub : Df K mg "_law_tub" s__law_tub ["script"] f__law_tub _ := ⟨fun_mk (st := s__law_tub) l__law_tub c__law_tub k__law_tub, PySem.W.mg_of X G a__law_tub, (fun_mk (st := s__law_tub) l__law_tub c__law_tub k__law_tub).binds (ps := ["script"]) fun _ _ _ _ _ _ us hl => match us, hl with | [_], _ => rfl⟩
  have D__law_scoop : Df K mg "_law_scoop" s__law_scoop ["tub", "many"] f__law_scoop _ := ⟨fun_mk (st := s__law_scoop) l__law_scoop c__law_scoop k__law_scoop, PySem.W.mg_of X G a__law_scoop, (fun_mk (st := s__law_scoop) l__law_scoop c__law_scoop k__law_scoop).binds (ps := ["tub", "many"]) fun _ _ _ _ _ _ us hl => match us, hl with | [_, _], _ => rfl⟩
  have D__law_pick : Df K mg "_law_pick" s__law_pick ["tub", "some"] f__law_pick _ := ⟨fun_mk (st := s__law_pick) l__law_pick c__law_pick k__law_pick, PySem.W.mg_of X G a__law_pick, (fun_mk (st := s__law_pick) l__law_pick c__law_pick k__law_pick).binds (ps := ["tub", "some"]) fun _ _ _ _ _ _ us hl => match us, hl with | [_, _], _ => rfl⟩
  have D__law_stirred : Df K mg "_law_stirred" s__law_stirred ["tub", "some"] f__law_stirred _ := ⟨fun_mk (st := s__law_stirred) l__law_stirred c__law_stirred k__law_stirred, PySem.W.mg_of X G a__law_stirred, (fun_mk (st := s__law_stirred) l__law_stirred c__law_stirred k__law_stirred).binds (ps := ["tub", "some"]) fun _ _ _ _ _ _ us hl => match us, hl with | [_, _], _ => rfl⟩
  have D__law_any : Df K mg "_law_any" s__law_any ["tub"] f__law_any _ := ⟨fun_mk (st := s__law_any) l__law_any c__law_any k__law_any, PySem.W.mg_of X G a__law_any, (fun_mk (st := s__law_any) l__law_any c__law_any k__law_any).binds (ps := ["tub"]) fun _ _ _ _ _ _ us hl => match us, hl with | [_], _ => rfl⟩
  have D__law_within : Df K mg "_law_within" s__law_within ["value", "whole", "least", "most"] f__law_within _ := ⟨fun_mk (st := s__law_within) l__law_within c__law_within k__law_within, PySem.W.mg_of X G a__law_within, (fun_mk (st := s__law_within) l__law_within c__law_within k__law_within).binds (ps := ["value", "whole", "least", "most"]) fun _ _ _ _ _ _ us hl => match us, hl with | [_, _, _, _], _ => rfl⟩
  have D__law_lot : Df K mg "_law_lot" s__law_lot ["tub"] f__law_lot _ := ⟨fun_mk (st := s__law_lot) l__law_lot c__law_lot k__law_lot, PySem.W.mg_of X G a__law_lot, (fun_mk (st := s__law_lot) l__law_lot c__law_lot k__law_lot).binds (ps := ["tub"]) fun _ _ _ _ _ _ us hl => match us, hl with | [_], _ => rfl⟩
  have D__law_heard : Df K mg "_law_heard" s__law_heard ["ask"] f__law_heard _ := ⟨fun_mk (st := s__law_heard) l__law_heard c__law_heard k__law_heard, PySem.W.mg_of X G a__law_heard, (fun_mk (st := s__law_heard) l__law_heard c__law_heard k__law_heard).binds (ps := ["ask"]) fun _ _ _ _ _ _ us hl => match us, hl with | [_], _ => rfl⟩
  have FI_BadBits := fun_mk (st := s_initB) li_BadBits ci_BadBits ki_BadBits
  have BI_BadBits := FI_BadBits.binds (ps := ["self", "part"]) fun _ _ _ _ _ _ us hl => match us, hl with | [_, _], _ => rfl
  have O_BadBits : OexC K C_BadBits := ⟨⟨_, _, _, _, _, _, _, _, _, _, _, _, _, _, _, x_BadBits, by rfl⟩, sa_BadBits, e_BadBits, t_BadBits, k_BadBits⟩
  have XF_BadBits : XfC K C_BadBits := ⟨ga_BadBits, gg_BadBits, e_BadBits, hd_BadBits⟩
  have EC_BadBits : ExcC K C_BadBits := ⟨ga_BadBits, gg_BadBits, e_BadBits, hd_BadBits, ha_BadBits, spn, tkn, hm_BadBits⟩
  have EX_BadBits : PySem.W.exmOne K (.ref C_BadBits) (.ref CF) = some true := PySem.W.exm_ref eF dF tF sf_BadBits
  have kit_BadBits_BadBits : PySem.W.kitOne K (.ref C_BadBits) (.ref C_BadBits) = some true := kit_sub is_BadBits t_BadBits sub_BadBits_BadBits sub_BadBits_BadBits
  have kz_BadBits : PySem.W.kitOne K (.type "NoneType") (.ref C_BadBits) = some false := kit_sub is_BadBits t_BadBits sub_BadBits_BadBits z_BadBits
  have g_BadBits : mg "BadBits" = some (.ref C_BadBits) := PySem.W.mg_of X G a_BadBits
  have T : Blt mg := ⟨⟨_, PySem.W.mg_of X G a_MOST_BIT⟩, PySem.W.mg_none_of X G n_isinstance, PySem.W.mg_none_of X G n_int, PySem.W.mg_none_of X G n_bool, PySem.W.mg_none_of X G n_len, PySem.W.mg_none_of X G n_abs, PySem.W.mg_none_of X G n_range, PySem.W.mg_none_of X G n_list, PySem.W.mg_none_of X G n_tuple, PySem.W.mg_none_of X G n_all, PySem.W.mg_none_of X G n_set, PySem.W.mg_none_of X G n_sorted, PySem.W.mg_none_of X G n_dict, PySem.W.mg_none_of X G n_ValueError, PySem.W.mg_none_of X G n_repr⟩
  refine ⟨PySem.W.fnOf "law" "law" (defArgs s_law) (defBody s_law) (defScope s_law) .none kV_law dc_law pm_law an_law (.ref c) ct_law, [(c, Pt)], spLaw K Pt, ⟨fun p hp => ?_, fun p hp => ?_, fun p hp => ?_⟩, fun s u => .of_eq rfl, fun H a ns hl _ hP hS => ⟨a, ns, rfl, hS, hl, hP _ List.mem_cons_self, fun _ => rfl⟩, fun base hK hG hTB => ?_⟩
  · rw [List.mem_singleton.mp hp]
    exact hPt
  · rw [List.mem_singleton.mp hp]
    exact kPt
  · rw [List.mem_singleton.mp hp]
    exact PySem.W.codeHd_of_K X hdc
  · have R_BadBits : Err l.prog w K mg base "BadBits" "part" C_BadBits fi_BadBits _ := ⟨O_BadBits, i_BadBits, ti_BadBits, ok_init1 FI_BadBits sc_initB rfl (.inl rfl) (.inl rfl), BI_BadBits, g_BadBits, no_BadBits_part⟩
    have Z : Kinds K mg C_BadBits := ⟨g_BadBits, XF_BadBits, EC_BadBits, PySem.W.exm_ref e_BadBits hd_BadBits t_BadBits sub_BadBits_BadBits, no_BadBits_part, kit_BadBits_BadBits⟩
    have G_are_unlike := ok_are_unlike (P := l.prog) (w := w) (base := base) D_are_unlike.F T D_is_list D_is_within D_is_integer
    have G_is_lot := ok_is_lot D_is_lot.F T D_are_unlike G_are_unlike
    have G_need_lot := ok_need_lot D_need_lot.F D_is_lot G_is_lot R_BadBits
    have GX_lot_of := ok_lot_of D_lot_of.F T D_need_lot G_need_lot
    have G__law_tub : FnOk l.prog w K mg base CX0 1 f__law_tub _ ["script"] (spLot K) := ok__law_tub D__law_tub.F T
    have G__law_lot := ok__law_lot (P := l.prog) (w := w) (K := K) (base := base) D__law_lot.F T D__law_scoop D__law_pick D__law_stirred
    exact ok_law T l_law c_law (hTB _ List.mem_cons_self) Z D__law_tub G__law_tub D__law_scoop D__law_pick D__law_any D__law_within D__law_lot G__law_lot D__law_heard D_is_integer D_is_within D_is_lot G_is_lot D_lot_of GX_lot_of
end K02
open PySem PySem.W PyProof.Rows
set_option maxRecDepth 100000 in
set_option maxHeartbeats 0 in
theorem PySem.Challenge.cw_oneflip_k02_integers_and_lots_of_bits_holds : PySem.Challenge.rw_oneflip_k02_integers_and_lots_of_bits.Holds := by
  w_on; o_law; k_head; (case hw => w_witness2)
  k_fill
  refine OB.walk_G (l := PySem.Challenge.rw_oneflip_k02_integers_and_lots_of_bits) (n := 63) (k := 14) (x := "script") (CX := fun _ => L2.CX0) rfl (by decide) rfl ⟨rfl, by decide, by decide⟩ (fun w h Y => PySem.W.km_in_of Y) ?F (fun _ _ _ _ _ z => z)
  case F =>
    intro w mg fa h Y KX G hmg
    refine' K02.all_mk KX G hmg ?a_is_integer ?l_is_integer ?c_is_integer ?k_is_integer ?a_is_within ?l_is_within ?c_is_within ?k_is_within ?a_is_list ?l_is_list ?c_is_list ?k_is_list ?a_are_unlike ?l_are_unlike ?c_are_unlike ?k_are_unlike ?a_is_lot ?l_is_lot ?c_is_lot ?k_is_lot ?a_lot_of ?l_lot_of ?c_lot_of ?k_lot_of ?a_need_lot ?l_need_lot ?c_need_lot ?k_need_lot ?a__law_tub ?l__law_tub ?c__law_tub ?k__law_tub ?a__law_scoop ?l__law_scoop ?c__law_scoop ?k__law_scoop ?a__law_pick ?l__law_pick ?c__law_pick ?k__law_pick ?a__law_stirred ?l__law_stirred ?c__law_stirred ?k__law_stirred ?a__law_any ?l__law_any ?c__law_any ?k__law_any ?a__law_within ?l__law_within ?c__law_within ?k__law_within ?a__law_lot ?l__law_lot ?c__law_lot ?k__law_lot ?a__law_heard ?l__law_heard ?c__law_heard ?k__law_heard ?a_law ?l_law ?c_law ?k_law ?aF ?eF ?dF ?tF ?a_BadBits ?x_BadBits ?sa_BadBits ?e_BadBits ?t_BadBits ?k_BadBits ?i_BadBits ?ti_BadBits ?li_BadBits ?ci_BadBits ?ki_BadBits ?no_BadBits_part ?ga_BadBits ?gg_BadBits ?hd_BadBits ?ha_BadBits ?hm_BadBits ?sf_BadBits ?is_BadBits ?z_BadBits ?sub_BadBits_BadBits ?spn ?tkn ?a_MOST_BIT ?n_isinstance ?n_int ?n_bool ?n_len ?n_abs ?n_range ?n_list ?n_tuple ?n_all ?n_set ?n_sorted ?n_dict ?n_ValueError ?n_repr ?l_code ?v11 ?hdc ?kPt ?hPt
    (case a_is_integer => k_is)
    (case l_is_integer => k_is)
    (case c_is_integer => k_is)
    (case k_is_integer => k_is)
    (case a_is_within => k_is)
    (case l_is_within => k_is)
    (case c_is_within => k_is)
    (case k_is_within => k_is)
    (case a_is_list => k_is)
    (case l_is_list => k_is)
    (case c_is_list => k_is)
    (case k_is_list => k_is)
    (case a_are_unlike => k_is)
    (case l_are_unlike => k_is)
    (case c_are_unlike => k_is)
    (case k_are_unlike => k_is)
    (case a_is_lot => k_is)
    (case l_is_lot => k_is)
    (case c_is_lot => k_is)
    (case k_is_lot => k_is)
    (case a_lot_of => k_is)
    (case l_lot_of => k_is)
    (case c_lot_of => k_is)
    (case k_lot_of => k_is)
    (case a_need_lot => k_is)
    (case l_need_lot => k_is)
    (case c_need_lot => k_is)
    (case k_need_lot => k_is)
    (case a__law_tub => k_is)
    (case l__law_tub => k_is)
    (case c__law_tub => k_is)
    (case k__law_tub => k_is)
    (case a__law_scoop => k_is)
    (case l__law_scoop => k_is)
    (case c__law_scoop => k_is)
    (case k__law_scoop => k_is)
    (case a__law_pick => k_is)
    (case l__law_pick => k_is)
    (case c__law_pick => k_is)
    (case k__law_pick => k_is)
    (case a__law_stirred => k_is)
    (case l__law_stirred => k_is)
    (case c__law_stirred => k_is)
    (case k__law_stirred => k_is)
    (case a__law_any => k_is)
    (case l__law_any => k_is)
    (case c__law_any => k_is)
    (case k__law_any => k_is)
    (case a__law_within => k_is)
    (case l__law_within => k_is)
    (case c__law_within => k_is)
    (case k__law_within => k_is)
    (case a__law_lot => k_is)
    (case l__law_lot => k_is)
    (case c__law_lot => k_is)
    (case k__law_lot => k_is)
    (case a__law_heard => k_is)
    (case l__law_heard => k_is)
    (case c__law_heard => k_is)
    (case k__law_heard => k_is)
    (case a_law => k_is)
    (case l_law => k_is)
    (case c_law => k_is)
    (case k_law => k_is)
    (case aF => k_is)
    (case eF => k_is)
    (case dF => k_is)
    (case tF => k_is)
    (case a_BadBits => k_is)
    (case x_BadBits => k_is)
    (case sa_BadBits => k_is)
    (case e_BadBits => k_is)
    (case t_BadBits => k_is)
    (case k_BadBits => k_is)
    (case i_BadBits => k_is)
    (case ti_BadBits => k_is)
    (case li_BadBits => k_is)
    (case ci_BadBits => k_is)
    (case ki_BadBits => k_is)
    (case no_BadBits_part => k_is)
    (case ga_BadBits => k_is)
    (case gg_BadBits => k_is)
    (case hd_BadBits => k_is)
    (case ha_BadBits => k_is)
    (case hm_BadBits => k_is)
    (case sf_BadBits => k_is)
    (case is_BadBits => k_is)
    (case z_BadBits => k_is)
    (case sub_BadBits_BadBits => k_is)
    (case spn => k_is)
    (case tkn => k_is)
    (case a_MOST_BIT => k_is)
    (case n_isinstance => k_is)
    (case n_int => k_is)
    (case n_bool => k_is)
    (case n_len => k_is)
    (case n_abs => k_is)
    (case n_range => k_is)
    (case n_list => k_is)
    (case n_tuple => k_is)
    (case n_all => k_is)
    (case n_set => k_is)
    (case n_sorted => k_is)
    (case n_dict => k_is)
    (case n_ValueError => k_is)
    (case n_repr => k_is)
    (case l_code => k_is)
    (case v11 => rfl)
    (case hdc => kernel_rfl)
    (case kPt => kernel_rfl)
    (case hPt => exact PySem.W.km_tabs_of Y _ (by k_mem))
