import PyProof.Rows.All
import Wide.All
import OpenK.AllK
import Wide.FinOn
import HandS.ForMost
import HandS.Exc
import HandS.ExcValue
import HandS.ExcField
import HandS.ExcIs
import HandS.IsInst
import HandS.Lambda
import HandS.EndTab
import HandS.Wide
import HandS.WideBits
import HandS.RaiseMore
import HandS.WordsList
import HandS.WordsExc
import HandS.ExcInit
import PyProof.FString3
import HandS.FStr
import PyProof.EnumMake
import PyProof.Draws
import HandS.Walk
import HandS.Style
import HandS.Text
import KE.KRevIter
import PyProof.Rows.StrRev
import PyProof.ReprRoads
import HandS.EndBits
import PyProof.Rows.SetFrom
import HandS.SetFor
import HandS.Zip
import HandS.SortInts
import HandS.FStrTup
import PyProof.Rows.RegReprOcc
import HandS.Conv
import HandS.Codes
import KE.KNestM
import PySem.Challenge.RW_oneflip_k03_flips_and_neighbours
set_option Elab.async false
set_option linter.all false
set_option maxRecDepth 100000
set_option maxHeartbeats 2000000
/-! Errors that are caught and kept: an exception object behind its suite. -/
namespace OB
open PySem PySem.Spec PyProof.Rows L2

section kit
open PySem.W PySem.Calls
variable {prog : Program} {w : World} {A : Around} {E : Value → Shared → Prop} {s : Shared} {K : Frag} {x D : Addr} {ox : Obj} {od : Option Obj}
theorem cls_data (hc : (clsIn K D).isSome = true) {nm : Str} {a g : Value} (ha : findIn K (.ref D) nm = some (some a)) (hg : specialIn K a "__get__" = some (some g)) (ht : takesIn K a = some true) :
    findObj K D od nm = some (.bind g a) := by
  cases e : clsIn K D with
  | none => rw [e] at hc; cases hc
  | some cd =>
    unfold findObj
    simp [e, ha, hg, ht]
/-- the class of an exception with or without a dict of its own -/
theorem exc_class {Q : Option Value → Shared → Prop} (C : ExcC K D) (X : K.In s.heap) (I : InstAt s.heap x ox D od) (k : Q (some (.ref D)) { s with toks := s.toks + 1 }) :
    wpAny (model prog w) A (getAttr? (.ref x) "__class__") Q E s := by
  have found : findObj K D od "__class__" = some (.bind (.builtin "getset_descriptor.__get__") (.builtin "object.__class__")) :=
    cls_data (by obtain ⟨cd, e, _⟩ := any_some C.hd; simp [e]) C.ha C.hn C.ht
  obtain ⟨h0, g0, d0, t0, o0⟩ := s
  have ty0 := I.type (M := model prog w)
  have own := looks_findIn (M := model prog w) X C.hg
  have gat := looks_findIn (M := model prog w) X C.hk
  have fnd := looks_find (M := model prog w) X I found
  have isE : Looks (model prog w) h0 (isInstance (.ref x) (.type "BaseException")) true := ty0.andThen (looks_subIn X C.hs)
  have q2 : (Value.builtin "BaseException.__getattribute__" == Value.builtin "object.__getattribute__") = false := by decide +kernel
  have q1 : (onTheHeap (Value.ref D) && Value.builtin "BaseException.__getattribute__" == Value.builtin "object.__getattribute__") = false := by
    rw [q2, Bool.and_false]
  unfold getAttr? getAttrBy? getAttrBy
  refine wpAny_bind (wpAny_mkText (wpAny_bind (wpAny_attempt (wpAny_holding (wpAny_bind (ty0.at (wpAny_bind (own.at ?_))))))))
  dsimp only
  rw [q1]
  unfold getAttrByItsOwn hookBefore
  simp only [Bool.false_eq_true, if_false]
  refine wpAny_bind ?_
  rw [if_pos (show onTheHeap (Value.ref D) = true from rfl)]
  refine gat.at ?_
  refine wpAny_bind (wpAny_attempt (wpAny_holding ?_))
  unfold callGetattribute
  rw [if_neg (by decide)]
  unfold boundAndCalled
  rw [PySem.F.excAttr_ValueError.ga.bind (.ref x)]
  refine wpAny_bind (wpAny_pure ?_)
  refine wpAny_call (codeAny_call_builtin PySem.F.excAttr_ValueError.ga.plain PySem.F.entry_bexc_ga ?_)
  refine @check_slot (model prog w) _ _ ⟨h0, g0, d0, t0 + 1, o0⟩ "BaseException.__getattribute__" "BaseException" "__getattribute__" (.ref x) [.str "__class__" t0] [] _ (by decide +kernel) (by decide +kernel) isE
    (PySem.F.args_bexc_ga (.ref x) (.str "__class__" t0)) ?_
  unfold Builtin.«object.__getattribute__»
  refine wpAny_bind (wpAny_of_eq (a := ((Value.ref x : Value), [Value.str "__class__" t0])) (by first | rfl | (simp only [slotArgs]; rfl)) ?_)
  refine wpAny_bind (wpAny_pure (wpAny_bind (ty0.at (wpAny_bind (fnd.at ?_)))))
  dsimp only
  refine wpAny_bind (wpAny_holding (wpAny_call (class_get (s := ⟨h0, g0, d0, t0 + 1, o0⟩) (ox := ox) (od := od) X I C.hm ?_)))
  refine wpAny_pure ?_
  show wpAny _ _ (handedOut (.ref D)) _ _ _
  rw [handedOut_of (v := .ref D) rfl]
  first
    | exact wpAny_pure (wpAny_pure k)
    | exact wpAny_pure k
    | exact wpAny_pure (wpAny_bind (wpAny_pure (wpAny_pure k)))
theorem exc_kit (C : ExcC K D) : KitX K (.ref x) (.ref D) (fun h => InstAt h x ox D od) := by
  obtain ⟨cd, hcd, _⟩ := any_some C.hd
  unfold clsIn at hcd
  split at hcd
  · rename_i c1 d1 cd1 sl1 look
    refine ⟨fun _ _ _ I => I.type, fun M h X _ A' Q' E' s' keep q => ?_, fun h tp dd its n sl X htp => ?_, fun X I k => exc_class C X I k⟩
    · unfold isType loadHead
      exact wpAny_bind (wpAny_loadPart (keep _ _ (X _ _ look)) (wpAny_pure q))
    · cases e : (Value.ref D == Value.ref tp) with
      | false => rfl
      | true =>
        have e2 : D = tp := Value.ref.inj (beq_iff_eq.mp e)
        rw [← e2] at htp
        have z := (X _ _ look).symm.trans htp
        cases z
  · cases hcd
end kit

/-- an exception object that is kept: its class, its own dict -/
def ExA (cls : Value) (d : Option Addr) (a : Addr) : HO := .ext fun h => ∃ (oe : Obj) (vs : Array Value), h.get? a = some oe ∧ Zc cls d oe ∧ oe.data = .fields vs
theorem exA_ok {P : Program} {w : World} {H : Hp} {h : Heap} {a : Addr} {cls : Value} {d : Option Addr} {oe : Obj} {vs : Array Value} (e : h.get? a = some oe) (z : Zc cls d oe) (f : oe.data = .fields vs) : ObjOk P w H h a (ExA cls d a) :=
  ⟨⟨oe, vs, e, z, f⟩, ⟨oe, e⟩, fun _ _ ⟨o, v, q, r⟩ k => ⟨o, v, k o q, r⟩⟩
theorem exA_at {P : Program} {w : World} {H : Hp} {h : Heap} {a : Addr} {cls : Value} {d : Option Addr} (ok : HOk P w H h) (e : H a = some (ExA cls d a)) : ∃ (oe : Obj) (vs : Array Value), h.get? a = some oe ∧ Zc cls d oe ∧ oe.data = .fields vs := by
  have z : ObjOk P w H h a (ExA cls d a) := ok a _ e
  exact z.1

section
variable {X : Cx} {pins : List (Addr × Obj)} {σ : L2.St} {H : Hp} {s : Shared}
/-- an object that came behind the entry is tracked from now on -/
theorem track {a : Addr} {o : HO} (I : Inv X pins σ H s) (hn : H a = none) (h0 : X.s_0.heap.get? a = none) (nL : a ≠ X.env.locals) (nC : ∀ x c, X.env.cells.lookup x = some c → c ≠ a)
    (nP : ∀ p ∈ X.pn ++ pins, p.1 ≠ a) (new : ObjOk X.prog X.w (upd H a o) s.heap a o) : Inv X pins σ (upd H a o) s := by
  have ne : ∀ {b u}, X.s_0.heap.get? b = some u → b ≠ a := fun {b u} e z => by
    rw [z, h0] at e
    cases e
  refine ⟨I.ok, I.os, I.bare, ⟨I.base.keep, I.base.slot, fun b u e n hx => ?_, I.base.there, fun b xs e => ?_, fun b u v e => ?_, fun b ps e => ?_⟩, I.loc, I.cell, ?_, fun x c e => ?_, fun p hp => ?_, ?_, I.len⟩
  · rw [upd_ne (ne e)]
    exact I.base.free b u e n hx
  · have q := I.base.tups b xs e
    rw [upd_ne (ne_of_none q hn)]
    exact q
  · have q := I.base.frzs b u v e
    rw [upd_ne (ne_of_none q hn)]
    exact q
  · obtain ⟨m, q⟩ := I.base.tbls b ps e
    exact ⟨m, by rw [upd_ne (ne_of_none q hn)]; exact q⟩
  · rw [upd_ne (Ne.symm nL)]
    exact I.free
  · rw [upd_ne (nC x c e)]
    exact I.freeC x c e
  · obtain ⟨e, n, r1, r2, r3⟩ := I.pin p hp
    exact ⟨e, by rw [upd_ne (nP p hp)]; exact n, r1, r2, r3⟩
  · exact I.hok.laidN (fun _ _ e => e) hn new
end

/-- what 'except x as n: kept = n' wishes: behind it slot j holds the exception, which is tracked -/
def wKeep (K : PySem.W.Frag) (c : Value) (i j : Nat) (Wout : WX) (D : Ends) : WX := fun cls d σ H =>
  ∃ b, PySem.W.exmOne K cls c = some b ∧
    (b = true → ∀ a, H a = none → D.nx (((σ.set i (some (.ref a))).set j (some (.ref a))).set i none) (upd H a (ExA cls d a))) ∧ (b = false → Wout cls d σ H)

section
variable {X : Cx} {x n m : Str} {c : Value} {i j : Nat} {body : List Stmt} {np pos pos' p1 p2 p3 : Pos} {tb : WX → TS} {Wout : WX}
theorem ps_try_keep (hs : X.stack = X.env :: X.outer) (hf : X.env.frame = some X.env.locals) (hx : X.ex = []) (hN : X.N.Nodup) (hi : X.N[i]? = some n) (hln : X.env.kindOf n = some .local)
    (hj : X.N[j]? = some m) (hlm : X.env.scope.names.lookup m = some .local) (hc : Names X x c) (tk : Takes X Wout)
    (hb : ∀ (W : WX) (pn : List (Addr × Obj)) (xe : Value → Shared → Prop), Takes (X.tr pn xe) W → PassesOwn (model X.prog X.w) X.A X.env xe → PSs (X.tr pn xe) body (tb W))
    (hdn : (n == ("__debug__" : Str)) = false := by decide) (hcn : (n == ("__classdict__" : Str)) = false := by decide)
    (hsw : ∀ env : Env, swapsWith (.Name n p2) (some (.Name m p1)) p3.line env = pure false := by intro _; rfl) :
    PS X (.Try body [.ExceptHandler (some (.Name x np)) (some n) [.Assign [.Name m p1] (.Name n p2) p3] pos'] [] [] pos) (fun D σ H => tb (wKeep X.K c i j Wout D) D σ H) := by
  refine ⟨fun pins s σ H D I h => ?_⟩
  have okX := I.ok
  have frames : X.A.frames = some (X.env :: X.outer) := by rw [okX.frames, hs]
  have lj : Loc X.env.scope m := .inl hlm
  refine wpAny_Try_except ?_
  have run := (hb (wKeep X.K c i j Wout D) (X.pn ++ pins) (fun e s₁ => wpAny (model X.prog X.w) X.A (noteFrame e X.env)
    (fun _ s₂ => wpAny (model X.prog X.w) X.A (setFlight e none)
      (fun _ s₃ => wpAny (model X.prog X.w) X.A (handleBy e X.env [.ExceptHandler (some (.Name x np)) (some n) [.Assign [.Name m p1] (.Name n p2) p3] pos']) (SP X pins D) X.xe s₃) X.xe s₂) X.xe s₁)
    (fun u s' air => ?_) PassesOwn.looking).run [] s σ H D (I.toTry _) h
  · refine wpAny_mono run (fun f s1 end1 => ?_) (fun _ _ z => z)
    cases f with
    | next =>
      obtain ⟨σ1, H1, J1, q⟩ := end1
      exact wpAny_execs_nil ⟨σ1, H1, J1.ofTry okX, q⟩
    | ret u =>
      obtain ⟨v, σ1, H1, J1, r, q⟩ := end1
      exact ⟨v, σ1, H1, J1.ofTry okX, r, q⟩
    | brk =>
      obtain ⟨σ1, H1, J1, q⟩ := end1
      exact ⟨σ1, H1, J1.ofTry okX, q⟩
    | cont =>
      obtain ⟨σ1, H1, J1, q⟩ := end1
      exact ⟨σ1, H1, J1.ofTry okX, q⟩
  · obtain ⟨a, B, sI, pins1, σ1, H1, cls, d, rfl, J0, ground, up0, sky, na, os1, bare1, b, hb1, yes, no⟩ := air
    have J : Inv X pins σ1 H1 sI := J0.ofTry okX
    have skyX : Sky B (X.env :: X.outer) a (Zc cls d) X.env.locals s'.heap := by
      rw [← hs]
      exact sky
    have Ba : B.get? a = none := by
      rcases skyX with ⟨_, z, _⟩ | ⟨_, z, _⟩ | ⟨_, z, _⟩ <;> exact z
    show wpAny (model X.prog X.w) X.A (noteFrame (.ref a) X.env) _ _ _
    refine Sky.land Zc.steady frames hf skyX fun h3 fl3 up3 => ?_
    have J3 : Inv X pins σ1 H1 { s' with heap := h3 } := J.landed ground fl3.1 (up0.trans up3) os1 bare1
    obtain ⟨oe3, vs3, he3, hz3, hd3⟩ := fl3.there
    have off : a ∉ frs (X.env :: X.outer) := fun hm => by
      obtain ⟨_, o', e', hnf⟩ := fl3.2.2.1.mem hm
      rw [he3] at e'
      cases e'
      exact hnf _ hd3
    have sIa : sI.heap.get? a = none := by
      cases e : sI.heap.get? a with
      | none => rfl
      | some o =>
        have z := ground a o e (by rw [hs]; exact off)
        rw [Ba] at z
        cases z
    have s0a : X.s_0.heap.get? a = none := by
      cases e : X.s_0.heap.get? a with
      | none => rfl
      | some o =>
        obtain ⟨o', z⟩ := J.base.there a o e (by rw [hx]; exact fun z => nomatch z)
        rw [sIa] at z
        cases z
    have nL : a ≠ X.env.locals := fun z => off (List.mem_filterMap.mpr ⟨X.env, List.mem_cons_self, by rw [hf, z]⟩)
    have nF : a ∉ X.fs := fun hm => by
      obtain ⟨e, he, q⟩ := List.mem_filterMap.mp hm
      exact off (List.mem_filterMap.mpr ⟨e, List.mem_cons_of_mem _ he, q⟩)
    have nC : ∀ y k, X.env.cells.lookup y = some k → k ≠ a := fun y k e z => by
      obtain ⟨v, o, ho, _⟩ := J.cell y k e
      rw [z, sIa] at ho
      cases ho
    have nP : ∀ p ∈ X.pn ++ pins, p.1 ≠ a := fun p hp z => by
      have q := (J.pin p hp).1
      rw [z, sIa] at q
      cases q
    have S3 := J3.suite he3 hd3 na nL nF
    refine wpAny_handleBy_cons (codeAny_handlers_test ?_) (by intro q; cases q)
    have LT : PySem.W.Looks (model X.prog X.w) h3 (typeOf (.ref a)) cls := fun A Q E s k q => wpAny_typeOf_ref (k _ _ he3) (by rw [hz3.1]; exact q)
    have LM := PySem.W.exm_one (M := model X.prog X.w) (J3.kIn) LT hb1
    have named : ∀ {Q : Value → Shared → Prop} {E : Value → Shared → Prop}, Q c { s' with heap := h3 } →
        wpAny (model X.prog X.w) (X.A.mark (some (.ref a))) (eval (.Name x np) X.env) Q E { s' with heap := h3 } := fun {Q E} q => by
      obtain ⟨hg, hdbg, hm | ⟨hm, hv, hnn⟩⟩ := hc
      · exact ld_glob (X := X.suite a ((a, oe3) :: (X.pn ++ pins))) S3 hg hm q hdbg
      · exact ld_blt (X := X.suite a ((a, oe3) :: (X.pn ++ pins))) S3 hg hm hv q hnn hdbg
    refine named (LM.here ?_)
    cases b with
    | true =>
      refine codeAny_handlers_suite_as ?_
      refine HandSPX.lands_againZ fl3 fun h4 fl4 up4 => ?_
      have J4 : Inv X pins σ1 H1 { s' with heap := h4 } := J.landed ground fl4.1 ((up0.trans up3).trans up4) os1 bare1
      obtain ⟨oe4, vs4, he4, hz4, hd4⟩ := fl4.there
      have S4 := J4.suite he4 hd4 na nL nF
      refine store_ok (X := X.suite a ((a, oe4) :: (X.pn ++ pins))) (v := .ref a) S4 hN hi (.inl hln) rfl (fun s5 S5 => ?_) (.inr hln)
      have hiσ : i < σ1.length := by
        rw [J.len]
        exact (List.getElem?_eq_some_iff.mp hi).1
      have kept := pss_one (ps_set (X := X.suite a ((a, oe4) :: (X.pn ++ pins))) (pos := p3) (pos' := p1) hN hj lj (pe_var (X := X.suite a ((a, oe4) :: (X.pn ++ pins))) (pos := p2) hi (.inl hln) hdn hcn) (hsw _) (.inr hlm))
      refine wpAny_mono (kept.run [] s5 _ H1 { nx := fun σ' H' => H' = H1 ∧ σ' = (σ1.set i (some (.ref a))).set j (some (.ref a)), rt := fun _ _ => False, bk := fun _ _ => False, ct := fun _ _ => False } S5
        ⟨.ref a, by rw [List.getElem?_set_self hiσ], rfl, rfl⟩) (fun f s6 end6 => ?_) (fun _ _ z => False.elim z)
      cases f with
      | next =>
        obtain ⟨σ6, H6, S6, e6, e7⟩ := end6
        subst e6 e7
        have at6 := (S6.pin (a, oe4) (List.mem_append_left _ List.mem_cons_self)).1
        have J6 : Inv X pins _ H6 s6 := S6.unsuite okX
        have J7 := track (o := ExA cls d a) J6 na s0a nL nC nP (exA_ok at6 hz4 hd4)
        exact gone_ok J7 hN hi hln fun s8 J8 => ⟨_, _, J8, yes rfl a na⟩
      | ret u =>
        obtain ⟨_, _, _, _, _, z⟩ := end6
        exact z.elim
      | brk =>
        obtain ⟨_, _, _, z⟩ := end6
        exact z.elim
      | cont =>
        obtain ⟨_, _, _, z⟩ := end6
        exact z.elim
    | false =>
      show wpAny _ X.A (handleBy (.ref a) X.env []) _ _ _
      refine wpAny_handleBy_nil ?_
      obtain ⟨k1, k2, k3, oe, vs, T, oT, ts', he, hz, hd, h1, hr⟩ := id fl3
      unfold PySem.passOn
      refine wpAny_bind (wpAny_field he hd h1 ?_)
      rw [if_neg (by simp)]
      have out : wpAny (model X.prog X.w) X.A (setFlight (.ref a) X.env.frame) (fun _ s4 => wpAny (model X.prog X.w) X.A (throw (.ref a) : Sem Flow) (SP X pins D) X.xe s4) X.xe { s' with heap := h3 } := by
        rw [hf]
        refine HandSPX.setFlight_upZ fl3 fun h4 hh4 up4 => wpAny_throw (tk _ _ ?_)
        exact ⟨a, B, sI, pins, σ1, H1, cls, d, rfl, J, ground, (up0.trans up3).trans up4, .inr (.inr (by rw [hs]; exact hh4)), na, os1, bare1, no rfl⟩
      first
        | exact wpAny_bind (wpAny_pure (wpAny_bind out))
        | exact wpAny_bind out
end

/-- isinstance(e, c), e an exception that is kept -/
def rIsX (K : PySem.W.Frag) : List V → Hp → VK → Prop := fun xs H Q => ∃ (a D : Addr) (d : Option Addr) (c : V) (u : Value) (b : Bool), xs = [.ref a, c] ∧ ExcC K D ∧ H a = some (ExA (.ref D) d a) ∧ (∀ dd, d = some dd → ∃ fs, H dd = some (.xd fs)) ∧ ClsV c u ∧ PySem.W.kitOne K (.ref D) u = some b ∧ Q (.bl b) H
theorem inst_at {X : Cx} {pins : List (Addr × Obj)} {σ : L2.St} {H : Hp} {s : Shared} {a D : Addr} {d : Option Addr} (I : Inv X pins σ H s) (ha : H a = some (ExA (.ref D) d a)) (hd : ∀ dd, d = some dd → ∃ fs, H dd = some (.xd fs)) :
    ∃ oe od, PySem.W.InstAt s.heap a oe D od := by
  obtain ⟨oe, vs, e, ⟨z1, z2⟩, f⟩ := exA_at I.hok ha
  obtain ⟨oc, odd, oda, osl⟩ := oe
  dsimp only at z1 z2 f
  subst z1 z2 f
  cases odd with
  | none => exact ⟨_, none, e, rfl, rfl, trivial⟩
  | some dd =>
    obtain ⟨fs, hfs⟩ := hd dd rfl
    obtain ⟨mA, hns, _⟩ := (show ObjOk X.prog X.w H s.heap dd (.xd fs) from I.hok dd _ hfs)
    obtain ⟨od, ho, _⟩ := lookIn_ns hns
    exact ⟨_, some od, e, rfl, rfl, ho⟩
theorem call_isX {X : Cx} : CallR X (.builtin "isinstance") (rIsX X.K) := by
  intro pins s σ H xs us Q I r h
  obtain ⟨a, D, d, c, u, b, rfl, C, ha, hd, hc, e, q⟩ := h
  obtain ⟨u1, u2, rfl, r1, r2⟩ := vals2 r
  have e2 := hc.eq r2
  subst e2
  obtain rfl : u1 = Value.ref a := r1
  obtain ⟨oe, od, J⟩ := inst_at I ha hd
  exact PySem.W.kia_one (exc_kit C) I.kIn J e (fun z => nomatch z) fun tk => ⟨.bl b, H, I.tok tk, rfl, q⟩
theorem call_or {X : Cx} {f : Value} {r1 r2 : List V → Hp → VK → Prop} (h1 : CallR X f r1) (h2 : CallR X f r2) : CallR X f (fun xs H Q => r1 xs H Q ∨ r2 xs H Q) := by
  intro pins s σ H xs us Q I r h
  rcases h with h | h
  · exact h1 pins s σ H xs us Q I r h
  · exact h2 pins s σ H xs us Q I r h
/-- e.f of an exception that is kept -/
def tXa (K : PySem.W.Frag) (f : Str) (te : TE) : TE := fun σ H Q => te σ H fun x H1 => ∃ (a D dd : Addr) (fs : List (Str × V)) (v : V), x = .ref a ∧ XfC K D ∧ PySem.W.findIn K (.ref D) f = some none ∧ H1 a = some (ExA (.ref D) (some dd) a) ∧ H1 dd = some (.xd fs) ∧ fs.lookup f = some v ∧ Q v H1
theorem pe_xa {X : Cx} {e : Expr} {te : TE} {pos : Pos} {n : Str} (he : PE X e te) (hb : attributeBase e n X.env (eval e X.env) = eval e X.env := by rfl) : PE X (.Attribute e n pos) (tXa X.K n te) := by
  refine ⟨fun pins s σ H Q I h => ?_⟩
  refine attr_of hb (thn (he.run pins s σ H _ I h) fun u s1 got => ?_)
  obtain ⟨y, H1, I1, ry, a, D, dd, fs, v, rfl, T, hno, ha, hdd, hl, q⟩ := got
  obtain rfl : u = Value.ref a := ry
  obtain ⟨oe, vs, eo, ⟨z1, z2⟩, hd⟩ := exA_at I1.hok ha
  obtain ⟨mA, hns, hr⟩ := (show ObjOk X.prog X.w H1 s1.heap dd (.xd fs) from I1.hok dd _ hdd)
  obtain ⟨od, ho, lk⟩ := lookIn_ns hns
  obtain ⟨u, hu, ru⟩ := RelO.some_of (v := v) (o := mA n) (by rw [← hl]; exact hr n)
  have J : PySem.W.InstAt s1.heap a oe D (some od) := ⟨eo, z1, by unfold PySem.W.notCls; rw [hd] <;> rfl, by rw [z2]; exact ho⟩
  exact HandSPX.exc_get I1.kIn J T.ga T.gg T.exC (PySem.W.findObj_own T.hdC hno rfl (by rw [lk, hu])) (handed_of ru) ⟨v, H1, I1.tok _, ru, q⟩
end OB
/-! Lambdas handed to a def: with no parameter, or with one that has a written int as its default. -/
namespace OB
open PySem PySem.Spec PyProof.Rows L2 LamX

section kit
open PySem.W PySem.Calls
abbrev lFn (qual : Str) (params : Arguments) (body : Expr) (scope : Scope) (cl : List (Str × Addr)) (dV pm cdv ct : Value) : FuncData :=
  { name := "<lambda>", qualname := qual, params := params, body := .expr body, scope := scope, globals := mainGlobals, closure := cl, defaults := dV, kwdefaults := .none, doc := .none, pyModule := pm, annotations := none, code := cdv, closureTuple := ct, builtins := builtinsNs }
abbrev lObj (qual : Str) (params : Arguments) (body : Expr) (scope : Scope) (cl : List (Str × Addr)) (dV pm cdv ct : Value) : Obj :=
  { cls := .type "function", data := .func (lFn qual params body scope cl dV pm cdv ct) }
variable {M : Model} {A : Around} {E : Value → Shared → Prop} {s : Shared} {qual : Str} {params : Arguments} {body : Expr} {scope : Scope} {env : Env} {c P : Addr} {ps : Array Value} {pos : Pos} {firstLine : Nat} {mg : Str → Option Value}
  {clos : List (Str × Addr)} {Q : Value → Shared → Prop} {dV : Value}
/-- a lambda's object is made: the code object comes by hcode1 -/
theorem tail_by (hcl : closureFor scope env = pure clos) (hge0 : env.globals = mainGlobals) (hg : s.heap.Ns mainGlobals mg) (hgP : mainGlobals ≠ P) (hb : s.heap.BuiltinsAt mg P)
    {G : Value → Heap → Heap → Prop}
    (hG : ∀ cv h1 h2, G cv h1 h2 → Heap.ExtBut P h1 h2 ∧ h1.objs.size ≤ h2.objs.size)
    (code : ∀ (h1 : Heap) (tk1 : Tok) (Q1 : Value → Shared → Prop), (∀ b o, s.heap.get? b = some o → h1.get? b = some o) → s.heap.objs.size ≤ h1.objs.size →
      (∀ cv h2 tk, G cv h1 h2 → Q1 cv { s with heap := h2, toks := tk }) → wpAny M A (functionCode env pos firstLine "<lambda>" qual params scope (.expr body)) Q1 E { s with heap := h1, toks := tk1 })
    (h : ∀ cv ctv h1 h2 tk, (∀ b o, s.heap.get? b = some o → h1.get? b = some o) → s.heap.objs.size ≤ h1.objs.size → G cv h1 h2 →
      Q (.ref h2.objs.size) { s with heap := h2.push (lObj qual params body scope clos dV ((mg "__name__").getD .none) cv ctv), toks := tk }) :
    wpAny M A (makeTail "<lambda>" qual params (.expr body) scope env dV .none none pos firstLine) Q E s := by
  obtain ⟨bm, ob, hbm, hne0, _, hneP, hbo, hcls, hdict, hdata⟩ := hb
  have go : ∀ (ctv : Value) (h1 : Heap) (tk1 : Tok), (∀ b o, s.heap.get? b = some o → h1.get? b = some o) → s.heap.objs.size ≤ h1.objs.size →
      wpAny M A (functionCode env pos firstLine "<lambda>" qual params scope (.expr body) >>= fun cv => builtinsFor mainGlobals env.builtins >>= fun bi => nsGet mainGlobals "__name__" >>= fun nm => pure Value.none >>= fun doc =>
        newObj (.type "function") (.func { name := "<lambda>", qualname := qual, params := params, body := .expr body, scope := scope, globals := mainGlobals, closure := clos, closureTuple := ctv, code := cv, builtins := bi, defaults := dV, kwdefaults := .none, annotations := none, pyModule := nm.getD .none, doc := doc })) Q E { s with heap := h1, toks := tk1 } := by
    intro ctv h1 tk1 k1 z1
    refine wpAny_bind (code h1 tk1 _ k1 z1 fun cv h2 tk g => ?_)
    obtain ⟨x2, z2⟩ := hG cv h1 h2 g
    have hg2 := (hg.keeps k1).extBut x2 hgP
    refine wpAny_bind (wpAny_builtinsFor hg2 hbm hne0 (x2 _ _ hneP (k1 _ _ hbo)) hcls hdict hdata ?_)
    refine wpAny_bind (wpAny_nsGet hg2 ?_)
    exact wpAny_bind (wpAny_pure (wpAny_newObj_type (h cv ctv h1 h2 tk k1 z1 g) (by size_fits)))
  unfold makeTail
  rw [hcl, hge0]
  refine wpAny_bind (wpAny_pure ?_)
  cases clos with
  | nil => exact wpAny_bind (wpAny_pure (go .none s.heap s.toks (fun _ _ e => e) (Nat.le_refl _)))
  | cons q r =>
    refine wpAny_bind (wpAny_newTextTuple ?_)
    exact go _ _ s.toks (fun b o e => Heap.get?_push_of_some _ e) (by rw [Heap.size_push]; omega)
end kit

section
variable {X : Cx} {pins : List (Addr × Obj)} {σ : L2.St} {H : Hp} {s : Shared}
/-- what stands of a lambda's defaults: none, or a tuple of ints that nobody tracks -/
def DflAt (h : Heap) (H : Hp) (fs : List Addr) (dV : Value) : List Value → Prop
  | [] => dV = .none
  | ds => ∃ (T : Addr) (o : Obj) (n : Nat), dV = .ref T ∧ h.get? T = some o ∧ o.data = .seq ds.toArray n ∧ H T = none ∧ T ∉ fs
/-- a lambda is made from makeTail on -/
theorem lam_tail {T : List (Addr × Str)} {c P : Addr} {params : Arguments} {body : Expr} {scope : Scope} {pos : Pos} {dV : Value} {ds : List Value} {E : Value → Shared → Prop} {Q : Value → Shared → Prop} (I : Inv X pins σ H s) (TB : TabB X.base X.mg c P) (hcode : X.env.code = .ref c)
    (hm : (P, X.env.qual ++ "<lambda>") ∈ T) (hu : ∀ p ∈ T, p.1 = P → p.2 = X.env.qual ++ "<lambda>") (hT : Tabs T H) (hfree : ∀ y ∈ scope.names, y.2 = .free → ∃ c, X.env.cells.lookup y.1 = some c)
    (hd : DflAt s.heap H (X.env.locals :: X.fs) dV ds)
    (h : ∀ (f c' : Addr) (pm ctv : Value) (H1 : Hp) (s' : Shared), Inv X pins σ H1 s' → ExtN H H1 → Tabs T H1 → DflAt s'.heap H1 (X.env.locals :: X.fs) dV ds →
      s'.heap.get? f = some (lObj (X.env.qual ++ "<lambda>") params body scope (cloFrom X.env.cells scope.names []) dV pm (.ref c') ctv) → H1 f = none → f ≠ X.env.locals → f ∉ X.fs → H1 c' = some (CodeO c' (X.env.qual ++ "<lambda>")) → Q (.ref f) s') :
    wpAny (model X.prog X.w) X.A (makeTail "<lambda>" (X.env.qual ++ "<lambda>") params (.expr body) scope X.env dV .none none pos pos.line) Q E s := by
  obtain ⟨ps, hP, ht, ha⟩ := hT _ hm
  have bP : s.heap.BuiltinsAt X.mg P := TB.bm.keeps I.bk
  have hP' : s.heap.get? P = some { cls := .none, data := .fields ps } := I.hok P _ hP
  have nLoc : ∀ f, s.heap.objs.size ≤ f → f ≠ X.env.locals := fun f hf z => by
    have h1 := I.lt
    rw [← z] at h1
    exact Nat.lt_irrefl _ (Nat.lt_of_lt_of_le h1 hf)
  have CH := TB.code.keeps I.bk
  have later : ∀ {h1 : Heap} {H1 : Hp}, (∀ b o, s.heap.get? b = some o → H b = none → b ≠ P → h1.get? b = some o) → (∀ b o, s.heap.get? b = some o → H b = none → H1 b = none) → DflAt h1 H1 (X.env.locals :: X.fs) dV ds := fun {h1 H1} k1 k2 => by
    cases ds with
    | nil => exact hd
    | cons d r =>
      obtain ⟨Td, o, n, e1, e2, e3, e4, e5⟩ := hd
      refine ⟨Td, o, n, e1, k1 _ _ e2 e4 (fun z => ?_), e3, k2 _ _ e2 e4, e5⟩
      rw [z, hP] at e4
      cases e4
  cases hc : codeAmong pos ps.toList with
  | none =>
    refine tail_by (mg := X.mg) (P := P) (closure_ok hfree) I.ok.glob (I.mod.glob.keeps I.bk) TB.gP bP
      (G := fun cv h1 h2 => ∃ c', cv = .ref c' ∧ Heap.ExtBut P h1 h2 ∧ h1.objs.size ≤ c' ∧ c' < h2.objs.size ∧ h2.CodeRec (.ref c') (X.env.qual ++ "<lambda>") ∧ h2.get? P = some (PySem.W.tabObj (ps ++ #[rawInt pos.line, rawInt pos.col, .ref c'])))
      (fun cv h1 h2 ⟨c', _, x, l1, l2, _⟩ => ⟨x, Nat.le_trans l1 (Nat.le_of_lt l2)⟩) (fun h1 tk1 Q1 k1 z1 q1 => ?_) (fun cv ctv h1 h2 tk k1 z1 g => ?_)
    · exact wpAny_functionCodeX hcode ((CH.keeps k1).code (k1 _ _ hP') ht) ((CH.keeps k1).tab (k1 _ _ hP')) hc fun c' h2 tk hx hge hlt _ hrec htb _ => q1 (.ref c') h2 tk ⟨c', rfl, hx, hge, hlt, hrec, htb.2⟩
    · obtain ⟨c', rfl, hx, hge, hlt, hrec, htb⟩ := g
      obtain ⟨c2, oc, vs, t, e2, hoc, hdc, hv⟩ := hrec
      cases e2
      have hge' : s.heap.objs.size ≤ c' := Nat.le_trans z1 hge
      have hsz : s.heap.objs.size ≤ h2.objs.size := Nat.le_trans hge' (Nat.le_of_lt hlt)
      have nC : H c' = none := I.hok.fresh hge'
      have I1 := inv_table (t' := tk) (more := #[rawInt pos.line, rawInt pos.col, .ref c']) (h' := h2.push (lObj (X.env.qual ++ "<lambda>") params body scope (cloFrom X.env.cells scope.names []) dV ((X.mg "__name__").getD .none) (.ref c') ctv)) I hP
        (fun b o hb e => Heap.get?_push_of_some _ (hx b o hb (k1 _ _ e))) (Heap.get?_push_of_some _ htb) hge' ⟨oc, vs, t, Heap.get?_push_of_some _ hoc, hdc, hv⟩
      have hE : ExtN H (upd (upd H P (.tbl (ps ++ #[rawInt pos.line, rawInt pos.col, .ref c']))) c' (CodeO c' (X.env.qual ++ "<lambda>"))) := fun b o e n => by
        rw [upd_ne (ne_of_none e nC), upd_ne (fun z => n ps (Option.some.inj (e.symm.trans (by rw [z]; exact hP))))]
        exact e
      have eL : (ps ++ #[rawInt pos.line, rawInt pos.col, .ref c']).toList = ps.toList ++ [rawInt pos.line, rawInt pos.col, .ref c'] := by simp
      refine h h2.objs.size c' _ ctv _ _ I1 hE (fun p hp => ?_) (later (fun b o e n hb => Heap.get?_push_of_some _ (hx b o hb (k1 _ _ e))) fun b o e n => ?_) (Heap.get?_push_size _ rfl) ?_ (nLoc _ hsz) (I.nofs hsz) upd_same
      · by_cases hb : p.1 = P
        · rw [hu p hp hb, hb]
          refine ⟨_, by rw [upd_ne (ne_of_none hP nC), upd_same], by rw [eL]; exact PySem.TriplesOk_snoc _ _ _ _ ht, fun p' cv hcv => ?_⟩
          rw [eL] at hcv
          rcases among_app _ ht hcv with z | z
          · obtain ⟨c0, e1, e2⟩ := ha p' cv z
            exact ⟨c0, e1, hE _ _ e2 codeO_ne⟩
          · exact ⟨c', z, upd_same⟩
        · obtain ⟨ps', a1, a2, a3⟩ := hT p hp
          refine ⟨ps', by rw [upd_ne (ne_of_none a1 nC), upd_ne hb]; exact a1, a2, fun p' cv hcv => ?_⟩
          obtain ⟨c0, e1, e2⟩ := a3 p' cv hcv
          exact ⟨c0, e1, hE _ _ e2 codeO_ne⟩
      · rw [upd_ne (Nat.ne_of_lt (Nat.lt_of_lt_of_le (Heap.lt_size e) hge')), upd_ne (fun z => by rw [z, hP] at n; cases n)]
        exact n
      · rw [upd_ne (Nat.ne_of_gt hlt), upd_ne (Nat.ne_of_gt (Nat.lt_of_lt_of_le (Heap.lt_size hP') hsz))]
        exact I.hok.fresh hsz
  | some cv0 =>
    obtain ⟨c', e, hco⟩ := ha pos cv0 hc
    subst e
    refine tail_by (mg := X.mg) (P := P) (closure_ok hfree) I.ok.glob (I.mod.glob.keeps I.bk) TB.gP bP
      (G := fun cv h1 h2 => cv = .ref c' ∧ h2 = h1) (fun cv h1 h2 ⟨_, e⟩ => by rw [e]; exact ⟨fun _ _ _ e => e, Nat.le_refl _⟩) (fun h1 tk1 Q1 k1 z1 q1 => ?_) (fun cv ctv h1 h2 tk k1 z1 g => ?_)
    · exact wpAny_functionCode_hit hcode ((CH.keeps k1).code (k1 _ _ hP') ht) hc (q1 (.ref c') h1 tk1 ⟨rfl, rfl⟩)
    · obtain ⟨rfl, rfl⟩ := g
      have kk : ∀ b o, s.heap.get? b = some o → (h2.push (lObj (X.env.qual ++ "<lambda>") params body scope (cloFrom X.env.cells scope.names []) dV ((X.mg "__name__").getD .none) (.ref c') ctv)).get? b = some o := fun b o e => Heap.get?_push_of_some _ (k1 _ _ e)
      exact h h2.objs.size c' _ ctv H _ (I.kept (t' := tk) kk) (ExtN.refl H) hT (later (fun b o e _ _ => kk b o e) fun _ _ _ n => n) (Heap.get?_push_size _ rfl) (I.hok.fresh z1) (nLoc _ z1) (I.nofs z1) hco
end
end OB
namespace OB
open PySem PySem.Spec PyProof.Rows L2 LamX

/-- a lambda's names: captured ones, globals, and its parameters nm, which are no names of the def around -/
structure LamN (sc scope : Scope) (N nm : List Str) : Prop where
  kind : scope.kind = .function
  co : scope.isCoroutine = false
  gen : scope.isGenerator = false
  own : ∀ y ∈ scope.names, y.2 ≠ .cell ∧ (y.2 = .local → y.1 ∉ N)
  par : ∀ x ∈ nm, scope.names.lookup x = some .local
  free : ∀ y ∈ scope.names, y.2 = .free → sc.names.lookup y.1 = some .cell ∨ sc.names.lookup y.1 = some .free
def lamNB (sc scope : Scope) (N nm : List Str) : Bool :=
  decide (scope.kind = .function) && !scope.isCoroutine && !scope.isGenerator &&
    (scope.names.all fun y => !decide (y.2 = .cell) && (!decide (y.2 = .local) || decide (y.1 ∉ N)) && (!decide (y.2 = .free) || decide (sc.names.lookup y.1 = some .cell) || decide (sc.names.lookup y.1 = some .free))) &&
    nm.all fun x => decide (scope.names.lookup x = some .local)
theorem lamN_by {sc scope : Scope} {N nm : List Str} (h : lamNB sc scope N nm = true) : LamN sc scope N nm := by
  unfold lamNB at h
  simp only [Bool.and_eq_true, Bool.or_eq_true, Bool.not_eq_true', decide_eq_true_eq, decide_eq_false_iff_not, List.all_eq_true] at h
  obtain ⟨⟨⟨⟨h1, h2⟩, h3⟩, h4⟩, h5⟩ := h
  refine ⟨h1, h2, h3, fun y hy => ⟨(h4 y hy).1.1, fun e => ?_⟩, fun x hx => h5 x hx, fun y hy e => ?_⟩
  · rcases (h4 y hy).1.2 with z | z
    · exact absurd e z
    · exact z
  · rcases (h4 y hy).2 with (z | z) | z
    · exact absurd e z
    · exact .inl z
    · exact .inr z
theorem LamN.has {X : Cx} {scope : Scope} {N nm : List Str} (L : LamN X.env.scope scope N nm) (ok : X.Ok) : ∀ y ∈ scope.names, y.2 = .free → ∃ c, X.env.cells.lookup y.1 = some c := fun y hy e => by
  rcases L.free y hy e with k | k
  · exact ok.has _ (.inl k)
  · exact ok.has _ (.inr k)
section
variable {X : Cx} {pins : List (Addr × Obj)} {σ : L2.St} {H HZ : Hp} {s s1 : Shared}
theorem lam_start {A : Around} {outer : List Env} {E : XK} {scope : Scope} {f c' : Addr} {h₁ : Heap} {tk : Nat} {nm : List Str} {m1 : Str → Option Value} (I : Inv X pins σ H s) (L : LamN X.env.scope scope X.N nm) (e0 : Env0 X.prog X.w X.K X.mg X.base A outer s1 HZ) (hd : A.handled = none)
    (un : Un (frs X.stack) [] H HZ s.heap s1.heap) (hns : h₁.Ns s1.heap.objs.size m1) (kp : ∀ b o, s1.heap.get? b = some o → h₁.get? b = some o) :
    Inv (lamCx X A outer s1 HZ E scope f c') [] σ HZ { s1 with heap := h₁, toks := tk } := by
  have hfree := L.has I.ok
  have up : ∀ {y c}, (cloFrom X.env.cells scope.names []).lookup y = some c → X.env.cells.lookup y = some c := fun {y c} e => by
    rcases cloFrom_mem (PySem.mem_of_lookup e) with hm | ⟨h1, h2⟩
    · cases hm
    · obtain ⟨c1, hc⟩ := hfree _ h1 rfl
      have hc : X.env.cells.lookup y = some c1 := hc
      rw [hc] at h2
      have h3 : c = c1 := h2
      rw [h3]
      exact hc
  have down : ∀ {y}, scope.names.lookup y = some .free → ∃ c, (cloFrom X.env.cells scope.names []).lookup y = some c := fun {y} hl =>
    mem_lookup (cloFrom_has (cells := X.env.cells) (acc := []) (PySem.mem_of_lookup hl))
  have cellK : ∀ {c : Addr} {v : Option Value}, H c = none → s.heap.IsCell c v → h₁.IsCell c v := fun {c v} n ⟨o, ho, hd⟩ => by
    obtain ⟨sl, q⟩ := un.any ho n (by simp)
    exact ⟨_, kp _ _ q, hd⟩
  have noX : ∀ b : Addr, b ∉ (lamCx X A outer s1 HZ E scope f c').ex := fun b z => absurd (show b ∈ ([] : List Addr) from z) (by simp)
  refine ⟨⟨e0.mod, L.kind, rfl, rfl, Nat.le_refl _, fun y z c e1 e2 => I.ok.inj y z c (up e1) (up e2), fun y hy => ?_, fun y c z _ => ?_, fun _ => hd, Around.frames_deeper e0.frames, .inr ⟨rfl, rfl⟩, fun b z => absurd z (noX b), e0.bs, e0.bsz, fun b _ _ => noX b,
      fun b z => absurd z (noX b), e0.funs, e0.frf⟩,
    rfl, e0.bare, Un.kept kp, ⟨_, hns, fun i y v e1 e2 e3 => ?_⟩, fun y c e => ?_, e0.hok.fresh (Nat.le_refl _), fun y c e => ?_, fun q hq => absurd (show q ∈ ([] : List (Addr × Obj)) ++ [] from hq) (by simp), e0.hok.kept kp, I.len⟩
  · have hy : scope.names.lookup y = some .cell ∨ scope.names.lookup y = some .free := hy
    rcases hy with hy | hy
    · exact absurd rfl (L.own _ (PySem.mem_of_lookup hy)).1
    · exact down hy
  · have z : false = true := z
    cases z
  · have e3 : Vis scope y := e3
    have e1 : X.N[i]? = some y := e1
    rcases e3 with k | k | k
    · exact absurd (List.mem_of_getElem? e1) ((L.own _ (PySem.mem_of_lookup k)).2 rfl)
    · exact absurd rfl (L.own _ (PySem.mem_of_lookup k)).1
    · obtain ⟨m, hn, hl⟩ := I.loc
      have vis : Vis X.env.scope y := (L.free _ (PySem.mem_of_lookup k) rfl).elim (fun k => .inr (.inl k)) (fun k => .inr (.inr k))
      obtain ⟨w', r, q⟩ := hl i y v e1 e2 vis
      obtain ⟨c2, h2⟩ := down k
      refine ⟨w', r, .inr ⟨.inr k, c2, h2, ?_⟩⟩
      have c1 := up h2
      rcases q with ⟨k', _⟩ | ⟨_, c3, e', z⟩
      · have k' : X.env.scope.names.lookup y = some .local := k'
        rcases L.free _ (PySem.mem_of_lookup k) rfl with k2 | k2 <;> rw [show X.env.scope.names.lookup y = _ from k2] at k' <;> cases k'
      · rw [c1] at e'
        cases e'
        exact cellK (I.freeC y _ c1) z
  · obtain ⟨w', z⟩ := I.cell y c (up e)
    exact ⟨w', cellK (I.freeC y c (up e)) z⟩
  · obtain ⟨v, o, ho, hd⟩ := I.cell y c (up e)
    exact un.free c o ho (I.freeC y c (up e)) (by simp)
/-- how a lambda called with nothing binds its parameters nm to their defaults ds -/
def LamB (params : Arguments) (nm : List Str) (ds : List Value) : Prop :=
  ∀ (q : Str) (body : Expr) (scope : Scope) (cl : List (Str × Addr)) (dV pm cv ctv : Value) (M : Model) (A : Around) (E : Value → Shared → Prop) (s : Shared) (H : Hp) (fs : List Addr) (Q : List (Str × Value) → Shared → Prop),
    DflAt s.heap H fs dV ds → Q (nm.zip ds) s → wpAny M A (bindArgs (lFn q params body scope cl dV pm cv ctv) ⟨[], []⟩) Q E s
theorem lamB0 {params : Arguments} (h : ∀ (q : Str) (body : Expr) (scope : Scope) (cl : List (Str × Addr)) (pm cv ctv : Value), bindArgs (lFn q params body scope cl .none pm cv ctv) ⟨[], []⟩ = pure []) : LamB params [] [] :=
  fun q body scope cl dV pm cv ctv M A E s H fs Q hd hq => by
    have hd : dV = .none := hd
    rw [hd, h]
    exact wpAny_pure hq
theorem lamB1 {params : Arguments} {a : Str} {d : Value} (h : ∀ (q : Str) (body : Expr) (scope : Scope) (cl : List (Str × Addr)) (T : Addr) (pm cv ctv : Value), ∃ k, bindArgs (lFn q params body scope cl (.ref T) pm cv ctv) ⟨[], []⟩ = seqItems? (.ref T) >>= k ∧ k (some #[d]) = pure [(a, d)]) : LamB params [a] [d] :=
  fun q body scope cl dV pm cv ctv M A E s H fs Q hd hq => by
    obtain ⟨T, o, n, rfl, e2, e3, _⟩ := hd
    obtain ⟨k, e, ek⟩ := h q body scope cl T pm cv ctv
    rw [e]
    refine wpAny_bind (wpAny_seqItems e2 e3 ?_)
    rw [show (some [d].toArray : Option (Array Value)) = some #[d] from rfl, ek]
    exact wpAny_pure hq
/-- x(), in the def that got the lambda: Z is that def's context, entered at s -/
theorem pe_act {CXg : CXT} {Eg : XK} {Ng : List Str} {qg : Str} {sg : Scope} {g f c' : Addr} {cdg pm ctv dV : Value} {ds : List Value} {nm : List Str} {params : Arguments} {body : Expr} {scope : Scope} {k i : Nat} {a : Str} {pn : List (Addr × Obj)} {xe : Value → Shared → Prop} {W : WX} {tb : XK → TE} {p1 p2 : Pos}
    (I : Inv X pins σ H s) (L : LamN X.env.scope scope X.N nm) (hf : s.heap.get? f = some (lObj (X.env.qual ++ "<lambda>") params body scope (cloFrom X.env.cells scope.names []) dV pm (.ref c') ctv)) (hfn : H f = none) (hfr : f ∉ X.env.locals :: X.fs)
    (hbind : LamB params nm ds) (hds : DflAt s.heap H (X.env.locals :: X.fs) dV ds)
    (tk : Takes ((cxOf CXg X.prog X.w X.K X.mg X.base Ng qg sg g cdg X.A X.stack s H Eg).tr pn xe) W) (hr : Room (k + 1) (X.A.deeper (envOfC qg sg s.heap.objs.size g cdg)))
    (hbody : ∀ (A : Around) (outer : List Env) (s : Shared) (H : Hp) (E : XK), Room k (A.deeper (lamEnv X scope s.heap.objs.size f c')) → PE (lamCx X A outer s H E scope f c') body (tb E))
    (hN : Ng[i]? = some a) (hv : Vis sg a) (hd : (a == ("__debug__" : Str)) = false := by decide) (hcd : (a == ("__classdict__" : Str)) = false := by decide) :
    PE ((cxOf CXg X.prog X.w X.K X.mg X.base Ng qg sg g cdg X.A X.stack s H Eg).tr pn xe) (.Call (.Name a p1) [] [] p2)
      (fun σZ HZ Q => σZ[i]? = some (some (.ref f)) ∧ HZ c' = some (CodeO c' (X.env.qual ++ "<lambda>")) ∧ tb (fun cls d H' => W cls d σZ H') σ HZ Q) := by
  have nst : ∀ {b : Addr}, b ∉ X.env.locals :: X.fs → b ∉ frs X.stack := fun {b} h z => h (I.stkSub b z)
  refine ⟨fun pinsZ sZ σZ HZ Q IZ h => ?_⟩
  obtain ⟨hs, hc, ht⟩ := h
  refine wpAny_Call_Name_kw (thn ((pe_var (pos := p1) (i := i) hN hv hd hcd).run pinsZ sZ σZ HZ (fun v H1 => v = .ref f ∧ H1 = HZ) IZ ⟨.ref f, hs, rfl, rfl⟩) fun u s1 ⟨v, H1, I1, r1, q1⟩ => ?_)
  obtain ⟨ev, eH⟩ := q1
  subst ev
  rw [eH] at I1
  obtain rfl : u = Value.ref f := r1
  have keep1 : ∀ {b : Addr} {o : Obj}, s.heap.get? b = some o → H b = none → b ∉ X.env.locals :: X.fs → s1.heap.get? b = some o ∧ HZ b = none := fun {b o} e n nf =>
    ⟨I1.base.keep b _ e n (nst nf) (fun z => nomatch (show b ∈ ([] : List Addr) from z)), I1.base.free b _ e n (fun z => nomatch (show b ∈ ([] : List Addr) from z))⟩
  have of1 := (keep1 hf hfn hfr).1
  have ds1 : DflAt s1.heap HZ (X.env.locals :: X.fs) dV ds := by
    cases ds with
    | nil => exact hds
    | cons d r =>
      obtain ⟨T, o, n, e1, e2, e3, e4, e5⟩ := hds
      exact ⟨T, o, n, e1, (keep1 e2 e4 e5).1, e3, (keep1 e2 e4 e5).2, e5⟩
  refine PySem.W.callWith_F0 ⟨_, _, _, _, of1⟩ ?_
  have un : Un (frs X.stack) [] H HZ s.heap s1.heap := I1.base
  obtain ⟨⟨oc, vs, t, hoc, hdc, hvc⟩, _, _⟩ := I1.hok c' _ hc
  have rc : codeAny (model X.prog X.w) (X.A.deeper (envOfC qg sg s.heap.objs.size g cdg)) (.call (.ref f) ⟨[], []⟩) (CR (L2.CX X.prog X.w) (envOfC qg sg s.heap.objs.size g cdg :: X.stack) X.prog X.w HZ s1 Q fun cls d H' => W cls d σZ H') s1 := by
    refine PySem.W.kla_callFunE hr.depth of1 rfl L.co L.gen rfl ⟨c', oc, vs, t, rfl, hoc, hdc, hvc⟩ ?_
    refine hbind _ _ _ _ _ _ _ _ _ _ _ s1 HZ _ _ ds1 ?_
    refine wpAny_newFunctionEnv (fun y hy => (L.own y hy).1) (fun y hy => L.par _ (List.of_mem_zip (by simpa using hy)).1) (fun h₁ hns hsb => ⟨I1.nolimit.fresh _ hsb, ?_⟩) L.kind
    show codeAny _ _ (.expr body (lamEnv X scope s1.heap.objs.size f c')) _ _
    have kp : ∀ b o, s1.heap.get? b = some o → h₁.get? b = some o := fun b o e => hsb.extBut b o (Nat.ne_of_lt (Heap.lt_size e)) (Heap.get?_push_of_some _ e)
    have J : Inv (lamCx X (X.A.deeper (envOfC qg sg s.heap.objs.size g cdg)) (envOfC qg sg s.heap.objs.size g cdg :: X.stack) s1 HZ (fun cls d H' => W cls d σZ H') scope f c') [] σ HZ { s1 with heap := h₁, toks := s1.toks + (nm.zip ds).length } :=
      lam_start I L I1.env0 hr.hd un hns kp
    refine PySem.W.kla_codeExpr (wpAny_mono ((hbody _ _ s1 HZ _ (hr.deeper _)).run [] _ _ HZ Q J ht) (fun v s' hq => ?_) fun e s' hq => hq)
    obtain ⟨w', H', J', rv, q⟩ := hq
    exact ⟨w', H', J'.os, J'.bare, J'.base, J'.hok, rv, q⟩
  refine wpAny_call (codeAny_mono rc fun r s' hq => ?_)
  cases r with
  | error e => exact tk e s' (XE.of_call I1 (fun _ _ _ h => h) hq)
  | ok fl =>
    cases fl with
    | ret u => exact I1.after hq
    | next => exact False.elim hq
    | brk => exact False.elim hq
    | cont => exact False.elim hq
end
/-- a reading that grows with what is wanted -/
def MonoL (tl : XK → Hp → VK → Prop) : Prop := ∀ (E1 E2 : XK) (H : Hp) (Q1 Q2 : VK), (∀ c d H', E1 c d H' → E2 c d H') → (∀ v H', Q1 v H' → Q2 v H') → tl E1 H Q1 → tl E2 H Q2
/-- the def that calls what it got, beside other values vs; TT: what it makes of the lambda's reading -/
def Gives (X : Cx) (Ng : List Str) (x : Str) (sg : Scope) (g : Addr) (cdg : Value) (bg : List Stmt) (a : Str) (q : Str) (k : Nat) (TT : List V → (XK → Hp → VK → Prop) → Hp → VK → Prop) : Prop :=
  ∀ (f c' : Addr) (vs : List V) (s : Shared) (H : Hp) (Q : VK) (tl : XK → Hp → VK → Prop), Room k (X.A.deeper (envOfC x sg s.heap.objs.size g cdg)) →
    (∀ (W : WX) (pn : List (Addr × Obj)) (xe : Value → Shared → Prop) (p1 p2 : Pos), Takes ((cxOf L2.CX0 X.prog X.w X.K X.mg X.base Ng x sg g cdg X.A X.stack s H fun _ _ _ => False).tr pn xe) W →
      PE ((cxOf L2.CX0 X.prog X.w X.K X.mg X.base Ng x sg g cdg X.A X.stack s H fun _ _ _ => False).tr pn xe) (.Call (.Name a p1) [] [] p2) (fun σZ HZ Q => σZ[0]? = some (some (.ref f)) ∧ HZ c' = some (CodeO c' q) ∧ tl (fun cls d H' => W cls d σZ H') HZ Q)) →
    H c' = some (CodeO c' q) → MonoL tl → TT vs tl H Q →
    ∃ t, PSs (cxOf L2.CX0 X.prog X.w X.K X.mg X.base Ng x sg g cdg X.A X.stack s H fun _ _ _ => False).nox bg t ∧ t { nx := fun _ H' => Q .non H', rt := Q } (L2.start Ng (.ref f :: vs)) H
def tLam2 (T : List (Addr × Str)) (vs : List V) (TT : List V → (XK → Hp → VK → Prop) → Hp → VK → Prop) (t : XK → TE) : TE := fun σ H Q => Tabs T H ∧ ∀ H1, ExtN H H1 → Tabs T H1 → TT vs (fun E H' Q' => t E σ H' Q') H1 Q
section
variable {X : Cx}
/-- x(lambda: body, rest ..), rest written constants -/
theorem pe_lam {T : List (Addr × Str)} {vs : List V} {TT : List V → (XK → Hp → VK → Prop) → Hp → VK → Prop} {x a : Str} {g c P : Addr} {k : Nat} {pg : Arguments} {bg : List Stmt} {sg : Scope} {dV kV doc pm cdv ct oc : Value} {an od : Option Addr} {osl : Array (Option Value)} {Ng ps nm : List Str}
    {params : Arguments} {body : Expr} {rest : List Expr} {tr : TA} {dts : List Int} {scope : Scope} {t : XK → TE} {p lpos pos : Pos} (hg : Gl X x) (hm : X.mg x = some (.ref g)) (hk : PySem.W.keepIn X.K (.ref g) = true)
    (lk : X.K.lookup g = some ⟨oc, od, .func (PySem.W.fnOf x x pg bg sg dV kV doc pm an cdv ct), osl⟩) (hcg : PySem.W.codeIn X.K cdv x = true) (hb : L2.Binds X.K (PySem.W.fnOf x x pg bg sg dV kV doc pm an cdv ct) (a :: ps) []) (Sg : FnScope Ng (a :: ps) sg) (hNg : Ng[0]? = some a) (hva : Vis sg a)
    (hG : Gives X Ng x sg g cdv bg a (X.env.qual ++ "<lambda>") (k + 1) TT)
    (TB : TabB X.base X.mg c P) (hcode : X.env.code = .ref c) (hmT : (P, X.env.qual ++ "<lambda>") ∈ T) (hu : ∀ p ∈ T, p.1 = P → p.2 = X.env.qual ++ "<lambda>") (hr : Room (k + 2) X.A) (L : LamN X.env.scope scope X.N nm)
    (hdef : (dts = [] ∧ defaultsOf params X.env = ([], [])) ∨ ∃ n j dp, dts = [n] ∧ defaultsOf params X.env = ([eval (.Constant (.int n) j dp) X.env], []))
    (hbind : ∀ ds : List Value, Vals (dts.map V.int) ds → LamB params nm ds)
    (hmono : ∀ σ : L2.St, MonoL fun E H' Q' => t E σ H' Q') (hrest : PA X rest tr) (htr : ∀ σ H Q, tr σ H Q = Q vs H) (hvl : vs.length = ps.length)
    (hbody : ∀ (A : Around) (outer : List Env) (s : Shared) (H : Hp) (E : XK) (f c' : Addr), Room k (A.deeper (lamEnv X scope s.heap.objs.size f c')) → PE (lamCx X A outer s H E scope f c') body (t E))
    (he : starEach (.Lambda params body scope lpos :: rest) X.env = (false, eval (.Lambda params body scope lpos) X.env) :: starEach rest X.env := by rfl) (hpl : (backTo pos (starEach rest X.env)).any (·.1) = false := by rfl)
    (hdb : (x == ("__debug__" : Str)) = false := by decide) (hd : (a == ("__debug__" : Str)) = false := by decide) (hcd : (a == ("__classdict__" : Str)) = false := by decide) :
    PE X (.Call (.Name x p) (.Lambda params body scope lpos :: rest) [] pos) (tLam2 T vs TT t) := by
  refine ⟨fun pins s σ H Q I h => ?_⟩
  obtain ⟨hT, h⟩ := h
  refine wpAny_Call_Name_kw (ld_glob I hg hm ?_ hdb)
  refine PySem.W.callWith_K (h₀ := X.base) I.ok.mod.kin hk ?_ he hpl
  rw [he]
  show wpAny _ _ (spliced ((false, eval (.Lambda params body scope lpos) X.env) :: backTo pos (starEach rest X.env))) _ _ s
  -- from the making of the object on
  have go : ∀ (s0 : Shared) (dV : Value) (ds : List Value), Inv X pins σ H s0 → Vals (dts.map V.int) ds → DflAt s0.heap H (X.env.locals :: X.fs) dV ds →
      wpAny (model X.prog X.w) X.A (PySem.makeTail "<lambda>" (X.env.qual ++ "<lambda>") params (.expr body) scope X.env dV .none none lpos lpos.line)
        (fun u s1 => wpAny (model X.prog X.w) X.A (spliced (backTo pos (starEach rest X.env))) (fun us s2 => X.K.In s2.heap ∧ wpAny (model X.prog X.w) X.A (call (.ref g) ([] ++ u :: us)) (EP X pins σ Q) X.xe s2) X.xe s1) X.xe s0 := by
    intro s0 dV ds I0 rd hd0
    refine lam_tail I0 TB hcode hmT hu hT (L.has I0.ok) hd0 fun f c' pm' ctv H1 s' I1 eN T1 hd1 hf hfn hfL hfF hco => ?_
    obtain ⟨pl, hpl1, hpl2⟩ : ∃ pl : List (Addr × Obj), (∀ p ∈ pl, s'.heap.get? p.1 = some p.2 ∧ H1 p.1 = none ∧ p.1 ≠ X.env.locals ∧ p.1 ∉ X.fs ∧ ∀ v, p.2.data ≠ .cell v) ∧ (∀ h2 : Heap, (∀ p ∈ pl, h2.get? p.1 = some p.2) → DflAt h2 H1 (X.env.locals :: X.fs) dV ds) := by
      cases ds with
      | nil => exact ⟨[], (fun p hp => nomatch hp), fun _ _ => hd1⟩
      | cons d r =>
        obtain ⟨Td, o, n, e1, e2, e3, e4, e5⟩ := hd1
        refine ⟨[(Td, o)], fun p hp => ?_, fun h2 k => ⟨Td, o, n, e1, k _ List.mem_cons_self, e3, e4, e5⟩⟩
        obtain rfl : p = (Td, o) := by simpa using hp
        exact ⟨e2, e4, fun z => e5 (by rw [show Td = X.env.locals from z]; exact List.mem_cons_self), fun z => e5 (List.mem_cons_of_mem _ z), fun v z => by
          have z' : o.data = .cell v := z
          rw [e3] at z'
          cases z'⟩
    have J : Inv X (pins ++ ((f, _) :: pl)) σ H1 s' := I1.pins_of (pins' := pins ++ ((f, lObj (X.env.qual ++ "<lambda>") params body scope (cloFrom X.env.cells scope.names []) dV pm' (.ref c') ctv) :: pl)) fun p hp => by
      rcases List.mem_append.mp hp with hp | hp
      · exact I1.pin p (List.mem_append_right _ hp)
      · rcases List.mem_cons.mp hp with e | hp
        · rw [e]
          exact ⟨hf, hfn, hfL, hfF, fun v z => nomatch z⟩
        · exact hpl1 p hp
    refine thn (hrest.run pos _ s' σ H1 (fun vs' H' => vs' = vs ∧ H' = H1) J (by rw [htr]; exact ⟨rfl, rfl⟩)) fun us s2 ⟨vs', H2, I2, r2, e1, e2⟩ => ?_
    subst e1
    rw [e2] at I2
    have hf2 := (I2.pin (f, _) (List.mem_append_right _ (List.mem_append_right _ List.mem_cons_self))).1
    have hd2 : DflAt s2.heap H1 (X.env.locals :: X.fs) dV ds := hpl2 _ fun p hp => (I2.pin p (List.mem_append_right _ (List.mem_append_right _ (List.mem_cons_of_mem _ hp)))).1
    have I3 : Inv X pins σ H1 s2 := I2.unpinned
    refine ⟨I3.kIn, ?_⟩
    have rv : Vals (V.ref f :: vs') (Value.ref f :: us) := .cons rfl r2
    have hlen : (Value.ref f :: us).length = (a :: ps).length := by
      rw [← rv.length, List.length_cons, List.length_cons, hvl]
    have rc : codeAny (model X.prog X.w) X.A (.call (.ref g) ⟨.ref f :: us, []⟩) (CR L2.CX0 X.stack X.prog X.w H1 s2 Q fun _ _ _ => False) s2 := by
      refine run_ofS (N := Ng) (ps := a :: ps) (us := .ref f :: us) (vs := .ref f :: vs') lk hcg Sg hr I3.env0 (by have z := hb s2 (Value.ref f :: us) I3.kIn (by rw [List.append_nil]; exact hlen); rw [List.append_nil] at z; exact z) rv (by rw [List.length_cons, List.length_cons, hvl]) fun hr' => ?_
      obtain ⟨t', ht', hq'⟩ := hG f c' vs' s2 H1 Q (fun E H' Q' => t E σ H' Q') hr' (fun W pn xe p1 p2 tk => pe_act (i := 0) I3 L hf2 hfn (fun z => (List.mem_cons.mp z).elim hfL hfF) (hbind ds rd) hd2 tk hr' (fun A outer s H E hr2 => hbody A outer s H E f c' hr2) hNg hva hd hcd) hco (hmono σ) (h H1 eN T1)
      exact ⟨t', ht'.nox, hq'⟩
    refine wpAny_call (codeAny_mono rc fun r s3 hq => ?_)
    cases r with
    | error e => exact (show False from hq).elim
    | ok fl =>
      cases fl with
      | ret u => exact I3.after hq
      | next => exact False.elim hq
      | brk => exact False.elim hq
      | cont => exact False.elim hq
  refine Calls.spliced_cons ?_
  rw [PySem.arm_eval_Lambda]
  rcases hdef with ⟨rfl, hdef⟩ | ⟨n, j, dp, rfl, hdef⟩
  · rw [hdef]
    refine wpAny_bind (wpAny_pure (wpAny_bind (wpAny_holding (wpAny_pure ?_))))
    rw [PySem.makeFunction_eq]
    simp only [List.zip_nil_right, List.filterMap_nil, List.isEmpty_nil, if_true, pure_bind]
    exact go s .none [] I .nil rfl
  · rw [hdef]
    refine wpAny_bind (m := evalAll [eval (.Constant (.int n) j dp) X.env]) ?_
    unfold evalAll evalAll
    refine wpAny_bind (thn ((pe_int (X := X) (i := n) (j := j) (pos := dp)).run pins s σ H (fun v H' => v = .int n ∧ H' = H) I ⟨rfl, rfl⟩) fun u s1 ⟨v, H1, I1, r1, e1, e2⟩ => ?_)
    subst e1
    rw [e2] at I1
    refine wpAny_bind (wpAny_holding (wpAny_pure (wpAny_pure ?_)))
    refine wpAny_bind (wpAny_holding (wpAny_pure ?_))
    rw [PySem.makeFunction_eq]
    simp only [List.zip_nil_right, List.filterMap_nil, List.isEmpty_nil, List.isEmpty_cons, Bool.false_eq_true, if_true, if_false, pure_bind]
    refine wpAny_bind (wpAny_newTextTuple ?_)
    have sz : s1.heap.objs.size ≤ s1.heap.objs.size := Nat.le_refl _
    refine go _ (.ref s1.heap.objs.size) [u] (I1.kept (t' := s1.toks) fun b o e => Heap.get?_push_of_some _ e) (.cons r1 .nil) ⟨_, _, _, rfl, Heap.get?_push_size _ rfl, rfl, I1.hok.fresh sz, fun z => ?_⟩
    rcases List.mem_cons.mp z with z | z
    · exact Nat.lt_irrefl _ (show s1.heap.objs.size < s1.heap.objs.size by
        have q := I1.lt
        rw [← z] at q
        exact q)
    · exact I1.nofs sz z
end
end OB
/-! What a law draws from: a list of a list of ints, how many draws were made, what is left of a great one. -/
namespace OB
open PySem PySem.Spec PyProof.Rows L2
/-- the lot stands at p, its ints at b; at most n draws were made -/
def Orch (H : Hp) (p b : Addr) (n : Nat) : Prop := ∃ (ns : List Int) (t l : Int), H p = some (.lst [.ref b, .int t, .int l]) ∧ H b = some (.lst (ns.map V.int)) ∧ 0 ≤ t ∧ t ≤ n
theorem Orch.ne {H : Hp} {p b : Addr} {n : Nat} (o : Orch H p b n) : p ≠ b := by
  obtain ⟨ns, t, l, h1, h2, _⟩ := o
  refine ne_of h1 h2 fun z => ?_
  injection z with z
  cases ns with
  | nil => cases z
  | cons a r =>
    injection z with z _
    cases z
theorem Orch.keep {H H' : Hp} {p b : Addr} {n : Nat} (o : Orch H p b n) (hp : ∀ u, H p = some u → H' p = some u) (hb : ∀ u, H b = some u → H' b = some u) : Orch H' p b n := by
  obtain ⟨ns, t, l, h1, h2, h3⟩ := o
  exact ⟨ns, t, l, hp _ h1, hb _ h2, h3⟩
theorem Orch.same {H H' : Hp} {p b : Addr} {n : Nat} (o : Orch H p b n) (s : Same H H') : Orch H' p b n := o.keep (fun u => s p u) fun u => s b u
theorem Orch.mono {H : Hp} {p b : Addr} {n m : Nat} (o : Orch H p b n) (h : n ≤ m) : Orch H p b m := by
  obtain ⟨ns, t, l, h1, h2, h3, h4⟩ := o
  exact ⟨ns, t, l, h1, h2, h3, by omega⟩
theorem Orch.pn {H : Hp} {p b : Addr} {n : Nat} (o : Orch H p b n) : ∃ u, H p = some u := by
  obtain ⟨ns, t, l, h1, h2, h3, h4⟩ := o
  exact ⟨_, h1⟩
theorem Orch.bn {H : Hp} {p b : Addr} {n : Nat} (o : Orch H p b n) : ∃ u, H b = some u := by
  obtain ⟨ns, t, l, h1, h2, h3, h4⟩ := o
  exact ⟨_, h2⟩
/-- all that was tracked is as it was, but what stands at p -/
def But (p : Addr) (H H' : Hp) : Prop := ∀ q o, H q = some o → q ≠ p → H' q = some o
theorem But.refl {p : Addr} {H : Hp} : But p H H := fun _ _ h _ => h
theorem But.of {p : Addr} {H H' : Hp} (s : Same H H') : But p H H' := fun q o h _ => s q o h
theorem But.trans {p : Addr} {H H1 H2 : Hp} (a : But p H H1) (b : But p H1 H2) : But p H H2 := fun q o h n => b q o (a q o h n) n
theorem same_new {H : Hp} {l : Addr} {o : HO} (h : H l = none) : Same H (upd H l o) := fun b u e => by
  rw [upd_ne (ne_of_none e h)]
  exact e
theorem but_at {H : Hp} {p : Addr} {o : HO} : But p H (upd H p o) := fun q u e n => by
  rw [upd_ne n]
  exact e
/-- a draw from many: some number below many; the lot goes on -/
def spDraw : Sp := fun vs H Q _ => ∃ (p b : Addr) (n : Nat) (many : Int), vs = [.ref p, .int many] ∧ Orch H p b n ∧ n < 1000000 ∧ 0 < many ∧ many.natAbs < 2 ^ 9000 ∧
  ∀ (r : Int) (H' : Hp), 0 ≤ r → r < many → Orch H' p b (n + 1) → But p H H' → Q (.int r) H'
/-- the lot is made of a list of ints -/
def spLot (K : PySem.W.Frag) : Sp := fun vs H Q _ => ∃ (a : Addr) (ns : List Int), vs = [.ref a] ∧ SqL K H a (ns.map V.int) ∧ ns.length ≤ 63 ∧
  ∀ (p b : Addr) (H' : Hp), H p = none → H b = none → Orch H' p b 0 → Same H H' → Q (.ref p) H'
theorem mix1 {x t A B m : Int} (hm : 0 < m) (hm2 : m < 2 ^ 31) (ht : 0 ≤ t) (ht2 : t ≤ 1000000) (hA : 0 ≤ A) (hA2 : A ≤ 1000000) (hB : 0 ≤ B) (hB2 : B ≤ 1000000) : (x % m + A * t + B).natAbs < 2 ^ 64 := by
  have h1 := Int.emod_nonneg x (by omega : m ≠ 0)
  have h2 := Int.emod_lt_of_pos x hm
  have h3 : A * t ≤ 1000000 * 1000000 := Int.mul_le_mul hA2 ht2 ht (by decide)
  have h4 : 0 ≤ A * t := Int.mul_nonneg hA ht
  omega
theorem mix2 {x t A B C m : Int} (hm : 0 < m) (hm2 : m < 2 ^ 31) (ht : 0 ≤ t) (ht2 : t ≤ 1000000) (hA : 0 ≤ A) (hA2 : A ≤ 1000000) (hB : 0 ≤ B) (hB2 : B ≤ 1000000) (hC : 0 ≤ C) (hC2 : C ≤ 1000000) : (x % m * (2 * t + C) + A * t * t + B).natAbs < 2 ^ 64 := by
  have h1 := Int.emod_nonneg x (by omega : m ≠ 0)
  have h2 := Int.emod_lt_of_pos x hm
  have h3 : A * t ≤ 1000000 * 1000000 := Int.mul_le_mul hA2 ht2 ht (by decide)
  have h4 : 0 ≤ A * t := Int.mul_nonneg hA ht
  have h5 : A * t * t ≤ 1000000 * 1000000 * 1000000 := Int.mul_le_mul h3 ht2 ht (by decide)
  have h6 : 0 ≤ A * t * t := Int.mul_nonneg h4 ht
  have h7 : x % m * (2 * t + C) ≤ 2 ^ 31 * 3000000 := Int.mul_le_mul (by omega) (by omega) (by omega) (by decide)
  have h8 : 0 ≤ x % m * (2 * t + C) := Int.mul_nonneg h1 (by omega)
  omega
theorem mod_lim {x m : Int} (hm : 0 < m) (hm2 : m < 2 ^ 31) : -(2 ^ 64) < x % m ∧ x % m < 2 ^ 64 := by
  have h1 := Int.emod_nonneg x (by omega : m ≠ 0)
  have h2 := Int.emod_lt_of_pos x hm
  omega
theorem dp_ints {K : PySem.W.Frag} {H : Hp} : ∀ ns : List Int, DpAll K H (ns.map V.int) (ns.map PyData.int)
  | [] => .nil
  | n :: r => .cons (.int n) (dp_ints r)
theorem lay_ints : ∀ ns : List Int, PyData.canLayAll0 (ns.map PyData.int) = true
  | [] => by simp [PyData.canLayAll0]
  | n :: r => by simp [PyData.canLayAll0, PyData.canLay0, lay_ints r]
theorem deep_ints : ∀ ns : List Int, PyData.depthAll (ns.map PyData.int) ≤ 1
  | [] => by simp [PyData.depthAll]
  | n :: r => by
    have h := deep_ints r
    simp [PyData.depthAll, PyData.depth]
    omega
theorem shaped_ints (ns : List Int) : SeqAt.shaped (.list (ns.map PyData.int)) = true := by
  have h := deep_ints ns
  unfold SeqAt.shaped
  rw [Bool.and_eq_true]
  refine ⟨by simp [PyData.canLay0, lay_ints], decide_eq_true ?_⟩
  simp [PyData.depth]
  omega
theorem eqv_nil (ns : List Int) : PyData.eqv (.list (ns.map PyData.int)) (.list []) = decide (ns = []) := by
  cases ns with
  | nil => simp [PyData.eqv, PyData.eqvAll]
  | cons n r => simp [PyData.eqv, PyData.eqvAll]

/-! ### kinds of values: is it an integer -/
/-- x is of a kind of which isinstance(x, int) and not isinstance(x, bool) is b -/
def IsI (K : PySem.W.Frag) (H : Hp) (x : V) (b : Bool) : Prop := ∃ (n : String) (b1 b2 : Bool), TyX K H x (.type n) ∧ kitB n "int" = some b1 ∧ kitB n "bool" = some b2 ∧ b = (b1 && !b2)
section
variable {K : PySem.W.Frag} {H : Hp}
theorem isI_int (i : Int) : IsI K H (.int i) true := ⟨"int", true, false, .base (.int i), by decide +kernel, by decide +kernel, rfl⟩
theorem isI_non : IsI K H .non false := ⟨"NoneType", false, false, .base .non, by decide +kernel, by decide +kernel, rfl⟩
theorem isI_bl (b : Bool) : IsI K H (.bl b) false := ⟨"bool", true, true, .base (.bl b), by decide +kernel, by decide +kernel, rfl⟩
theorem isI_str (x : Str) : IsI K H (.str x) false := ⟨"str", false, false, .base (.str x), by decide +kernel, by decide +kernel, rfl⟩
theorem isI_lst {a : Addr} {xs : List V} (e : H a = some (.lst xs)) : IsI K H (.ref a) false := ⟨"list", false, false, .base (.lst e), by decide +kernel, by decide +kernel, rfl⟩
theorem isI_tup {a : Addr} {xs : List V} (e : H a = some (.tup xs)) : IsI K H (.ref a) false := ⟨"tuple", false, false, .base (.tup e), by decide +kernel, by decide +kernel, rfl⟩
theorem isI_dK {a : Addr} {kvs : List (Key × V)} (e : H a = some (.dK kvs)) : IsI K H (.ref a) false := ⟨"dict", false, false, .base (.dK e), by decide +kernel, by decide +kernel, rfl⟩
theorem isI_true {x : V} (h : IsI K H x true) : ∃ i, x = .int i := by
  obtain ⟨n, b1, b2, ty, e1, e2, e3⟩ := h
  have c1 : b1 = true := by
    cases b1
    · simp at e3
    · rfl
  have c2 : b2 = false := by
    cases b2
    · rfl
    · simp [c1] at e3
  subst c1 c2
  have no : ∀ {m : String}, kitB m "int" ≠ some true ∨ kitB m "bool" ≠ some false → n = m → False := fun h e => by
    subst e
    exact h.elim (fun z => z e1) fun z => z e2
  cases ty with
  | base h =>
    cases h with
    | int i => exact ⟨i, rfl⟩
    | non => exact (no (m := "NoneType") (.inl (by decide +kernel)) rfl).elim
    | bl b => exact (no (m := "bool") (.inr (by decide +kernel)) rfl).elim
    | str b => exact (no (m := "str") (.inl (by decide +kernel)) rfl).elim
    | flt b => exact (no (m := "float") (.inl (by decide +kernel)) rfl).elim
    | lst e => exact (no (m := "list") (.inl (by decide +kernel)) rfl).elim
    | frz e => exact (no (m := "list") (.inl (by decide +kernel)) rfl).elim
    | tup e => exact (no (m := "tuple") (.inl (by decide +kernel)) rfl).elim
    | dK e => exact (no (m := "dict") (.inl (by decide +kernel)) rfl).elim
    | dT e => exact (no (m := "dict") (.inl (by decide +kernel)) rfl).elim
  | byt b => exact (no (m := "bytes") (.inl (by decide +kernel)) rfl).elim
  | set e => exact (no (m := "set") (.inl (by decide +kernel)) rfl).elim
  | kList e c => exact (no (m := "list") (.inl (by decide +kernel)) rfl).elim
  | kTuple e c => exact (no (m := "tuple") (.inl (by decide +kernel)) rfl).elim
  | kDict e c => exact (no (m := "dict") (.inl (by decide +kernel)) rfl).elim
  | fTuple e => exact (no (m := "tuple") (.inl (by decide +kernel)) rfl).elim
  | fDict e => exact (no (m := "dict") (.inl (by decide +kernel)) rfl).elim
end
/-- a bound: an int or none -/
def oV : Option Int → V
  | none => .non
  | some i => .int i
def loOk (lo : Option Int) (i : Int) : Bool := match lo with
  | none => true
  | some l => decide (l ≤ i)
def hiOk (hi : Option Int) (i : Int) : Bool := match hi with
  | none => true
  | some h => decide (i ≤ h)
/-- an int within bounds -/
def inB (lo hi : Option Int) : V → Bool
  | .int i => loOk lo i && hiOk hi i
  | _ => false
def spIsInt (K : PySem.W.Frag) : Sp := fun vs H Q _ => ∃ (x : V) (b : Bool), vs = [x] ∧ IsI K H x b ∧ Q (.bl b) H
def spWithin (K : PySem.W.Frag) : Sp := fun vs H Q _ => ∃ (x : V) (lo hi : Option Int) (b : Bool), vs = [x, oV lo, oV hi] ∧ IsI K H x b ∧ Q (.bl (b && inB lo hi x)) H
/-- what raises the error at C, with its part, else returns None -/
def RaisesP (C : Addr) (part : Str) (E : XK) (H : Hp) : Prop := ∀ d, H d = none → E (.ref C) (some d) (upd H d (.xd [(("part" : Str), .str part)]))
def spNeedNumber (K : PySem.W.Frag) (C : Addr) : Sp := fun vs H Q E => ∃ (x : V) (part : Str) (lo hi : Option Int) (b : Bool), vs = [x, .str part, oV lo, oV hi] ∧ IsI K H x b ∧
  ((b && inB lo hi x) = true → Q .non H) ∧ ((b && inB lo hi x) = false → RaisesP C part E H)
def spNeedWord (K : PySem.W.Frag) (C : Addr) : Sp := fun vs H Q E => ∃ (x : V) (part : Str) (b : Bool), vs = [x, .str part] ∧ IsI K H x b ∧
  ((b && inB (some 0) none x) = true → Q .non H) ∧ ((b && inB (some 0) none x) = false → RaisesP C part E H)
/-- where nothing is raised the promise holds among calm ones -/
theorem calm_of {P : Program} {w : World} {K : PySem.W.Frag} {mg : Str → Option Value} {base : Heap} {k : Nat} {f : Addr} {fd : FuncData} {ps : List Str} {sp : Sp} (F : FnOk P w K mg base (L2.CX P w) k f fd ps sp) :
    FnOk P w K mg base CX0 k f fd ps (fun vs H Q _ => sp vs H Q fun _ _ _ => False) :=
  ⟨fun vs H Q E h => F.len vs H Q _ h, fun A outer s H args us vs Q E hr he hb hv hs => codeAny_mono (F.run A outer s H args us vs Q _ hr he hb hv hs) fun r s' hq => by
    cases r with
    | error e =>
      obtain ⟨_, _, _, _, _, _, _, _, _, _, _, _, z⟩ := hq
      exact z.elim
    | ok fl => cases fl <;> exact hq⟩
theorem iteB {b : Bool} {A B : Prop} (h1 : b = true → A) (h2 : b = false → B) : if b = true then A else B := by
  cases b with
  | true => exact iteT (h1 rfl)
  | false => exact iteF (h2 rfl)
end OB
set_option exponentiation.threshold 100000
/-! Own errors with one field, raised. -/
namespace OB
open PySem PySem.Spec PyProof.Rows L2
/-- a def of the text, as it stands behind the top -/
structure Df (K : PySem.W.Frag) (mg : Str → Option Value) (x : Str) (st : Stmt) (ps : List Str) (f : Addr) (fd : FuncData) : Prop where
  F : Fun K x x st f fd
  g : mg x = some (.ref f)
  b : Binds K fd ps []
/-- __init__(self, f): self.f = f of an own error -/
def spInit1 (K : PySem.W.Frag) (f : Str) : Sp := fun vs H Q _ => ∃ (a C : Addr) (v : V), vs = [.ref a, v] ∧ OexC K C ∧ PySem.W.findIn K (.ref C) f = some none ∧ H a = some (exo a C none) ∧
  ∀ dx, H dx = none → dx ≠ a → Q .non (upd (upd H dx (exd dx [(f, v)])) a (exo a C (some dx)))
section
variable {P : Program} {w : World} {K : PySem.W.Frag} {mg : Str → Option Value} {base : Heap}
theorem ok_init1 {qual : Str} {st : Stmt} {fI : Addr} {fd : FuncData} {f : Str} {p1 p2 p3 p4 : Pos} (F : Fun K "__init__" qual st fI fd) (S : FnScope ["self", f] ["self", f] (defScope st))
    (hb : defBody st = [.Assign [.Attribute (.Name "self" p1) f p2] (.Name f p3) p4])
    (hv : Vis (defScope st) f) (hs : Vis (defScope st) "self") (hd : (f == ("__debug__" : Str)) = false := by decide) (hcd : (f == ("__classdict__" : Str)) = false := by decide)
    (hsw : ∀ env : Env, swapsWith (.Name f p3) (some (.Attribute (.Name "self" p1) f p2)) p4.line env = pure false := by intro _; rfl) :
    FnOk P w K mg base CX0 1 fI fd ["self", f] (spInit1 K f) := by
  refine F.ok S (fun vs H Q E h => ?_) (fun cdv A outer s H vs Q E hr h => ?_)
  · obtain ⟨a, C, v, rfl, _⟩ := h
    rfl
  · obtain ⟨a, C, v, rfl, T, no, ha, k⟩ := h
    rw [hb]
    refine ⟨_, pss_one (ps_ost (pe_var (i := 0) rfl hs) (pe_var (i := 1) rfl hv hd hcd) (hsw _)), ?_⟩
    exact ⟨v, rfl, .ref a, rfl, a, C, rfl, T, no, .inl ⟨ha, fun dx n ne => k dx n ne⟩⟩
/-- an own error class with one field, as the top leaves it -/
structure Err (P : Program) (w : World) (K : PySem.W.Frag) (mg : Str → Option Value) (base : Heap) (x f : Str) (C fI : Addr) (fd : FuncData) : Prop where
  T : OexC K C
  iC : PySem.W.findIn K (.ref C) "__init__" = some (some (.ref fI))
  tI : PySem.W.typeIn K (.ref fI) = some (.type "function")
  F : FnOk P w K mg base CX0 1 fI fd ["self", f] (spInit1 K f)
  b : Binds K fd ["self", f] []
  g : mg x = some (.ref C)
  no : PySem.W.findIn K (.ref C) f = some none
theorem del_back {H : Hp} {a d : Addr} {o1 o2 o3 o4 : HO} (ha : H a = none) (n : d ≠ a) : upd (del (upd (upd (upd H a o1) d o2) a o3) a) d o4 = upd H d o4 := by
  funext b
  by_cases e : b = d
  · rw [e, upd_same, upd_same]
  · rw [upd_ne e, upd_ne e]
    by_cases e2 : b = a
    · rw [e2, del_same, ha]
    · rw [del_ne e2, upd_ne e2, upd_ne e, upd_ne e2]
end
/-- raise X(e) -/
def tRaise1 (K : PySem.W.Frag) (C : Addr) (f : Str) (W : WX) (te : TE) : TS := fun _ σ H => tMkO C (spInit1 K f) [] (tCons te tNil) σ H fun cls d H' => W cls d σ H'
theorem raise1_of {K : PySem.W.Frag} {C : Addr} {f : Str} {W : WX} {σ : L2.St} {H1 : Hp} {v : V} (T : OexC K C) (no : PySem.W.findIn K (.ref C) f = some none) (h : ∀ d, H1 d = none → W (.ref C) (some d) σ (upd H1 d (.xd [(f, v)]))) :
    tNil σ H1 fun xs H2 => (v :: xs).length ≤ 1000 ∧ ∀ a, H2 a = none → spInit1 K f (.ref a :: ((v :: xs) ++ [])) (upd H2 a (exo a C none))
      (fun u H3 => u = .non ∧ ∃ (d : Addr) (fs : List (Str × V)), H3 a = some (exo a C (some d)) ∧ H3 d = some (exd d fs) ∧ H2 d = none ∧ W (.ref C) (some d) σ (upd (del H3 a) d (.xd fs))) (fun _ _ _ => False) := by
  refine ⟨by show 1 ≤ 1000; decide, fun a ha => ⟨a, C, v, rfl, T, no, upd_same, fun dx nd ne => ?_⟩⟩
  rw [upd_ne ne] at nd
  refine ⟨rfl, dx, [(f, v)], upd_same, ?_, nd, ?_⟩
  · rw [upd_ne ne, upd_same]
  · rw [del_back ha ne]
    exact h dx nd
theorem ps_raise1 {X : Cx} {W : WX} {x f : Str} {C fI : Addr} {fd : FuncData} {e : Expr} {te : TE} {p p2 pos : Pos} (hc : X.calm = true) (tk : Takes X W) (R : Err X.prog X.w X.K X.mg X.base x f C fI fd) (hr : Room 2 X.A) (hg : Gl X x) (he : PE X e te)
    (hx : Passes CX0 X (fun _ _ _ => False) := by exact pass0) (hs : starEach [e] X.env = [(false, eval e X.env)] := by rfl) (hdb : (x == ("__debug__" : Str)) = false := by decide) :
    PS X (.Raise (some (.Call (.Name x p) [e] [] p2)) none pos) (tRaise1 X.K C f W te) :=
  ps_raise (pos := pos) hc tk (pmk_oex (p := p) (pos := p2) R.T R.iC R.tI R.F hr R.b .nil hx hg R.g (pa_cons he pa_nil hs) hdb hs)
section
variable {X : Cx}
/-- 1 << k -/
theorem op_oneN : OpR X (binaryOp .LShift) (fun x y H Q => ∃ k : Nat, x = .int 1 ∧ y = .int (k : Int) ∧ k ≤ 1000000 ∧ Q (.int ((2 ^ k : Nat) : Int)) H) := by
  intro pins s σ H x y v u Q I rx ry h
  obtain ⟨k, rfl, rfl, c, q⟩ := h
  refine op_shl pins s σ H _ _ v u Q I rx ry ⟨_, _, rfl, rfl, ⟨Int.natCast_nonneg _, by omega, by decide⟩, ?_⟩
  have e : (1 : Int) * 2 ^ ((k : Int)).toNat = ((2 ^ k : Nat) : Int) := by
    rw [Int.one_mul, Int.toNat_natCast, Int.natCast_pow]
    rfl
  show Q (.int ((1 : Int) * 2 ^ ((k : Int)).toNat)) H
  rw [e]
  exact q
end
theorem pow_lt9 {i : Nat} (h : i ≤ 8000) : ((2 ^ i : Nat) : Int).natAbs < 2 ^ 9000 := by
  rw [Int.natAbs_natCast]
  exact Nat.pow_lt_pow_right (by decide) (by omega)
section
variable {X : Cx} {CX : CXT} {k : Nat} {f : Addr} {fd : FuncData} {ps ks : List Str} {sp : Sp} {E : XK} {x : Str} {p pos : Pos} {kws : List Keyword} {tk : TA} {g : List Value → List Value → List Value} {gV : List V → List V → List V}
/-- f(k = v, ..): keywords alone -/
theorem pe_callKo (F : FnOk X.prog X.w X.K X.mg X.base CX k f fd ps sp) (hr : Room k X.A) (hg : Gl X x) (hm : X.mg x = some (.ref f)) (hk : PySem.W.keepIn X.K (.ref f) = true) (hb : KBinds X.K fd ps ks g gV) (hx : Passes CX X E)
    (hkw : PK X kws tk) (hall : (backToKw pos (keywordEach kws X.env)).all (·.1.isSome) = true := by rfl) (hks : (backToKw pos (keywordEach kws X.env)).filterMap (·.1) = ks := by rfl)
    (hdb : (x == ("__debug__" : Str)) = false := by decide)
    (hpl : ((backTo pos (starEach [] X.env)).any (·.1) || (backToKw pos (keywordEach kws X.env)).any (·.1.isNone)) = false := by rfl) :
    PE X (.Call (.Name x p) [] kws pos) (tCallK sp gV E tNil tk) := by
  refine ⟨fun pins s σ H Q I h => ?_⟩
  refine wpAny_Call_Name_kw (ld_glob I hg hm ?_ hdb)
  refine PySem.W.callWith_KW0 (h₀ := X.base) I.ok.mod.kin hk hall ?_ hpl
  refine thn (hkw.run pos pins s σ H _ I h) fun ws s2 ⟨zs, H2, I2, rz, q2⟩ => ⟨I2.kIn, ?_⟩
  rw [hks]
  exact run_fnk (us := []) F hr hb hx I2 .nil rz q2
end
/-- how the keywords of a def without defaults bind -/
theorem kbinds {K : PySem.W.Frag} {x qual : Str} {st : Stmt} {f : Addr} {fd : FuncData} {ps ks : List Str} {g : List Value → List Value → List Value} {gV : List V → List V → List V} (F : Fun K x qual st f fd)
    (h : ∀ (kV doc pm : Value) (an : Option Addr) (cdv ct : Value) (us ws : List Value), (g us ws).length = ps.length → bindArgs (PySem.W.fnOf x qual (defArgs st) (defBody st) (defScope st) .none kV doc pm an cdv ct) ⟨us, ks.zip ws⟩ = pure (ps.zip (g us ws)))
    (r : ∀ {vs : List V} {us : List Value} {zs : List V} {ws : List Value}, Vals vs us → Vals zs ws → Vals (gV vs zs) (g us ws)) : KBinds K fd ps ks g gV := by
  obtain ⟨oc, od, kV, doc, pm, an, cdv, ct, osl, rfl, lk, hcd⟩ := F.ex
  exact ⟨fun s us ws _ hl => .of_eq (h kV doc pm an cdv ct us ws hl), r⟩
theorem inB_nat (m : Nat) : inB (some 0) none (.int (m : Int)) = true := by
  show (decide ((0 : Int) ≤ (m : Int)) && true) = true
  rw [decide_eq_true (Int.natCast_nonneg m)]
  rfl
/-- isinstance asks by the table of classes -/
theorem kit_sub {K : PySem.W.Frag} {t : Value} {C : Addr} {b : Bool} (h1 : PySem.W.isClsIn K C = true) (h2 : PySem.W.typeIn K (.ref C) = some (.type "type")) (self : PySem.W.subIn K (.ref C) (.ref C) = some true) (h : PySem.W.subIn K t (.ref C) = some b) :
    PySem.W.kitOne K t (.ref C) = some b := by
  unfold PySem.W.kitOne
  by_cases e : (t == Value.ref C) = true
  · rw [if_pos e]
    have e2 : t = Value.ref C := beq_iff_eq.mp e
    subst e2
    rw [self] at h
    exact h
  · rw [if_neg e]
    have h1' : (PySem.W.clsIn K C).isSome = true := h1
    show (if ((PySem.W.clsIn K C).isSome && PySem.W.typeIn K (.ref C) == some (.type "type")) = true then PySem.W.subIn K t (.ref C) else none) = some b
    rw [h1', h2]
    exact h
end OB
/-! f'{n:b}' of a number from 0 on. -/
namespace OB
open PySem PySem.Spec PyProof.Rows L2
def binT (n : Nat) : Str := ⟨((Nat.toDigits 2 n).map fun c => c.toNat).toArray⟩
def spB : Str := Str.ofString "b"
section
open PySem.Builtin PySem.Builtin.Str PySem.Builtin.Int PySem.Builtin.Float
def fsB : FormatSpec := { align := 62, type := some 98 }
theorem fsB_ok : parseFormatSpec spB.cps.toList "int" 62 = .ok fsB := by kernel_rfl
theorem fsB_is : fsB.type = some 98 ∧ fsB.precision = none ∧ fsB.noNeg0 = false ∧ fsB.alt = false ∧ fsB.width = none ∧ fsB.grouping = none ∧ fsB.sign = none ∧ fsB.align = 62 ∧ fsB.fill = 32 := by decide +kernel
variable {prog : Program} {w : World} {A : Around} {E : Value → Shared → Prop} {s : Shared}
theorem digits_ne (n : Nat) : (Nat.toDigits 2 n).map (fun c => c.toNat) ≠ [] := by
  intro z
  have z := List.map_eq_nil_iff.mp z
  have := @Nat.length_toDigits_pos 2 n
  rw [z] at this
  exact absurd this (by decide)
theorem formatField_b {n : Nat} {t : Tok} {Q : Value → Shared → Prop} (hlen : (binT n).length ≤ sizeLine)
    (h : Q (.str (binT n) (s.toks + 1)) { s with toks := s.toks + 1 + 1 }) : wpAny (model prog w) A (formatField (.int (n : Int) t) spB) Q E s := by
  obtain ⟨hty, hpr, hz, hal, hw, hgr, hsg, hali, hfi⟩ := fsB_is
  have hp := fsB_ok
  generalize fsB = f at hty hpr hz hal hw hgr hsg hali hfi hp
  have hne : (spB.length == 0) = false := by decide
  have hasc : ((spB.cps.toList.drop 1).any (· ≥ 128) || (spB.cps.getD 0 0 ≥ 128 && !([60, 62, 61, 94] : List Nat).contains (spB.cps.getD 1 0))) = false := by decide
  show wpAny _ _ (holding [.int (n : Int) t] (pyFormat (.int (n : Int) t) spB)) Q E s
  refine wpAny_holding ?_
  unfold pyFormat
  refine wpAny_bind (wpAny_mkStr ?_ (by decide))
  refine wpAny_bind (m := callSpecial? (.int (n : Int) t) (Str.ofString "__format__") [.str spB s.toks]) (wpAny_callSpecial?_slot (name := Str.ofString "__format__") (typeIs_int _ (n : Int) t) slot_int_format ?_)
  refine wpAny_call (codeAny_call_builtin slot_int_format.plain entry_int_format (slot_int_format.check _ _ _ _ _ _ _ _ (typeIs_int _ (n : Int) t) (args_int_format _ _) ?_))
  unfold Builtin.«int.__format__»
  simp only [selfAndOne, noKeywords, Int.intOfSelf, asInt?, asStr?, List.isEmpty_nil, if_true, pure_bind, bind_pure, bind_assoc, hne, hasc, Bool.false_eq_true, if_false,
    show (Value.str spB s.toks == Value.none) = false from rfl]
  refine wpAny_bind (wpAny_typeNameOf (T := "str") (typeIs_str _ _ _) (by decide) fun _ => ?_)
  first | refine wpAny_bind (wpAny_typeNameOfCut_int ?_) | refine wpAny_bind (wpAny_typeNameOf_int ?_)
  simp only [hp, hty, Option.getD_some]
  rw [if_pos (by decide)]
  show wpAny _ _ (if _ then _ else _) _ _ _
  rw [if_neg (by simp [hpr])]
  show wpAny _ _ (if _ then _ else _) _ _ _
  rw [if_neg (by simp [hz])]
  show wpAny _ _ (if _ then _ else _) _ _ _
  rw [if_neg (by decide)]
  show wpAny _ _ (if _ then _ else _) _ _ _
  rw [if_neg (by decide)]
  show wpAny _ _ (if _ then _ else _) _ _ _
  rw [if_neg (by rw [hw]; decide)]
  have hneg : decide ((n : Int) < 0) = false := decide_eq_false (by omega)
  have key : ∀ z : Str, z = binT n → ∀ {Q' : Value → Shared → Prop} {E'} {s'} {A'}, Q' (.str (binT n) s'.toks) { s' with toks := s'.toks + 1 } → wpAny (model prog w) A' (retStr z) (fun fin s'' => ∃ v, fin = .done (.ret v) ∧ Q' v s'') E' s' := by
    intro z hz Q' E' s' A' hq
    subst hz
    unfold retStr
    exact wpAny_bind (wpAny_mkStr (wpAny_pure ⟨_, rfl, hq⟩) hlen)
  refine wpAny_mono (key _ ?_ (Q' := fun v s'' => v = .str (binT n) (s.toks + 1) ∧ s'' = { s with toks := s.toks + 1 + 1 }) ⟨rfl, rfl⟩) (fun fin s'' hh => ?_) (fun _ _ x => x)
  · simp only [hneg, hal, Bool.false_eq_true, if_false, Int.natAbs_natCast, show ((98 : Nat) == 88) = false from rfl, show ((2 : Nat) == 10) = false from rfl]
    have hd : ((Nat.toDigits 2 n).map fun c => c.toNat).isEmpty = false := by
      cases e : (Nat.toDigits 2 n).map fun c => c.toNat with
      | nil => exact absurd e (digits_ne n)
      | cons a r => rfl
    have z : ∀ k : Nat, ((-1 : Int) - 0 - (k : Int)).toNat = 0 := fun k => by omega
    have z2 : ∀ k : Nat, (0 : Nat) - k = 0 := fun k => by omega
    have z3 : ∀ k : Nat, ((-1 : Int) - (k : Int)).toNat = 0 := fun k => by omega
    clear key h hlen hp hne hasc
    unfold binT
    generalize ((Nat.toDigits 2 n).map fun c => c.toNat) = ds at hd ⊢
    cases f with
    | mk fill align sign noNeg0 alt width grouping precision type =>
      simp only at hgr hw hsg hali hfi hal hty hpr hz
      subst hgr hw hsg hali hfi hal hty hpr hz
      conv => lhs; whnf
      simp [z, z2, z3, hd]
  · obtain ⟨v, rfl, rfl, rfl⟩ := hh
    exact wpAny_bind (wpAny_isInstance (typeIs_str _ _ _) isSubtype_str_str (wpAny_pure h))
end
section
variable {X : Cx}
/-- f'{e:b}' -/
def tFmtB (te : TE) : TE := fun σ H Q => te σ H fun x H1 => ∃ n : Nat, x = .int (n : Int) ∧ (binT n).length ≤ sizeLine ∧ Q (.str (binT n)) H1
theorem pe_fmtB {e : Expr} {te : TE} {k : Nat} {p1 p2 p3 p4 : Pos} (he : PE X e te) : PE X (.JoinedStr [.FormattedValue e (-1) (some (.JoinedStr [.Constant (.str "b") k p1] p2)) p3] p4) (tFmtB te) := by
  refine pe_joined1 ⟨fun pins s σ H Q I h => ?_⟩
  refine wpAny_FormattedValue_spec (thn (he.run pins s σ H _ I h) fun v s1 ⟨x, H1, I1, r1, n, ex, hz, q⟩ => ?_)
  subst ex
  obtain ⟨t, rfl⟩ := r1
  refine thn ((pe_joined1 (pos := p2) (pe_str (X := X) (x := Str.ofString "b") (j := k) (pos := p1))).run pins s1 σ H1 (fun v H' => v = .str spB ∧ H' = H1) I1 ⟨rfl, rfl⟩) fun u s2 ⟨y, H2, I2, r2, e1, e2⟩ => ?_
  subst e1
  rw [e2] at I2
  obtain ⟨t2, rfl⟩ := r2
  exact ⟨spB, t2, rfl, formatField_b hz ⟨.str (binT n), H1, I2.tok _, ⟨_, rfl⟩, q⟩⟩
end
end OB
/-! enumerate of a text, enumerate of a list from its end. -/
namespace OB
open PySem PySem.Spec PyProof.Rows L2
/-- enumerate(text): each sign in a new pair -/
def Ites (x : Str) : It :=
  ⟨fun i _ => i < x.cps.size, fun i H v H' => ∃ T c, v = .ref T ∧ H T = none ∧ x.cps[i]? = some c ∧ H' = upd H T (.tup [.int (i : Nat), .str ⟨#[c]⟩]), fun i _ => x.cps.size ≤ i⟩
theorem turn_enumS {P : Program} {w : World} {K : PySem.W.Frag} {elts : List Expr} {kk : Nat} {tpos : Pos} (x : Str) (t : Tok) (e it : Addr) :
    Turn P w K (.Tuple elts kk tpos) (Ites x) [e, it] e (fun i h => (∃ old, IsEnum h e it ((i : Nat) : Int) old) ∧ h.IsStrIter it (strIterType x) x t i ∧ e ≠ it ∧ i ≤ x.cps.size) where
  mem := by simp
  obj := fun i h st b hb => by
    obtain ⟨⟨old, he⟩, ⟨o, ho, hc, hd⟩, _⟩ := st
    have e' : b = e ∨ b = it := by simpa using hb
    rcases e' with z | z
    · rw [z]; exact ⟨_, he, fun v q => nomatch q⟩
    · rw [z]; exact ⟨o, ho, fun v q => by rw [hd] at q; cases q⟩
  keep := fun i h h' st k => let ⟨⟨old, he⟩, ⟨o, ho, r⟩, hne⟩ := st; ⟨⟨old, k e (by simp) _ he⟩, ⟨o, k it (by simp) o ho, r⟩, hne⟩
  item := by
    intro X hP hw hK hc i pins s σ H E I hf st hg
    subst hP hw hK
    obtain ⟨⟨old, he⟩, hit, hne, hle⟩ := st
    have hg : i < x.cps.size := hg
    have hel : e < s.heap.objs.size := Heap.lt_size he
    have hil : it < s.heap.objs.size := by obtain ⟨_, q, _⟩ := hit; exact Heap.lt_size q
    have D : Draws X.prog X.w X.A.in1 it [it] x.cps.size (fun i v => ∃ c u, x.cps[i]? = some c ∧ v = .str ⟨#[c]⟩ u) (fun i h => h.IsStrIter it (strIterType x) x t i) := by
      unfold strIterType
      split
      · exact Draws.strAscii (A := X.A.in1) (I.ok.hd hc) it x t
      · exact Draws.strWide (A := X.A.in1) (I.ok.hd hc) it x t
    refine wpAny_pyNext_enum_itemD D he hit hg hne (by simpa using hne) fun v h' tk hv ho hit' hT hsz hk => ?_
    obtain ⟨c, u, hcx, rfl⟩ := hv
    refine ⟨_, rfl, wpAny_letOwnedTupleGo_enum (s := { s with heap := h', toks := tk + 1 }) ho fun h'' he' sb => ?_⟩
    have hT2 : h''.get? s.heap.objs.size = some { cls := .type "tuple", data := .seq #[.int i tk, .str ⟨#[c]⟩ u] } := (sb.2 _ (Nat.ne_of_gt hel)).trans hT
    have new : ObjOk X.prog X.w (upd H s.heap.objs.size (.tup [.int (i : Nat), .str ⟨#[c]⟩])) h'' s.heap.objs.size (.tup [.int (i : Nat), .str ⟨#[c]⟩]) :=
      ⟨by show 2 ≤ sizeLine; decide, [.int i tk, .str ⟨#[c]⟩ u], .cons ⟨_, rfl⟩ (.cons ⟨_, rfl⟩ .nil), ⟨_, hT2, rfl, _, rfl⟩⟩
    have I1 : Inv X pins σ (upd H s.heap.objs.size (.tup [.int (i : Nat), .str ⟨#[c]⟩])) { s with heap := h'', toks := tk + 1 } :=
      I.turnedNew (ch := [e, it]) (fun b ob hb q => (sb.2 b (fun z => hb (by simp [z]))).trans (hk b ob (fun z => hb (by simp [z])) (fun z => hb (by simp [z])) q)) hf (Nat.le_refl _) new
    refine ⟨.ref s.heap.objs.size, _, I1, rfl, ⟨_, c, rfl, I.hok.fresh (Nat.le_refl _), hcx, rfl⟩, ⟨⟨.str ⟨#[c]⟩ u, ?_⟩, ?_, hne, hg⟩, fun b hb => ?_⟩
    · have e1 : ((i + 1 : Nat) : Int) = (i : Int) + 1 := by omega
      rw [e1]; exact he'
    · obtain ⟨o, q, r⟩ := hit'
      exact ⟨o, (sb.2 it (Ne.symm hne)).trans q, r⟩
    · have hb' : b < s.heap.objs.size := by
        have e' : b = e ∨ b = it := by simpa using hb
        rcases e' with z | z
        · rw [z]; exact hel
        · rw [z]; exact hil
      rw [upd_ne (Nat.ne_of_lt hb')]
      exact (hf b hb).1
  done := by
    intro X hP hw hK hc i pins s σ H E I hf st hg
    subst hP hw hK
    obtain ⟨⟨old, he⟩, hit, hne, hle⟩ := st
    have hg : x.cps.size ≤ i := hg
    have ei : i = x.cps.size := Nat.le_antisymm hle hg
    subst ei
    obtain ⟨f0, f1, f2, f3, f4, f5⟩ := hf it (by simp)
    have D : Draws X.prog X.w X.A.in1 it [it] x.cps.size (fun i v => ∃ c u, x.cps[i]? = some c ∧ v = .str ⟨#[c]⟩ u) (fun i h => h.IsStrIter it (strIterType x) x t i) := by
      unfold strIterType
      split
      · exact Draws.strAscii (A := X.A.in1) (I.ok.hd hc) it x t
      · exact Draws.strWide (A := X.A.in1) (I.ok.hd hc) it x t
    exact wpAny_pyNext_enum_endD D he hit fun h' eb => ⟨rfl, I.turned (t' := s.toks) (fun b o hb q => eb b o hb q) f0 f1 f3 f4 f5⟩
  self := fun A i s Q E st h => let ⟨⟨_, he⟩, _⟩ := st; wpAny_pyIter_enum he h
def iEnumS (ta : TA) : TI := fun σ H R => ta σ H fun vs H1 => ∃ x, vs = [.str x] ∧ R (Ites x) H1
theorem pi_enumS {X : Cx} {e : Expr} {ta : TA} {p pos tpos : Pos} {elts : List Expr} {kk : Nat} (hg : Gl X "enumerate") (hm : X.mg "enumerate" = none) (ha : PA X [e] ta) (hs : starEach [e] X.env = [(false, eval e X.env)] := by rfl) :
    PI X (.Tuple elts kk tpos) (.Call (.Name "enumerate" p) [e] [] pos) (iEnumS ta) := by
  refine ⟨fun pins s σ H R I h => ?_⟩
  refine Call_ (ld_blt I hg hm boot_enumerate (PyProof.Rows.callWith_type1 (thn (ha.run pos pins s σ H _ I h) fun us s1 ⟨vs, H1, I1, r1, q1⟩ => ?_) hs rfl))
  obtain ⟨x, ex, q⟩ := q1
  subst ex
  cases r1 with
  | cons r rr =>
    cases rr
    obtain ⟨t, rfl⟩ := r
    refine call_enumerate_str fun h' he hit hsz hk => wpAny_pyIter_enum he ?_
    have I2 : Inv X pins σ H1 { s1 with heap := h' } := I1.kept (t' := s1.toks) hk
    refine ⟨s1.heap.objs.size + 1, [s1.heap.objs.size + 1, s1.heap.objs.size], _, _, H1, rfl, I2, turn_enumS x t (s1.heap.objs.size + 1) s1.heap.objs.size, ⟨⟨.none, he⟩, hit, Nat.succ_ne_self _, Nat.zero_le _⟩, fun b hb => ?_, q⟩
    have e' : b = s1.heap.objs.size + 1 ∨ b = s1.heap.objs.size := by simpa using hb
    have hle : s1.heap.objs.size ≤ b := by
      rcases e' with z | z
      · rw [z]; exact Nat.le_add_right _ _
      · rw [z]; exact Nat.le_refl _
    exact I1.fpOk hle (I1.hok.fresh hle)
theorem walk_enumS {x : Str} : Walk (Ites x) x.cps.size (fun _ => True) (YPair (fun i => some (.int (i : Nat))) (fun i => x.cps[i]?.map fun c => .str ⟨#[c]⟩)) := by
  refine ⟨fun i _ hi _ => hi, fun _ _ => Nat.le_refl _, fun i H v H' _ _ y => ?_⟩
  obtain ⟨T, c, h1, h2, h3, h4⟩ := y
  exact ⟨T, .int (i : Nat), .str ⟨#[c]⟩, h1, h2, h4, rfl, by show x.cps[i]?.map _ = _; rw [h3]; rfl⟩
end OB
namespace OB
open PySem PySem.Spec PyProof.Rows L2
open AutoSeq1 (wpAny_loadPart')
section
variable {prog : Program} {w : World} {A : Around} {E : Value → Shared → Prop} {s : Shared}
theorem nextOf_rev_item {it l : Addr} {i : Nat} {items : Array Value} {x : Value} {Q : Value → Shared → Prop} (hit : s.heap.IsRevIter it l (i : Int)) (hl : s.heap.IsList l items) (hx : items[i]? = some x)
    (hQ : ∀ h', h'.IsRevIter it l ((i : Int) - 1) → Heap.SameBut it s.heap h' → Q x { s with heap := h' }) : wpAny (model prog w) A (Builtin.SmallTypes.nextOf (.ref it)) Q E s := by
  obtain ⟨o, ho, hc, hd⟩ := id hit
  obtain ⟨ol, hol, _, nl, hdl⟩ := hl
  unfold Builtin.SmallTypes.nextOf
  refine wpAny_bind (wpAny_callSpecial?_slot (name := Str.ofString "__next__") hit.typeIs F.slot_lri_next
    (wpAny_call_entry F.slot_lri_next hit.typeIs F.entry_lri_next ?_ (F.args_lri_next_1 _)))
  unfold Builtin.«list_reverseiterator.__next__»
  refine wpAny_bind (wpAny_of_eq (a := (Value.ref it, [])) rfl ?_)
  try dsimp only
  refine wpAny_bind (wpAny_field ho hd (x := rawInt (i : Int)) rfl ?_)
  show wpAny _ _ (if (i : Int) < 0 then _ else _) _ _ s
  rw [if_neg (by omega)]
  show wpAny _ _ (field (.ref it) 0 >>= _) _ _ s
  refine wpAny_bind (wpAny_field ho hd (x := .ref l) rfl ?_)
  show wpAny _ _ (seqItems? (.ref l) >>= _) _ _ s
  refine wpAny_bind (wpAny_seqItems hol hdl ?_)
  simp only [Int.toNat_natCast, hx]
  refine wpAny_bind (wpAny_setField ho hd (by simp) ?_)
  first
  | refine wpAny_pure ⟨x, rfl, wpAny_pure (hQ _ ?_ (Heap.SameBut.update ..))⟩
  | refine wpAny_bind (wpAny_pure (wpAny_pure ⟨x, rfl, wpAny_pure (hQ _ ?_ (Heap.SameBut.update ..))⟩))
  exact ⟨_, Heap.get?_update_self _ ho (Obj.isFreed_of_fields (Obj.data_mapFields hd _)), (Obj.cls_mapFields ..).trans hc, by
    rw [Obj.data_mapFields hd]; simp⟩
theorem nextOf_rev_end {it l : Addr} {Q : Value → Shared → Prop} (hh : A.handled = none) (hit : s.heap.IsRevIter it l (-1))
    (hE : ∀ h' e, Heap.ExtBut it s.heap h' → (∃ o, h'.get? e = some o ∧ o.cls = .type "StopIteration") → E (.ref e) { s with heap := h' }) :
    wpAny (model prog w) A (Builtin.SmallTypes.nextOf (.ref it)) Q E s := by
  obtain ⟨o, ho, hc, hd⟩ := id hit
  unfold Builtin.SmallTypes.nextOf
  refine wpAny_bind (wpAny_callSpecial?_slot (name := Str.ofString "__next__") hit.typeIs F.slot_lri_next
    (wpAny_call_entry F.slot_lri_next hit.typeIs F.entry_lri_next ?_ (F.args_lri_next_1 _)))
  unfold Builtin.«list_reverseiterator.__next__»
  refine wpAny_bind (wpAny_of_eq (a := (Value.ref it, [])) rfl ?_)
  try dsimp only
  refine wpAny_bind (wpAny_field ho hd (x := rawInt (-1)) rfl ?_)
  show wpAny _ _ (if (-1 : Int) < 0 then _ else _) _ _ s
  rw [if_pos (by decide)]
  refine wpAny_bind (wpAny_rule ?_)
  first
  | show wpAny _ _ (newExc (.type "StopIteration") [] >>= _) _ _ _
  | (refine wpAny_bind ?_; show wpAny _ _ (newExc (.type "StopIteration") [] >>= _) _ _ _)
  refine wpAny_bind ?_
  simp only [newExc, newTuple]
  refine wpAny_bind (wpAny_newObj_type ?_ (by size_fits))
  refine wpAny_bind (m := firstArgMember _ _) (wpAny_of_eq (a := Value.none) (by first | rfl | (simp only [firstArgMember]; rfl)) ?_)
  refine wpAny_newObj_type ?_ (by size_fits)
  simp only [raiseNew]
  refine wpAny_bind (wpAny_handled ?_)
  first | rw [show A.in1.handled = none from hh] | rw [hh]
  refine wpAny_bind (wpAny_pure (wpAny_throw ?_))
  exact hE _ _ (((Heap.ExtBut.refl _ _).push _).push _) ⟨_, Heap.get?_push_size _ rfl, rfl⟩
end
theorem drawsRev {prog : Program} {w : World} {A : Around} (hh : A.handled = none) (it l : Addr) (hne : l ≠ it) (items : Array Value) :
    Draws prog w A it [it, l] items.size (fun i v => items[items.size - 1 - i]? = some v) (fun i h => i ≤ items.size ∧ h.IsRevIter it l ((items.size : Int) - 1 - (i : Int)) ∧ h.IsList l items) where
  live := fun _ _ st => let ⟨_, ⟨o, ho, _⟩, _⟩ := st; ⟨o, ho⟩
  frame := fun _ _ _ x hk => ⟨x.1, x.2.1.at fun o e => hk it (by simp) o e, x.2.2.at fun o e => hk l (by simp) o e⟩
  item := fun i s Q E hi x hQ => by
    have e : (items.size : Int) - 1 - (i : Int) = ((items.size - 1 - i : Nat) : Int) := by omega
    have hit := x.2.1
    rw [e] at hit
    have hx : items[items.size - 1 - i]? = some (items[items.size - 1 - i]'(by omega)) := Array.getElem?_eq_getElem (by omega)
    refine nextOf_rev_item hit x.2.2 hx fun h' hit' hs' => ?_
    have e2 : ((items.size - 1 - i : Nat) : Int) - 1 = (items.size : Int) - 1 - ((i + 1 : Nat) : Int) := by omega
    rw [e2] at hit'
    exact hQ _ h' s.toks hx ⟨hi, hit', x.2.2.at fun o eo => (hs'.2 l hne).trans eo⟩ hs'
  done := fun s Q E x hE => by
    have e : (items.size : Int) - 1 - (items.size : Int) = -1 := by omega
    have hit := x.2.1
    rw [e] at hit
    exact nextOf_rev_end hh hit hE
theorem meets_enumerate_newR (l it : Addr) (i : Int) :
    Meets (Builtin.«enumerate.__new__» ⟨[.type "enumerate", .ref it], []⟩) (fun _ R s => s.heap.get? it = some (revObj l i) ∧
      R (.ok (.ret (.ref s.heap.objs.size)))
        { s with heap := s.heap.push { cls := .type "enumerate", data := .fields #[.none, .bool false, .ref it, rawInt 0, .none, .none] } }) :=
  .of_wp fun prog w A R s h => by
    obtain ⟨hp, g, d, tk, os⟩ := s; obtain ⟨hl, h⟩ := h
    have hsub := sub_enumerate
    have hL : Heap.IsRevIter (Shared.heap ⟨hp, g, d, tk, os⟩) it l i := ⟨_, hl, rfl, rfl⟩
    wp_walk using wpAny_loadPart' hl
    refine wpAny_stack_any fun st => wpAny_pure ?_
    split
    · rename_i c _ _ _ _ _
      cases (c == Value.type "enumerate")
      · wp_walk using wpAny_loadPart' hl, wpAny_pyIter_revIter hL
        exact ⟨_, rfl, h⟩
      · wp_walk using wpAny_loadPart' hl, wpAny_pyIter_revIter hL
        exact ⟨_, rfl, h⟩
    · wp_walk using wpAny_loadPart' hl, wpAny_pyIter_revIter hL
      exact ⟨_, rfl, h⟩
end OB
namespace OB
open PySem PySem.Spec PyProof.Rows L2
/-- enumerate(reversed(list)): the list at a keeps its n items -/
def Iter (K : PySem.W.Frag) (a : Addr) (n : Nat) : It :=
  ⟨fun i H => ∃ (xs : List V) (x : V), SqL K H a xs ∧ xs.length = n ∧ i < n ∧ xs[n - 1 - i]? = some x, fun i H v H' => ∃ T x, v = .ref T ∧ H T = none ∧ H' = upd H T (.tup [.int (i : Nat), x]) ∧ ∀ xs, SqL K H a xs → xs[n - 1 - i]? = some x,
    fun i H => ∃ xs : List V, SqL K H a xs ∧ xs.length = n ∧ n ≤ i⟩
theorem turn_enumR {P : Program} {w : World} {K : PySem.W.Frag} {elts : List Expr} {kk : Nat} {tpos : Pos} (a e it : Addr) (n : Nat) (hae : a ≠ e) (hai : a ≠ it) :
    Turn P w K (.Tuple elts kk tpos) (Iter K a n) [e, it] e (fun i h => (∃ old, IsEnum h e it ((i : Nat) : Int) old) ∧ h.IsRevIter it a ((n : Int) - 1 - (i : Nat)) ∧ e ≠ it ∧ i ≤ n) where
  mem := by simp
  obj := fun i h st b hb => by
    obtain ⟨⟨old, he⟩, ⟨o, ho, hc, hd⟩, _⟩ := st
    have e' : b = e ∨ b = it := by simpa using hb
    rcases e' with z | z
    · rw [z]; exact ⟨_, he, fun v q => nomatch q⟩
    · rw [z]; exact ⟨o, ho, fun v q => by rw [hd] at q; cases q⟩
  keep := fun i h h' st k => let ⟨⟨old, he⟩, hi, hne⟩ := st; ⟨⟨old, k e (by simp) _ he⟩, hi.at fun o q => k it (by simp) o q, hne⟩
  item := by
    intro X hP hw hK hc i pins s σ H E I hf st hg
    subst hP hw hK
    obtain ⟨⟨old, he⟩, hit, hne, hle⟩ := st
    obtain ⟨xs, x, hq, hn, hin, hx⟩ := hg
    subst hn
    obtain ⟨its, rv, p, hz⟩ := I.list hq
    have hlen := rv.length
    obtain ⟨u, hu, ru⟩ := rv.get hx
    have hel : e < s.heap.objs.size := Heap.lt_size he
    have hil : it < s.heap.objs.size := by obtain ⟨_, q, _⟩ := hit; exact Heap.lt_size q
    have hsz : its.toArray.size = xs.length := by rw [List.size_toArray, hlen]
    have D := drawsRev (prog := X.prog) (w := X.w) (A := X.A.in1) (I.ok.hd hc) it a hai its.toArray
    refine wpAny_pyNext_enum_itemD D he ⟨by omega, by rw [hsz]; exact hit, p.isList⟩ (by omega) hne (by simp [hne, hae.symm]) fun v h' tk hv ho hit' hT hsz' hk => ?_
    have ev : v = u := by
      rw [hsz] at hv
      have h2 : its.toArray[xs.length - 1 - i]? = some u := by simpa using hu
      exact Option.some.inj (hv.symm.trans h2)
    subst ev
    refine ⟨_, rfl, wpAny_letOwnedTupleGo_enum (s := { s with heap := h', toks := tk + 1 }) ho fun h'' he' sb => ?_⟩
    have hT2 : h''.get? s.heap.objs.size = some { cls := .type "tuple", data := .seq #[.int i tk, v] } := (sb.2 _ (Nat.ne_of_gt hel)).trans hT
    have new : ObjOk X.prog X.w (upd H s.heap.objs.size (.tup [.int (i : Nat), x])) h'' s.heap.objs.size (.tup [.int (i : Nat), x]) :=
      ⟨by show 2 ≤ sizeLine; decide, [.int i tk, v], .cons ⟨_, rfl⟩ (.cons ru .nil), ⟨_, hT2, rfl, _, rfl⟩⟩
    have I1 : Inv X pins σ (upd H s.heap.objs.size (.tup [.int (i : Nat), x])) { s with heap := h'', toks := tk + 1 } :=
      I.turnedNew (ch := [e, it]) (fun b ob hb q => (sb.2 b (fun z => hb (by simp [z]))).trans (hk b ob (fun z => hb (by simp [z])) (fun z => hb (by simp [z])) q)) hf (Nat.le_refl _) new
    refine ⟨.ref s.heap.objs.size, _, I1, rfl, ⟨_, x, rfl, I.hok.fresh (Nat.le_refl _), rfl, fun ys hy => by rw [I.list_inj hy hq]; exact hx⟩, ⟨⟨v, ?_⟩, ?_, hne, hin⟩, fun b hb => ?_⟩
    · have e1 : ((i + 1 : Nat) : Int) = (i : Int) + 1 := by omega
      rw [e1]; exact he'
    · have h3 := hit'.2.1
      rw [hsz] at h3
      exact h3.at fun o q => (sb.2 it (Ne.symm hne)).trans q
    · have hb' : b < s.heap.objs.size := by
        have e' : b = e ∨ b = it := by simpa using hb
        rcases e' with z | z
        · rw [z]; exact hel
        · rw [z]; exact hil
      rw [upd_ne (Nat.ne_of_lt hb')]
      exact (hf b hb).1
  done := by
    intro X hP hw hK hc i pins s σ H E I hf st hg
    subst hP hw hK
    obtain ⟨⟨old, he⟩, hit, hne, hle⟩ := st
    obtain ⟨xs, hq, hn, hge⟩ := hg
    subst hn
    obtain ⟨its, rv, p, hz⟩ := I.list hq
    have hlen := rv.length
    have ei : i = xs.length := Nat.le_antisymm hle hge
    subst ei
    have hsz : its.toArray.size = xs.length := by rw [List.size_toArray, hlen]
    obtain ⟨f0, f1, f2, f3, f4, f5⟩ := hf it (by simp)
    have D := drawsRev (prog := X.prog) (w := X.w) (A := X.A.in1) (I.ok.hd hc) it a hai its.toArray
    exact wpAny_pyNext_enum_endD D he ⟨Nat.le_refl _, by rw [hsz]; exact hit, p.isList⟩ fun h' eb => ⟨rfl, I.turned (t' := s.toks) (fun b o hb q => eb b o hb q) f0 f1 f3 f4 f5⟩
  self := fun A i s Q E st h => let ⟨⟨_, he⟩, _⟩ := st; wpAny_pyIter_enum he h
section
variable {prog : Program} {w : World} {A : Around} {E : Value → Shared → Prop} {s : Shared}
theorem call_enumerate_rev {l it : Addr} {i : Int} {Q : Value → Shared → Prop} (hL : s.heap.get? it = some (revObj l i))
    (h : Q (.ref s.heap.objs.size) { s with heap := s.heap.push { cls := .type "enumerate", data := .fields #[.none, .bool false, .ref it, rawInt 0, .none, .none] } }) :
    wpAny (model prog w) A (call (.type "enumerate") [.ref it]) Q E s := by
  refine callType_new F.called_enumerate (by decide) (F.typeCall_enumerate_1 _) (F.newCall_enumerate_1 _) (fun obj => F.args_object_init_2 obj _) F.entry_enumerate_new
    (meets_enumerate_newR l it i) ⟨hL, ?_⟩
  exact ⟨⟨_, Heap.get?_push_size _ rfl, rfl⟩, h⟩
end
def iEnumR (K : PySem.W.Frag) (te : TE) : TI := fun σ H R => te σ H fun v H1 => ∃ (a : Addr) (xs : List V), v = .ref a ∧ SqL K H1 a xs ∧ R (Iter K a xs.length) H1
theorem pi_enumR {X : Cx} {e : Expr} {te : TE} {p pos p2 pos2 tpos : Pos} {elts : List Expr} {kk : Nat} (hg : Gl X "enumerate") (hm : X.mg "enumerate" = none) (hg2 : Gl X "reversed") (hm2 : X.mg "reversed" = none) (he : PE X e te)
    (hs : starEach [e] X.env = (false, eval e X.env) :: starEach [] X.env := by rfl)
    (hs2 : starEach [.Call (.Name "reversed" p2) [e] [] pos2] X.env = (false, eval (.Call (.Name "reversed" p2) [e] [] pos2) X.env) :: starEach [] X.env := by rfl) :
    PI X (.Tuple elts kk tpos) (.Call (.Name "enumerate" p) [.Call (.Name "reversed" p2) [e] [] pos2] [] pos) (iEnumR X.K te) := by
  refine ⟨fun pins s σ H R I h => ?_⟩
  refine Call_ (ld_blt I hg hm boot_enumerate (PyProof.Rows.callWith_type1 (args_cons ?_ hs2) hs2 rfl))
  refine Call_ (ld_blt I hg2 hm2 PyProof.Rows.boot_reversed (PyProof.Rows.callWith_type1 (args_cons (thn (he.run pins s σ H _ I h) fun u s1 ⟨v, H1, I1, r1, q1⟩ => args_nil ?_) hs) hs rfl))
  obtain ⟨a, xs, ev, hq, q⟩ := q1
  subst ev
  obtain rfl : u = Value.ref a := r1
  obtain ⟨its, rv, p', hz⟩ := I1.list hq
  have hl := rv.length
  have hal : a < s1.heap.objs.size := by obtain ⟨_, z, _⟩ := p'.isList; exact Heap.lt_size z
  have e1 : ((its.toArray.size : Nat) : Int) - 1 = (xs.length : Int) - 1 - ((0 : Nat) : Int) := by simp only [List.size_toArray]; omega
  refine call_reversed_list p'.isList (args_nil ?_)
  refine call_enumerate_rev (l := a) (i := ((its.toArray.size : Nat) : Int) - 1) (Heap.get?_push_size _ rfl) ?_
  have hz1 : (s1.heap.push (revObj a ((its.toArray.size : Nat) - 1))).objs.size = s1.heap.objs.size + 1 := Heap.size_push ..
  have he1 : IsEnum ((s1.heap.push (revObj a (((its.toArray.size : Nat) : Int) - 1))).push { cls := .type "enumerate", data := .fields #[.none, .bool false, .ref s1.heap.objs.size, rawInt 0, .none, .none] }) (s1.heap.objs.size + 1) s1.heap.objs.size 0 .none := by
    have := Heap.get?_push_size (s1.heap.push (revObj a (((its.toArray.size : Nat) : Int) - 1))) (o := { cls := .type "enumerate", data := .fields #[.none, .bool false, .ref s1.heap.objs.size, rawInt 0, .none, .none] }) rfl
    rw [hz1] at this; exact this
  show wpAny _ _ (pyIter (.ref (s1.heap.push (revObj a (((its.toArray.size : Nat) : Int) - 1))).objs.size)) _ _ _
  rw [hz1]
  refine wpAny_pyIter_enum he1 ?_
  have I2 := I1.kept (t' := s1.toks) (h' := (s1.heap.push (revObj a (((its.toArray.size : Nat) : Int) - 1))).push { cls := .type "enumerate", data := .fields #[.none, .bool false, .ref s1.heap.objs.size, rawInt 0, .none, .none] }) fun b ob z => Heap.get?_push_of_some _ (Heap.get?_push_of_some _ z)
  refine ⟨s1.heap.objs.size + 1, [s1.heap.objs.size + 1, s1.heap.objs.size], _, _, H1, rfl, I2, turn_enumR a (s1.heap.objs.size + 1) s1.heap.objs.size xs.length (Nat.ne_of_lt (Nat.lt_succ_of_lt hal)) (Nat.ne_of_lt hal), ⟨⟨.none, he1⟩, ?_, Nat.succ_ne_self _, Nat.zero_le _⟩, fun b hb => ?_, q⟩
  · rw [← e1]
    exact ⟨_, Heap.get?_push_of_some _ (Heap.get?_push_size _ rfl), rfl, rfl⟩
  · have e' : b = s1.heap.objs.size + 1 ∨ b = s1.heap.objs.size := by simpa using hb
    have hle : s1.heap.objs.size ≤ b := by
      rcases e' with z | z
      · rw [z]; exact Nat.le_add_right _ _
      · rw [z]; exact Nat.le_refl _
    exact I1.fpOk hle (I1.hok.fresh hle)
theorem walk_enumR {K : PySem.W.Frag} {a : Addr} {xs : List V} : Walk (Iter K a xs.length) xs.length (fun H => SqL K H a xs) (YPair (fun i => some (.int (i : Nat))) (fun i => xs[xs.length - 1 - i]?)) := by
  refine ⟨fun i _ hi q => ⟨xs, xs[xs.length - 1 - i]'(by omega), q, rfl, hi, by simp [show xs.length - 1 - i < xs.length by omega]⟩, fun _ q => ⟨xs, q, rfl, Nat.le_refl _⟩, fun i H v H' _ q y => ?_⟩
  obtain ⟨T, x, h1, h2, h3, h4⟩ := y
  exact ⟨T, .int (i : Nat), x, h1, h2, h3, rfl, h4 xs q⟩
end OB
namespace OB
open PySem PySem.Spec PyProof.Rows L2
/-- a text from its end -/
def revT (x : Str) : Str := ⟨x.cps.reverse⟩
theorem sliceBy_rev (x : Str) (u : Tok) : Txt.sliceBy x none none (-1, u) = revT x := by
  have h := step_rev_list x u
  have e : (Txt.sliceBy x none none (-1, u)).cps = x.cps.reverse := by
    apply Array.toList_inj.mp
    rw [h, Array.toList_reverse]
    apply List.ext_getElem
    · simp [Str.length]
    · intro i h1 h2
      simp [Str.length] at h1
      simp [Array.getD, Str.length, h1, show x.cps.size - 1 - i < x.cps.size by omega]
  show Txt.sliceBy x none none (-1, u) = ⟨x.cps.reverse⟩
  rw [← e]
section
variable {X : Cx}
def tRevS (te : TE) : TE := fun σ H Q => te σ H fun x H1 => ∃ z, x = .str z ∧ z.length ≤ sizeLine ∧ Q (.str (revT z)) H1
theorem pe_revS {e : Expr} {te : TE} {k : Nat} {p1 p2 p3 pos : Pos} (he : PE X e te)
    (ht : ∀ x t r, letTemporaryGo e (.str x t) r = pure () := by intro _ _ _; with_unfolding_all rfl) : PE X (.Subscript e (.Slice none none (some (.UnaryOp .USub (.Constant (.int 1) k p1) p2)) p3) pos) (tRevS te) := by
  refine ⟨fun pins s σ H Q I h => ?_⟩
  refine Subscript_ (thn (he.run pins s σ H _ I h) fun v s1 ⟨x, H1, I1, r1, q1⟩ => ?_)
  obtain ⟨z, ex, hz, q⟩ := q1
  subst ex
  obtain ⟨t, rfl⟩ := r1
  have hst : PO X (some (.UnaryOp .USub (.Constant (.int 1) k p1) p2)) (tPart (tUn (rU fun i => .int (-i)) (tC (.int 1)))) := po_some (pe_un un_neg pe_int)
  refine wpAny_Slice (thn (po_none.run pins s1 σ H1 (fun o H2 => o = none ∧ H2 = H1) I1 ⟨rfl, rfl⟩) fun vl s2 ⟨l, H2, I2, pl, el, e2⟩ => ?_)
  subst el e2
  refine thn (po_none.run pins s2 σ H2 (fun o H3 => o = none ∧ H3 = H2) I2 ⟨rfl, rfl⟩) fun vu s3 ⟨u, H3, I3, pu, eu, e3⟩ => ?_
  subst eu e3
  refine thn (hst.run pins s3 σ H3 (fun o H4 => o = some (-1) ∧ H4 = H3) I3 ⟨1, rfl, -1, rfl, rfl, rfl⟩) fun vs s4 ⟨o, H4, I4, ps, eo, e4⟩ => ?_
  subst eo e4
  have I5 : Inv X pins σ H4 { s4 with heap := s4.heap.push { cls := .type "slice", data := .fields #[vl, vu, vs] } } := I4.kept (t' := s4.toks) fun b ob q => Heap.get?_push_of_some _ q
  have evl : vl = .none := by cases pl; rfl
  have evu : vu = .none := by cases pu; rfl
  obtain ⟨w, evs⟩ : ∃ w, vs = .int (-1) w := by cases ps; exact ⟨_, rfl⟩
  subst evl evu evs
  show wpAny (model X.prog X.w) X.A (subscriptTail e (.Slice none none (some (.UnaryOp .USub (.Constant (.int 1) k p1) p2)) p3) (.str z t) (.ref s4.heap.objs.size)) (EP X pins σ Q) X.xe { s4 with heap := s4.heap.push { cls := .type "slice", data := .fields #[.none, .none, .int (-1) w] } }
  refine tail_of_ItemOn ⟨"str", _, F.slot_str_getitem.lookup, typeIs_str _ _ _, wpAny_getItem_str_slice (l := none) (u := none) (st := some (-1, w)) ⟨_, Heap.get?_push_size _ rfl, rfl, rfl⟩ rfl
    (post_val_or_str ⟨Nat.le_trans (Txt.sliceBy_le z _ _ (-1, w) (by show (-1 : Int) ≠ 0; decide)) hz, fun t' c => ?_⟩)⟩ (by with_unfolding_all rfl) (ht z t)
  refine (show EP X pins σ Q (.str (Txt.sliceBy z none none (-1, w)) t') _ from ?_)
  rw [sliceBy_rev]
  exact ⟨.str (revT z), H4, I5.tok _, ⟨_, rfl⟩, q⟩
end
end OB
/-! Ones of a number, pairs of neighbours below it. -/
namespace M04
theorem two_pos (k : Nat) : 0 < 2 ^ k := Nat.pow_pos (by decide)
def cnt (n : Nat) : Nat → Nat
  | 0 => 0
  | k + 1 => cnt n k + n / 2 ^ k % 2
theorem cnt_low (n k : Nat) : cnt n (k + 1) = n % 2 + cnt (n / 2) k := by
  induction k with
  | zero =>
    show 0 + n / 2 ^ 0 % 2 = n % 2 + 0
    rw [Nat.pow_zero, Nat.div_one]
    omega
  | succ k ih =>
    show cnt n (k + 1) + n / 2 ^ (k + 1) % 2 = n % 2 + (cnt (n / 2) k + n / 2 / 2 ^ k % 2)
    rw [ih, Nat.div_div_eq_div_mul, Nat.pow_succ, Nat.mul_comm 2]
    omega
def pc (n : Nat) : Nat := cnt n n
theorem cnt_zero (k : Nat) : cnt 0 k = 0 := by
  induction k with
  | zero => rfl
  | succ k ih =>
    show cnt 0 k + 0 / 2 ^ k % 2 = 0
    rw [ih, Nat.zero_div]
theorem cnt_more {n k : Nat} (h : n < 2 ^ k) : cnt n (k + 1) = cnt n k := by
  show cnt n k + n / 2 ^ k % 2 = cnt n k
  rw [Nat.div_eq_of_lt h]
  rfl
theorem cnt_up {n k : Nat} (h : n < 2 ^ k) (m : Nat) : cnt n (k + m) = cnt n k := by
  induction m with
  | zero => rfl
  | succ m ih =>
    have h2 : n < 2 ^ (k + m) := Nat.lt_of_lt_of_le h (Nat.pow_le_pow_right (by decide) (Nat.le_add_right k m))
    exact (cnt_more h2).trans ih
theorem cnt_pc {n k : Nat} (h : n < 2 ^ k) : cnt n k = pc n := by
  unfold pc
  have h2 : n < 2 ^ n := Nat.lt_two_pow_self
  by_cases c : k ≤ n
  · have e := cnt_up h (n - k)
    rw [show k + (n - k) = n by omega] at e
    exact e.symm
  · have e := cnt_up h2 (k - n)
    rw [show n + (k - n) = k by omega] at e
    exact e
theorem pc_half (n : Nat) : pc n = n % 2 + pc (n / 2) := by
  have h : n < 2 ^ (n + 1) := Nat.lt_trans Nat.lt_two_pow_self (Nat.pow_lt_pow_right (by decide) (Nat.lt_succ_self n))
  have h2 : n / 2 < 2 ^ n := by
    rw [Nat.pow_succ] at h
    omega
  rw [← cnt_pc h, cnt_low, cnt_pc h2]
theorem pc_two (n : Nat) : pc (2 * n) = pc n := by
  rw [pc_half, show 2 * n % 2 = 0 by omega, show 2 * n / 2 = n by omega, Nat.zero_add]
theorem pc_odd (n : Nat) : pc (2 * n + 1) = pc n + 1 := by
  rw [pc_half, show (2 * n + 1) % 2 = 1 by omega, show (2 * n + 1) / 2 = n by omega, Nat.add_comm]
theorem pc_zero : pc 0 = 0 := rfl
/-- the ones of all words below n -/
def E : Nat → Nat
  | 0 => 0
  | n + 1 => E n + pc n
theorem E_two (m : Nat) : E (2 * m) = 2 * E m + m := by
  induction m with
  | zero => rfl
  | succ m ih =>
    show E (2 * m) + pc (2 * m) + pc (2 * m + 1) = 2 * (E m + pc m) + (m + 1)
    rw [ih, pc_two, pc_odd]
    omega
theorem E_odd (m : Nat) : E (2 * m + 1) = E m + E (m + 1) + m := by
  show E (2 * m) + pc (2 * m) = E m + (E m + pc m) + m
  rw [E_two, pc_two]
  omega
theorem E_even (m : Nat) : E (2 * m + 2) = 2 * E (m + 1) + m + 1 := E_two (m + 1)
def T (b : Nat) : Nat := b * 2 ^ b / 2
theorem T_succ (b : Nat) : T (b + 1) = (b + 1) * 2 ^ b := by
  unfold T
  rw [Nat.pow_succ, ← Nat.mul_assoc, Nat.mul_div_cancel _ (by decide)]
theorem T_two (b : Nat) : 2 * T b = b * 2 ^ b := by
  cases b with
  | zero => rfl
  | succ b => rw [T_succ, Nat.pow_succ, Nat.mul_comm 2, Nat.mul_assoc]
theorem pc_pow (q b : Nat) : pc (q * 2 ^ b) = pc q := by
  induction b with
  | zero => rw [Nat.pow_zero, Nat.mul_one]
  | succ b ih => rw [Nat.pow_succ, ← Nat.mul_assoc, Nat.mul_comm, pc_two, ih]
theorem E_pow (q b : Nat) : E (q * 2 ^ b + 2 ^ b) = E (q * 2 ^ b) + pc q * 2 ^ b + T b := by
  induction b with
  | zero =>
    show E (q * 1 + 1) = E (q * 1) + pc q * 1 + 0
    rw [Nat.mul_one, Nat.mul_one]
    rfl
  | succ b ih =>
    have e1 : q * 2 ^ (b + 1) = 2 * (q * 2 ^ b) := by rw [Nat.pow_succ, ← Nat.mul_assoc, Nat.mul_comm]
    have e2 : 2 ^ (b + 1) = 2 * 2 ^ b := by rw [Nat.pow_succ, Nat.mul_comm]
    rw [e1, e2, ← Nat.mul_add, E_two, E_two, ih, T_succ, Nat.mul_add, Nat.mul_add, T_two, Nat.add_mul]
    have e3 : pc q * (2 * 2 ^ b) = 2 * (pc q * 2 ^ b) := by rw [← Nat.mul_assoc, Nat.mul_comm (pc q), Nat.mul_assoc]
    rw [e3]
    omega
/-- the bits of n below c, descending -/
def D (n : Nat) : Nat → List Nat
  | 0 => []
  | c + 1 => if n / 2 ^ c % 2 = 1 then c :: D n c else D n c
def S : List Nat → Nat → Nat → Nat
  | [], _, acc => acc
  | b :: r, a, acc => S r (a + 1) (acc + a * 2 ^ b + T b)
theorem S_is (n c : Nat) : S (D n c) (pc (n / 2 ^ c)) (E (n / 2 ^ c * 2 ^ c)) = E n := by
  induction c with
  | zero =>
    show E (n / 2 ^ 0 * 2 ^ 0) = E n
    rw [Nat.pow_zero, Nat.div_one, Nat.mul_one]
  | succ c ih =>
    have e : n / 2 ^ (c + 1) = n / 2 ^ c / 2 := by rw [Nat.pow_succ, Nat.div_div_eq_div_mul]
    have e2 : n / 2 ^ (c + 1) * 2 ^ (c + 1) = 2 * (n / 2 ^ c / 2) * 2 ^ c := by
      rw [e, Nat.pow_succ, Nat.mul_comm (2 ^ c), ← Nat.mul_assoc, Nat.mul_comm _ 2]
    unfold D
    by_cases h : n / 2 ^ c % 2 = 1
    · rw [if_pos h, e2, e]
      show S (D n c) (pc (n / 2 ^ c / 2) + 1) (E (2 * (n / 2 ^ c / 2) * 2 ^ c) + pc (n / 2 ^ c / 2) * 2 ^ c + T c) = E n
      have p1 : pc (n / 2 ^ c / 2) + 1 = pc (n / 2 ^ c) := by rw [pc_half (n / 2 ^ c), h, Nat.add_comm]
      have p2 : pc (n / 2 ^ c / 2) = pc (2 * (n / 2 ^ c / 2)) := (pc_two _).symm
      have p3 : 2 * (n / 2 ^ c / 2) * 2 ^ c + 2 ^ c = n / 2 ^ c * 2 ^ c := by
        have z : n / 2 ^ c = 2 * (n / 2 ^ c / 2) + 1 := by omega
        conv => rhs; rw [z]
        rw [Nat.add_mul, Nat.one_mul]
      rw [p1, p2, ← E_pow, p3]
      exact ih
    · rw [if_neg h, e2, e]
      have z : 2 * (n / 2 ^ c / 2) = n / 2 ^ c := by omega
      have p1 : pc (n / 2 ^ c / 2) = pc (n / 2 ^ c) := by
        have q := pc_two (n / 2 ^ c / 2)
        rw [z] at q
        exact q.symm
      rw [z, p1]
      exact ih
theorem S_all {n c : Nat} (h : n < 2 ^ c) : S (D n c) 0 0 = E n := by
  have e := S_is n c
  rw [Nat.div_eq_of_lt h, Nat.zero_mul] at e
  exact e
theorem E_two_pow (p : Nat) : E (2 * 2 ^ p) = (p + 1) * 2 ^ p := by
  have e := E_pow 0 (p + 1)
  rw [Nat.zero_mul, Nat.zero_add, T_succ] at e
  have e2 : 2 ^ (p + 1) = 2 * 2 ^ p := by rw [Nat.pow_succ, Nat.mul_comm]
  rw [e2] at e
  rw [e]
  show 0 + 0 * _ + _ = _
  rw [Nat.zero_mul]
  omega
/-- the bits of n below c, ascending -/
theorem D_rev (n c : Nat) : (D n c).reverse = (List.range c).filter fun i => decide (n / 2 ^ i % 2 = 1) := by
  induction c with
  | zero => rfl
  | succ c ih =>
    rw [List.range_succ, List.filter_append, ← ih]
    show (if n / 2 ^ c % 2 = 1 then c :: D n c else D n c).reverse = _
    by_cases h : n / 2 ^ c % 2 = 1
    · rw [if_pos h, List.reverse_cons]
      simp [h]
    · rw [if_neg h]
      simp [h]
theorem D_lt {n c b : Nat} (h : b ∈ D n c) : b < c := by
  have e : b ∈ (D n c).reverse := List.mem_reverse.mpr h
  rw [D_rev] at e
  exact List.mem_range.mp (List.mem_filter.mp e).1
theorem D_len (n c : Nat) : (D n c).length ≤ c := by
  rw [← List.length_reverse, D_rev]
  exact Nat.le_trans (List.length_filter_le _ _) (by rw [List.length_range]; exact Nat.le_refl _)
/-! ### signs -/
/-- the signs of n to the base 2, the lowest first -/
def R (n : Nat) : List Nat := ((Nat.toDigits 2 n).map fun c => c.toNat).reverse
theorem R_small {n : Nat} (h : n < 2) : R n = [48 + n] := by
  unfold R
  rw [Nat.toDigits_of_lt_base h]
  have e : n = 0 ∨ n = 1 := by omega
  rcases e with rfl | rfl <;> rfl
theorem R_big {n : Nat} (h : 2 ≤ n) : R n = (48 + n % 2) :: R (n / 2) := by
  unfold R
  rw [Nat.toDigits_of_base_le (by decide) h, List.map_append, List.reverse_append]
  have e : n % 2 = 0 ∨ n % 2 = 1 := by omega
  rcases e with z | z <;> rw [z] <;> rfl
theorem R_facts : ∀ n : Nat, n < 2 ^ (R n).length ∧ (∀ i, i < (R n).length → (R n)[i]? = some (48 + n / 2 ^ i % 2)) := by
  intro n
  induction n using Nat.strongRecOn with
  | ind n ih =>
    by_cases h : n < 2
    · rw [R_small h]
      refine ⟨by show n < 2 ^ 1; omega, fun i hi => ?_⟩
      have hi : i < 1 := hi
      have e : i = 0 := by omega
      subst e
      show some (48 + n) = some (48 + n / 2 ^ 0 % 2)
      rw [Nat.pow_zero, Nat.div_one, Nat.mod_eq_of_lt h]
    · have h2 : 2 ≤ n := by omega
      obtain ⟨a, b⟩ := ih (n / 2) (by omega)
      rw [R_big h2]
      refine ⟨?_, fun i hi => ?_⟩
      · show n < 2 ^ ((R (n / 2)).length + 1)
        rw [Nat.pow_succ]
        omega
      · cases i with
        | zero =>
          show some (48 + n % 2) = some (48 + n / 2 ^ 0 % 2)
          rw [Nat.pow_zero, Nat.div_one]
        | succ i =>
          show (R (n / 2))[i]? = _
          rw [b i (by have hi : i + 1 < (R (n / 2)).length + 1 := hi; omega), Nat.div_div_eq_div_mul, Nat.pow_succ, Nat.mul_comm 2]
theorem R_len {n k : Nat} (hk : 0 < k) (h : n < 2 ^ k) : (R n).length ≤ k := by
  induction k generalizing n with
  | zero => exact absurd hk (by decide)
  | succ k ih =>
    by_cases c : n < 2
    · rw [R_small c]
      exact Nat.succ_le_succ (Nat.zero_le _)
    · rw [R_big (by omega)]
      rw [Nat.pow_succ] at h
      have hk2 : 0 < k := by
        cases k with
        | zero =>
          rw [Nat.pow_zero] at h
          omega
        | succ k => exact Nat.succ_pos k
      exact Nat.succ_le_succ (ih hk2 (by omega))
theorem R_count (n : Nat) : (R n).countP (fun c => decide (c = 49)) = pc n := by
  induction n using Nat.strongRecOn with
  | ind n ih =>
    by_cases h : n < 2
    · rw [R_small h]
      have e : n = 0 ∨ n = 1 := by omega
      rcases e with rfl | rfl <;> rfl
    · rw [R_big (by omega), List.countP_cons, ih (n / 2) (by omega), pc_half n]
      have e : n % 2 = 0 ∨ n % 2 = 1 := by omega
      rcases e with z | z <;> rw [z] <;> simp <;> omega
theorem cnt_le (n k : Nat) : cnt n k ≤ k := by
  induction k with
  | zero => exact Nat.le_refl _
  | succ k ih =>
    show cnt n k + n / 2 ^ k % 2 ≤ k + 1
    omega
theorem pc_le {n k : Nat} (h : n < 2 ^ k) : pc n ≤ k := by
  rw [← cnt_pc h]
  exact cnt_le n k
theorem E_le {n k : Nat} (h : n ≤ 2 ^ k) : E n ≤ n * k := by
  induction n with
  | zero => exact Nat.zero_le _
  | succ n ih =>
    have a := ih (Nat.le_of_succ_le h)
    have b := pc_le (n := n) (k := k) (Nat.lt_of_succ_le h)
    show E n + pc n ≤ (n + 1) * k
    rw [Nat.add_mul, Nat.one_mul]
    omega
theorem E_lt {n : Nat} (h : n < 2 ^ 402) : E n < 2 ^ 500 := by
  refine Nat.lt_of_le_of_lt (E_le (Nat.le_of_lt h)) ?_
  have a : n * 402 ≤ 2 ^ 402 * 402 := Nat.mul_le_mul_right _ (Nat.le_of_lt h)
  exact Nat.lt_of_le_of_lt a (by decide)
end M04
set_option maxHeartbeats 1000000
namespace M07
def gray (n : Nat) : Nat := n ^^^ (n >>> 1)
theorem gray_bit (n i : Nat) : (gray n).testBit i = (n.testBit i ^^ n.testBit (i + 1)) := by
  unfold gray
  rw [Nat.testBit_xor, Nat.testBit_shiftRight, Nat.add_comm 1 i]
theorem tele (p s : Nat) : (p ^^^ (p >>> s)) ^^^ ((p ^^^ (p >>> s)) >>> s) = p ^^^ (p >>> (2 * s)) := by
  apply Nat.eq_of_testBit_eq
  intro i
  simp only [Nat.testBit_xor, Nat.testBit_shiftRight]
  rw [show 2 * s + i = s + (s + i) by omega]
  cases p.testBit i <;> cases p.testBit (s + i) <;> cases p.testBit (s + (s + i)) <;> rfl
theorem xor_zero_eq {a b : Nat} (h : a ^^^ b = 0) : a = b := by
  apply Nat.eq_of_testBit_eq
  intro i
  have z : (a ^^^ b).testBit i = (0 : Nat).testBit i := by rw [h]
  rw [Nat.testBit_xor, Nat.zero_testBit] at z
  cases e1 : a.testBit i <;> cases e2 : b.testBit i <;> rw [e1, e2] at z <;> first | rfl | cases z
theorem half_zero {q : Nat} (h : q = q >>> 1) : q = 0 := by
  rw [Nat.shiftRight_eq_div_pow] at h
  omega
theorem gray_end {p s : Nat} (h : gray p < 2 ^ s) : p ^^^ (p >>> s) = p := by
  have e : (p >>> s) ^^^ ((p >>> s) >>> 1) = 0 := by
    have z : gray p >>> s = 0 := by
      rw [Nat.shiftRight_eq_div_pow]
      exact Nat.div_eq_of_lt h
    rw [← z]
    unfold gray
    apply Nat.eq_of_testBit_eq
    intro i
    simp only [Nat.testBit_xor, Nat.testBit_shiftRight]
    rw [show s + (1 + i) = 1 + (s + i) by omega]
  have e3 : p >>> s = 0 := half_zero (xor_zero_eq e)
  rw [e3, Nat.xor_zero]
theorem one_bit (x i : Nat) : decide (x / 2 ^ i % 2 = 1) = x.testBit i := (Nat.testBit_eq_decide_div_mod_eq).symm
theorem next_mod (x i : Nat) : x % 2 ^ (i + 1) = x % 2 ^ i + (if x.testBit i = true then 2 ^ i else 0) := by
  rw [Nat.pow_succ, Nat.mod_mul, ← one_bit]
  have h := Nat.mod_two_eq_zero_or_one (x / 2 ^ i)
  rcases h with h | h <;> simp [h]
/-- the lowest bit that is 0 -/
def Low (p low : Nat) : Prop := (∀ j, j < low → p.testBit j = true) ∧ p.testBit low = false
theorem low_mod {p low : Nat} (h : Low p low) : p % 2 ^ (low + 1) = 2 ^ low - 1 := by
  apply Nat.eq_of_testBit_eq
  intro i
  rw [Nat.testBit_mod_two_pow, Nat.testBit_two_pow_sub_one]
  by_cases h1 : i < low
  · rw [h.1 i h1, decide_eq_true h1, decide_eq_true (show i < low + 1 by omega)]
    rfl
  · by_cases h2 : i = low
    · subst h2
      rw [h.2]
      simp
    · rw [decide_eq_false (show ¬ i < low + 1 by omega), decide_eq_false h1]
      rfl
theorem two_pos (k : Nat) : 0 < 2 ^ k := Nat.two_pow_pos k
theorem low_p {p low : Nat} (h : Low p low) (i : Nat) : p.testBit i = if i < low + 1 then decide (i < low) else (p / 2 ^ (low + 1)).testBit (i - (low + 1)) := by
  have e := Nat.div_add_mod p (2 ^ (low + 1))
  rw [low_mod h] at e
  have l : 2 ^ low - 1 < 2 ^ (low + 1) := by
    have a := two_pos low
    rw [Nat.pow_succ]
    omega
  conv => lhs; rw [← e]
  rw [Nat.testBit_two_pow_mul_add _ l, Nat.testBit_two_pow_sub_one]
theorem low_s {p low : Nat} (h : Low p low) (i : Nat) : (p + 1).testBit i = if i < low + 1 then decide (low = i) else (p / 2 ^ (low + 1)).testBit (i - (low + 1)) := by
  have e := Nat.div_add_mod p (2 ^ (low + 1))
  rw [low_mod h] at e
  have a := two_pos low
  have l : 2 ^ low < 2 ^ (low + 1) := by
    rw [Nat.pow_succ]
    omega
  have e2 : p + 1 = 2 ^ (low + 1) * (p / 2 ^ (low + 1)) + 2 ^ low := by omega
  conv => lhs; rw [e2]
  rw [Nat.testBit_two_pow_mul_add _ l, Nat.testBit_two_pow]
theorem gray_next {p low : Nat} (h : Low p low) : gray (p + 1) = gray p ^^^ 2 ^ low := by
  apply Nat.eq_of_testBit_eq
  intro i
  rw [Nat.testBit_xor, gray_bit, gray_bit, low_p h, low_p h, low_s h, low_s h, Nat.testBit_two_pow]
  by_cases h1 : i < low
  · simp only [show i < low + 1 by omega, show i + 1 < low + 1 by omega, if_true]
    by_cases h2 : i + 1 < low
    · simp [h1, h2, show ¬ low = i by omega, show ¬ low = i + 1 by omega]
    · have h3 : low = i + 1 := by omega
      simp [h3]
  · by_cases h2 : i = low
    · subst h2
      simp
    · simp [show ¬ i < low + 1 by omega, show ¬ i + 1 < low + 1 by omega, show ¬ low = i by omega]
theorem xor_pow {x k : Nat} : x ^^^ 2 ^ k = if x.testBit k = true then x - 2 ^ k else x + 2 ^ k := by
  have split : x = 2 ^ (k + 1) * (x / 2 ^ (k + 1)) + ((if x.testBit k = true then 2 ^ k else 0) + x % 2 ^ k) := by
    have e := Nat.div_add_mod x (2 ^ (k + 1))
    rw [next_mod] at e
    omega
  have m := Nat.mod_lt x (two_pos k)
  have l1 : 2 ^ k + x % 2 ^ k < 2 ^ (k + 1) := by
    rw [Nat.pow_succ]
    omega
  have bits : ∀ (q r : Nat) (i : Nat), r < 2 ^ k → (2 ^ (k + 1) * q + (2 ^ k + r)).testBit i = ((2 ^ (k + 1) * q + r) ^^^ 2 ^ k).testBit i := by
    intro q r i hr
    have l2 : 2 ^ k + r < 2 ^ (k + 1) := by
      rw [Nat.pow_succ]
      omega
    have l3 : r < 2 ^ (k + 1) := by
      rw [Nat.pow_succ]
      omega
    rw [Nat.testBit_xor, Nat.testBit_two_pow_mul_add _ l2, Nat.testBit_two_pow_mul_add _ l3, Nat.testBit_two_pow]
    have er : 2 ^ k + r = 2 ^ k * 1 + r := by omega
    rw [er, Nat.testBit_two_pow_mul_add _ hr]
    by_cases h1 : i < k + 1
    · simp only [h1, if_true]
      by_cases h2 : i < k
      · simp [h2, show ¬ k = i by omega]
      · have h3 : i = k := by omega
        subst h3
        simp [Nat.testBit_lt_two_pow hr]
    · simp [h1, show ¬ k = i by omega]
  cases hb : x.testBit k with
  | true =>
    rw [hb] at split
    simp only [if_true] at split
    have e : 2 ^ (k + 1) * (x / 2 ^ (k + 1)) + x % 2 ^ k = x - 2 ^ k := by omega
    simp only [if_true]
    rw [← e]
    apply Nat.eq_of_testBit_eq
    intro i
    have b := bits (x / 2 ^ (k + 1)) (x % 2 ^ k) i m
    rw [← split] at b
    rw [Nat.testBit_xor, b, Nat.testBit_xor]
    cases (2 ^ (k + 1) * (x / 2 ^ (k + 1)) + x % 2 ^ k).testBit i <;> cases (2 ^ k).testBit i <;> rfl
  | false =>
    rw [hb] at split
    simp only [Bool.false_eq_true, if_false, Nat.zero_add] at split
    simp only [Bool.false_eq_true, if_false]
    have e : 2 ^ (k + 1) * (x / 2 ^ (k + 1)) + (2 ^ k + x % 2 ^ k) = x + 2 ^ k := by omega
    rw [← e]
    apply Nat.eq_of_testBit_eq
    intro i
    rw [bits (x / 2 ^ (k + 1)) (x % 2 ^ k) i m, ← split]
theorem gray_lt {n k : Nat} (h : n < 2 ^ k) : gray n < 2 ^ k := by
  unfold gray
  refine Nat.xor_lt_two_pow h ?_
  rw [Nat.shiftRight_eq_div_pow]
  exact Nat.lt_of_le_of_lt (Nat.div_le_self _ _) h
theorem gray_mod {n k : Nat} (h : n < 2 ^ k) : gray n % 2 ^ k = gray n := Nat.mod_eq_of_lt (gray_lt h)
end M07
/-! Promises of defs where it is known that no repr is under way: there repr of a list or a tuple is its text. -/
namespace OB
open PySem PySem.Spec PyProof.Rows L2 LamX
/-- what FnOk promises, asked only where no repr is under way -/
structure FnG (P : Program) (w : World) (K : PySem.W.Frag) (mg : Str → Option Value) (base : Heap) (CX : CXT) (k : Nat) (f : Addr) (fd : FuncData) (ps : List Str) (sp : Sp) : Prop where
  len : ∀ vs H Q E, sp vs H Q E → vs.length = ps.length
  run : ∀ (A : Around) (outer : List Env) (s : Shared) (H : Hp) (args : Args) (us : List Value) (vs : List V) (Q : VK) (E : XK), A.guards = some [] → Room k A → Env0 P w K mg base A outer s H → BindsTo s fd args (ps.zip us) → Vals vs us → sp vs H Q E →
    codeAny (model P w) A (.call (.ref f) args) (CR CX outer P w H s Q E) s
section
variable {P : Program} {w : World} {K : PySem.W.Frag} {mg : Str → Option Value} {base : Heap} {CX : CXT} {k : Nat} {f : Addr} {fd : FuncData} {ps : List Str} {sp : Sp}
theorem FnG.of (F : FnOk P w K mg base CX k f fd ps sp) : FnG P w K mg base CX k f fd ps sp := ⟨F.len, fun A outer s H args us vs Q E _ => F.run A outer s H args us vs Q E⟩
theorem fnG_of {name qual : Str} {params : Arguments} {body : List Stmt} {scope : Scope} {dV kV doc pm cdv ct oc : Value} {an od : Option Addr} {osl : Array (Option Value)} {N : List Str}
    (lk : K.lookup f = some ⟨oc, od, .func (PySem.W.fnOf name qual params body scope dV kV doc pm an cdv ct), osl⟩) (hcd : PySem.W.codeIn K cdv qual = true) (S : FnScope N ps scope) (len : ∀ vs H Q E, sp vs H Q E → vs.length = ps.length)
    (hbody : ∀ (A : Around) (outer : List Env) (s : Shared) (H : Hp) (vs : List V) (Q : VK) (E : XK), A.guards = some [] → Room k (A.deeper (envOfC qual scope s.heap.objs.size f cdv)) → sp vs H Q E →
      ∃ t, PSs (cxOf CX P w K mg base N qual scope f cdv A outer s H E) body t ∧ t { nx := fun _ H' => Q .non H', rt := Q } (L2.start N vs) H) :
    FnG P w K mg base CX (k + 1) f (PySem.W.fnOf name qual params body scope dV kV doc pm an cdv ct) ps sp :=
  ⟨len, fun A outer s H args us vs Q E hgd hr e0 hb r hsp => run_ofS lk hcd S hr e0 hb r (len _ _ _ _ hsp) fun hr' => hbody A outer s H vs Q E hgd hr' hsp⟩
theorem okG {x qual : Str} {st : Stmt} {N : List Str} (F : Fun K x qual st f fd) (S : FnScope N ps (defScope st)) (len : ∀ vs H Q E, sp vs H Q E → vs.length = ps.length)
    (hbody : ∀ (cdv : Value) (A : Around) (outer : List Env) (s : Shared) (H : Hp) (vs : List V) (Q : VK) (E : XK), A.guards = some [] → Room k (A.deeper (envOfC qual (defScope st) s.heap.objs.size f cdv)) → sp vs H Q E →
      ∃ t, PSs (cxOf CX0 P w K mg base N qual (defScope st) f cdv A outer s H E).nox (defBody st) t ∧ t { nx := fun _ H' => Q .non H', rt := Q } (L2.start N vs) H) : FnG P w K mg base CX0 (k + 1) f fd ps sp := by
  obtain ⟨oc, od, kV, doc, pm, an, cdv, ct, osl, rfl, lk, hcd⟩ := F.ex
  refine fnG_of lk hcd S len fun A outer s H vs Q E hgd hr hsp => ?_
  obtain ⟨t, h, q⟩ := hbody cdv A outer s H vs Q E hgd hr hsp
  exact ⟨t, h.nox, q⟩
end
section
variable {X : Cx} {CX : CXT} {k : Nat} {f : Addr} {fd : FuncData} {ps : List Str} {sp : Sp} {E : XK} {x : Str} {p pos : Pos} {e : Expr} {es : List Expr} {t : TA} {ds : List Value} {dvs : List V}
theorem run_fnG {pins : List (Addr × Obj)} {σ : L2.St} {H : Hp} {s : Shared} {Q : VK} {us : List Value} {vs : List V} (F : FnG X.prog X.w X.K X.mg X.base CX k f fd ps sp) (hgd : X.A.guards = some []) (hr : Room k X.A) (hb : L2.Binds X.K fd ps ds) (hd : Vals dvs ds) (hx : Passes CX X E)
    (I : Inv X pins σ H s) (r : Vals vs us) (h : sp (vs ++ dvs) H Q E) : wpAny (model X.prog X.w) X.A (call (.ref f) us) (EP X pins σ Q) X.xe s := by
  have r2 : Vals (vs ++ dvs) (us ++ ds) := r.append hd
  have hl : (us ++ ds).length = ps.length := r2.length ▸ F.len _ _ _ _ h
  refine wpAny_call (codeAny_mono (F.run X.A X.stack s H ⟨us, []⟩ (us ++ ds) (vs ++ dvs) Q E hgd hr I.env0 (hb s us I.kIn hl) r2 h) fun res s' hq => ?_)
  match res, hq with
  | .error _, hq => exact hx pins σ H s _ s' I hq
  | .ok (.ret _), hq => exact I.after hq
/-- f(e, ..), f promised where no repr is under way -/
theorem pe_callG (F : FnG X.prog X.w X.K X.mg X.base CX k f fd ps sp) (hgd : X.A.guards = some []) (hr : Room k X.A) (hg : Gl X x) (hm : X.mg x = some (.ref f)) (hk : PySem.W.keepIn X.K (.ref f) = true) (hb : L2.Binds X.K fd ps ds) (hd : Vals dvs ds) (hx : Passes CX X E)
    (ha : PA X (e :: es) t) (hdb : (x == ("__debug__" : Str)) = false := by decide) (he : starEach (e :: es) X.env = (false, eval e X.env) :: starEach es X.env := by rfl) (hpl : (backTo pos (starEach es X.env)).any (·.1) = false := by rfl) :
    PE X (.Call (.Name x p) (e :: es) [] pos) (tCall sp dvs E t) :=
  ⟨fun pins s σ H Q I h => wpAny_Call_Name_kw (ld_glob I hg hm (PySem.W.callWith_K (h₀ := X.base) I.ok.mod.kin hk (thn (ha.run pos pins s σ H _ I h) fun us s1 ⟨vs, H1, I1, r, q⟩ => ⟨I1.kIn, run_fnG F hgd hr hb hd hx I1 r q⟩) he hpl) hdb)⟩
/-- repr(x), x data of lists and tuples -/
def rReprD (K : PySem.W.Frag) : List V → Hp → VK → Prop := fun xs H Q => ∃ (a : Addr) (d : PyData), xs = [.ref a] ∧ Dp K H (.ref a) d ∧ d.showable = true ∧ d.canLay0 = true ∧ d.depth ≤ 60 ∧ d.shown.length ≤ sizeLine ∧ Q (.str d.shown) H
theorem call_reprD (hgd : X.A.guards = some []) (hu : X.A.units + 64 < cLine) : CallR X (.builtin "repr") (rReprD X.K) := by
  intro pins s σ H xs us Q I r h
  obtain ⟨a, d, rfl, hd, hs, hl, hdp, hz, q⟩ := h
  cases r with
  | cons r rr =>
    cases rr
    obtain ⟨as, rd⟩ := Dp.reads I d _ _ hd r
    cases r
    refine repr_of_reads' rd hs (PyData.noDict_hsm (PyData.hasDict_of_canLay d hl)) hgd (by omega) (fun _ _ e => e) (fun h' u tk hk => ?_) hz
    exact ⟨.str d.shown, H, I.kept hk, ⟨_, rfl⟩, q⟩
end
end OB
/-! The law's own call, its promise asked only where no repr is under way. -/
namespace OB
open PySem PySem.Spec PyProof.Rows L2 LamX
section
variable {P : Program} {w : World} {K : PySem.W.Frag} {mg mb : Str → Option Value} {CX : CXT} {k : Nat} {fa a : Addr} {cs : List (Addr × Addr)} {fd : FuncData} {x : Str} {sp : Sp} {s₁ : Shared} {vs : List Value} {ns : List Int}
/-- what is tracked as the law begins: its script, where it is no part of the text's own objects, and the tables of its lambdas -/
def top (K : PySem.W.Frag) (a : Addr) (vs : List Value) (ns : List Int) (T : List Addr) : Hp := fun b =>
  if b = a then (if K.lookup a = none then some (.frz { cls := .type "list", data := .seq vs.toArray } (.lst (ns.map V.int))) else none) else if b ∈ T then some (.tbl #[]) else none
theorem top_some {T : List Addr} {b : Addr} {u : HO} (h : top K a vs ns T b = some u) :
    (b = a ∧ K.lookup a = none ∧ u = .frz { cls := .type "list", data := .seq vs.toArray } (.lst (ns.map V.int))) ∨ (b ≠ a ∧ b ∈ T ∧ u = .tbl #[]) := by
  unfold top at h
  by_cases e : b = a
  · rw [if_pos e] at h
    by_cases n : K.lookup a = none
    · rw [if_pos n] at h
      exact .inl ⟨e, n, (Option.some.inj h).symm⟩
    · rw [if_neg n] at h
      cases h
  · rw [if_neg e] at h
    by_cases m : b ∈ T
    · rw [if_pos m] at h
      exact .inr ⟨e, m, (Option.some.inj h).symm⟩
    · rw [if_neg m] at h
      cases h
theorem top_none {T : List Addr} {b : Addr} (h1 : b = a → K.lookup a ≠ none) (h2 : b ∉ T) : top K a vs ns T b = none := by
  cases e : top K a vs ns T b with
  | none => rfl
  | some u =>
    rcases top_some e with ⟨q, n, _⟩ | ⟨_, m, _⟩
    · exact absurd n (h1 q)
    · exact absurd m h2
theorem law_callG (KX : K.In s₁.heap) (hns : s₁.heap.Ns mainGlobals mg) (hb : s₁.heap.Ns builtinsNs mb) (hbb : ∀ x : Str, x ≠ "__name__" → mb x = bootBuiltins x) (hlim : s₁.heap.NoLimit) (hg : s₁.gens = #[])
    (hT : ∀ p ∈ cs, s₁.heap.get? p.2 = some { cls := .none, data := .fields #[] }) (nT : ∀ p ∈ cs, K.lookup p.2 = none) (C : ∀ p ∈ cs, PySem.W.CodeHd s₁.heap p.1 p.2)
    (hbm : ∃ (bm : Addr) (ob : Obj), mg "__builtins__" = some (.ref bm) ∧ bm ≠ builtinsNs ∧ s₁.heap.get? bm = some ob ∧ ob.cls = .type "module" ∧ ob.dict = some builtinsNs ∧ ob.data = .plain)
    (ha : s₁.heap.get? a = some { cls := .type "list", data := .seq vs.toArray }) (hi : IntsAre vs ns) (hl : ns.length ≤ sizeLine) (hr : Room k callerA)
    (F : ∀ base : Heap, K.In base → base.Ns mainGlobals mg → (∀ p ∈ cs, TabB base mg p.1 p.2) → FnG P w K mg base CX k fa fd [x] sp) (hbind : ∀ (s : Shared) (u : Value), BindsTo s fd ⟨[u], []⟩ [(x, u)])
    (hsp : ∀ H : Hp, (∀ p ∈ cs, H p.2 = some (.tbl #[])) → SqL K H a (ns.map V.int) → sp [.ref a] H (fun v _ => v = .bl true) fun _ _ _ => False)
    (hCX : ∀ H e s', CX [] H s₁ (fun _ _ _ => False) e s' → False) :
    codeAny (model P w) callerA (.call (.ref fa) ⟨[.ref a], []⟩) (fun r s' => r = .ok (.ret (.bool true)) ∧ OldK s₁.heap s'.heap ∧ s'.os = s₁.os ∧ AllBare s'.gens) s₁ := by
  have rv := vals_ints hi
  obtain ⟨T, eT⟩ : ∃ T, T = cs.map (·.2) := ⟨_, rfl⟩
  have inT : ∀ p ∈ cs, p.2 ∈ T := fun p hp => eT ▸ List.mem_map.mpr ⟨p, hp, rfl⟩
  have ofT : ∀ b ∈ T, ∃ p ∈ cs, p.2 = b := fun b h => List.mem_map.mp (eT ▸ h)
  have tab : ∀ b ∈ T, s₁.heap.get? b = some { cls := .none, data := .fields #[] } := fun b h => by
    obtain ⟨p, hp, rfl⟩ := ofT b h
    exact hT p hp
  have aT : a ∉ T := fun z => by
    have q := (tab a z).symm.trans ha
    have q := congrArg Obj.data (Option.some.inj q)
    cases q
  obtain ⟨H, eH⟩ : ∃ H, H = top K a vs ns T := ⟨_, rfl⟩
  have some_ : ∀ {b u}, H b = some u → (b = a ∧ K.lookup a = none ∧ u = .frz { cls := .type "list", data := .seq vs.toArray } (.lst (ns.map V.int))) ∨ (b ≠ a ∧ b ∈ T ∧ u = .tbl #[]) := fun h => top_some (by rw [eH] at h; exact h)
  have hH : ∀ p ∈ cs, H p.2 = some (.tbl #[]) := fun p hp => by
    have ne : p.2 ≠ a := fun z => aT (z ▸ inT p hp)
    rw [eH]
    unfold top
    rw [if_neg ne, if_pos (inT p hp)]
  have hok : HOk P w H s₁.heap := fun b u z => by
    rcases some_ z with ⟨rfl, _, rfl⟩ | ⟨_, m, rfl⟩
    · exact ⟨ha, by rw [List.length_map]; exact hl, vs, _, rv, ha⟩
    · exact tab b m
  have hS : SqL K H a (ns.map V.int) := by
    cases hk : K.lookup a with
    | none =>
      refine .inl (.inr ⟨{ cls := .type "list", data := .seq vs.toArray }, ?_⟩)
      rw [eH]
      unfold top
      rw [if_pos rfl, if_pos hk]
    | some o =>
      have e := (KX a o hk).symm.trans ha
      cases e
      exact .inr ⟨_, vs.toArray, _, hk, rfl, rfl, rfl, by rw [List.size_toArray, hi.length]; exact hl, by simpa using rv⟩
  -- what is no list and no empty table is not tracked
  have bare : ∀ {b : Addr} {o : Obj}, s₁.heap.get? b = some o → (∀ vs n, o.data ≠ .seq vs n) → o.data ≠ .fields #[] → H b = none := fun {b o} e h1 h2 => by
    cases q : H b with
    | none => rfl
    | some u =>
      rcases some_ q with ⟨rfl, _, _⟩ | ⟨_, m, _⟩
      · cases e.symm.trans ha
        exact (h1 _ _ rfl).elim
      · cases e.symm.trans (tab b m)
        exact (h2 rfl).elim
  have under : ∀ {b : Addr} {o : Obj}, s₁.heap.get? b = some o → H b = none → (hidT s₁.heap H).get? b = some o := fun e n => hidT_get e n
  have names : ∀ {b : Addr} {m : Str → Option Value}, s₁.heap.Ns b m → (hidT s₁.heap H).Ns b m := fun {b m} ⟨o, es, ep, e, d, r⟩ =>
    ⟨o, es, ep, under e (bare e (fun vs n z => by rw [d] at z; cases z) fun z => by rw [d] at z; cases z), d, r⟩
  have hKb : K.In (hidT s₁.heap H) := fun b o e => under (KX b o e) (by
    cases q : H b with
    | none => rfl
    | some u =>
      rcases some_ q with ⟨rfl, n, _⟩ | ⟨_, m, _⟩
      · rw [n] at e
        cases e
      · obtain ⟨p, hp, rfl⟩ := ofT b m
        rw [nT p hp] at e
        cases e)
  have hM : L2.Mod K mg (hidT s₁.heap H) := ⟨hKb, names hns, ⟨mb, names hb, hbb⟩, let ⟨mc, h1, h2⟩ := hlim; ⟨mc, names h1, h2⟩⟩
  have TB : ∀ p ∈ cs, TabB (hidT s₁.heap H) mg p.1 p.2 := fun p hp => by
    have hTp := hT p hp
    refine ⟨?_, ?_, fun z => ?_⟩
    · obtain ⟨o, us, file, tf, flags, tg, inF, text, tt, e1, r1, r2, r3, rest⟩ := C p hp
      exact ⟨o, us, file, tf, flags, tg, inF, text, tt, under e1 (bare e1 (fun vs n z => by rw [r2] at z; cases z) fun z => by
        rw [r2] at z
        cases z
        simp at r3), r1, r2, r3, rest⟩
    · obtain ⟨bm, ob, b1, b2, b3, b4, b5, b6⟩ := hbm
      refine ⟨bm, ob, b1, b2, fun q => ?_, fun q => ?_, under b3 (bare b3 (fun vs n z => by rw [b6] at z; cases z) fun z => by rw [b6] at z; cases z), b4, b5, b6⟩
      · obtain ⟨o, es, ep, e, hd, _⟩ := hns
        rw [q, e] at b3
        cases b3
        rw [hd] at b6
        cases b6
      · rw [q, hTp] at b3
        cases b3
        cases b6
    · obtain ⟨o, es, ep, e, hd, _⟩ := hns
      rw [z, hTp] at e
      cases e
      cases hd
  have e0 : Env0 P w K mg (hidT s₁.heap H) callerA [] s₁ H := ⟨rfl, hM, fun b o e => of_hidT e, Nat.le_of_eq (hidT_size _ _), trivial, fun b hb => absurd (show b ∈ ([] : List Addr) from hb) (by simp), hok, .of_eq hg⟩
  refine codeAny_mono ((F _ hKb (names hns) TB).run callerA [] s₁ H ⟨[.ref a], []⟩ [.ref a] [.ref a] _ _ rfl hr e0 (hbind s₁ (.ref a)) (.cons rfl .nil) (hsp H hH hS)) fun r s' h => ?_
  match r, h with
  | .error e, h => exact (hCX H e s' h).elim
  | .ok (.ret u), h =>
    obtain ⟨v, H', os, bs, un, hok', r', q⟩ := h
    have q : v = .bl true := q
    subst q
    obtain rfl : u = Value.bool true := r'
    have key : ∀ b o, b ∉ T → s₁.heap.get? b = some o → s'.heap.get? b = some o := fun b o nb e => by
      cases q : H b with
      | none => exact un.keep b o e q (by intro z; exact absurd (show b ∈ ([] : List Addr) from z) (by simp)) (by simp)
      | some u =>
        rcases some_ q with ⟨rfl, _, rfl⟩ | ⟨_, m, _⟩
        · obtain ⟨e1, _⟩ := hok b _ q
          obtain ⟨e2, _⟩ := hok' b _ (un.frzs b _ _ q)
          rw [e] at e1
          cases e1
          exact e2
        · exact absurd m nb
    have grown : ∀ p ∈ cs, ∃ more : Array Value, s'.heap.get? p.2 = some { cls := .none, data := .fields more } := fun p hp => by
      obtain ⟨more, z⟩ := un.tbls p.2 #[] (hH p hp)
      exact ⟨_, hok' p.2 _ z⟩
    refine ⟨rfl, ⟨fun b o e => ?_, fun b o e => ?_⟩, os, bs⟩
    · by_cases m : b ∈ T
      · obtain ⟨p, hp, rfl⟩ := ofT b m
        obtain ⟨more, hm⟩ := grown p hp
        rw [hT p hp] at e
        cases e
        exact .inr (.inl ⟨((C p hp).tab (hT p hp)).isCodeTable, rfl, #[], more, rfl, by rw [Array.empty_append]; exact hm⟩)
      · exact .inl (key b o m e)
    · by_cases m : b ∈ T
      · obtain ⟨p, hp, rfl⟩ := ofT b m
        obtain ⟨more, hm⟩ := grown p hp
        exact ⟨_, hm⟩
      · exact ⟨o, key b o m e⟩
/-- what is known of the law's promise at the head's heap -/
def LawG (l : PySem.W.OpenLaw) (w : World) (K : PySem.W.Frag) (CX : CXT) (k n : Nat) (x : Str) (mg : Str → Option Value) (fa : Addr) (h : Heap) : Prop :=
  ∃ (fd : FuncData) (cs : List (Addr × Addr)) (sp : Sp), ((∀ p ∈ cs, h.get? p.2 = some { cls := .none, data := .fields #[] }) ∧ (∀ p ∈ cs, K.lookup p.2 = none) ∧ (∀ p ∈ cs, PySem.W.CodeHd h p.1 p.2)) ∧ (∀ (s : Shared) (u : Value), BindsTo s fd ⟨[u], []⟩ [(x, u)]) ∧
    (∀ (H : Hp) (a : Addr) (ns : List Int), ns.length ≤ n → (∀ z ∈ ns, Builtin.Int.intBits z ≤ 1048576) → (∀ p ∈ cs, H p.2 = some (.tbl #[])) → SqL K H a (ns.map V.int) → sp [.ref a] H (fun v _ => v = .bl true) fun _ _ _ => False) ∧
    ∀ base : Heap, K.In base → base.Ns mainGlobals mg → (∀ p ∈ cs, TabB base mg p.1 p.2) → FnG l.prog w K mg base CX k fa fd [x] sp
end
theorem walk_G {l : PySem.W.OpenLaw} {n k : Nat} {q : Program} {loose : List Str} {XP : (Str → Option Value) → Heap → Prop} {YP : World → Heap → Prop} {d : DefRec} {K : Params → PySem.W.Frag} {CX : World → CXT} {x : Str}
    (hn : l.most = some n) (hn2 : n ≤ sizeLine) (hdf : d.params.defaults = []) (hr : Room k callerA) (hY : ∀ (w : World) (h : Heap), YP w h → (K w.params).In h)
    (F : ∀ (w : World) (mg : Str → Option Value) (fa : Addr) (h : Heap), YP w h → (K w.params).In h → h.Ns mainGlobals mg → mg d.name = some (.ref fa) → LawG l w (K w.params) (CX w) k n x mg fa h)
    (hCX : ∀ (w : World) (H : Hp) (s : Shared) (e : Value) (s' : Shared), CX w [] H s (fun _ _ _ => False) e s' → False) :
    PySem.W.WalkO q loose XP YP l.row.toRowW d [] (fun f vs => PySem.call f vs) := by
  refine Att.attach_callB hn hdf fun w s₀ s₁ mg mb fa o pm cd doc a vs ns G Y ho hd hcd hmg hobj hints hlen hbits hg => ?_
  have KX := hY w _ Y
  obtain ⟨fd, cs, sp, ⟨hT, nT, C⟩, hb, hsp, hF⟩ := F w mg fa _ Y KX G.T.g hmg
  exact law_callG KX G.T.g G.T.b G.T.builtins G.T.nolimit hg hT nT C G.T.bmain hobj hints (Nat.le_trans hlen hn2) hr hF hb (fun H hH hS => hsp H a ns hlen hbits hH hS) fun H e s' => hCX w H s₁ e s'
end OB
/-! len(set(x)) of a list or a tuple of ints, doubles among them. -/
namespace OB
open PySem PySem.Spec PyProof.Rows L2
theorem sub_len {α : Type} [DecidableEq α] : ∀ {l1 l2 : List α}, l1.Nodup → (∀ x ∈ l1, x ∈ l2) → l1.length ≤ l2.length
  | [], l2, _, _ => Nat.zero_le _
  | a :: r, l2, h, s => by
    have h2 := List.nodup_cons.mp h
    have ha : a ∈ l2 := s a List.mem_cons_self
    have ih := sub_len (l1 := r) (l2 := l2.erase a) h2.2 fun x hx => by
      have ne : x ≠ a := fun z => h2.1 (z ▸ hx)
      exact (List.mem_erase_of_ne ne).mpr (s x (List.mem_cons_of_mem _ hx))
    rw [List.length_erase_of_mem ha] at ih
    have pos : 0 < l2.length := List.length_pos_of_mem ha
    rw [List.length_cons]
    omega
theorem nodup_of_sub {α : Type} [DecidableEq α] : ∀ {l1 l2 : List α}, l1.Nodup → (∀ x ∈ l1, x ∈ l2) → l2.length ≤ l1.length → l2.Nodup
  | [], l2, _, _, hl => by
    have e : l2 = [] := List.length_eq_zero_iff.mp (Nat.le_zero.mp hl)
    rw [e]
    exact List.nodup_nil
  | a :: r, l2, h, s, hl => by
    have h2 := List.nodup_cons.mp h
    have ha : a ∈ l2 := s a List.mem_cons_self
    have hs : ∀ x ∈ r, x ∈ l2.erase a := fun x hx => by
      have ne : x ≠ a := fun z => h2.1 (z ▸ hx)
      exact (List.mem_erase_of_ne ne).mpr (s x (List.mem_cons_of_mem _ hx))
    have le := List.length_erase_of_mem ha
    have pos : 0 < l2.length := List.length_pos_of_mem ha
    rw [List.length_cons] at hl
    have ih := nodup_of_sub (l1 := r) (l2 := l2.erase a) h2.2 hs (by omega)
    have na : a ∉ l2.erase a := fun z => by
      have q := sub_len (l1 := a :: r) (l2 := l2.erase a) h fun x hx => by
        rcases List.mem_cons.mp hx with e | e
        · rw [e]
          exact z
        · exact hs x e
      rw [List.length_cons] at q
      omega
    exact ((List.perm_cons_erase ha).nodup_iff).mpr (List.nodup_cons.mpr ⟨na, ih⟩)
theorem same_len {α : Type} [DecidableEq α] {l1 l2 : List α} (h : l1.Nodup) (s : ∀ x, x ∈ l1 ↔ x ∈ l2) : l1.length ≤ l2.length ∧ (l1.length = l2.length ↔ l2.Nodup) := by
  have a := sub_len h fun x hx => (s x).mp hx
  refine ⟨a, fun e => nodup_of_sub h (fun x hx => (s x).mp hx) (by omega), fun e => ?_⟩
  have b := sub_len e fun x hx => (s x).mpr hx
  omega
theorem fm_nodup (val : Nat → Int) : ∀ i, (PyProof.Rows.firstMet val i).Nodup
  | 0 => List.nodup_nil
  | i + 1 => by
    rw [PyProof.Rows.firstMet_succ]
    have ih := fm_nodup val i
    show (if (PyProof.Rows.firstMet val i).any (· == val i) then PyProof.Rows.firstMet val i else PyProof.Rows.firstMet val i ++ [val i]).Nodup
    split
    · exact ih
    · rename_i h
      refine List.nodup_append.mpr ⟨ih, List.nodup_cons.mpr ⟨List.not_mem_nil, List.nodup_nil⟩, fun x hx y hy e => h ?_⟩
      rw [List.mem_singleton] at hy
      subst hy
      exact List.any_eq_true.mpr ⟨x, hx, by rw [e]; exact beq_self_eq_true _⟩
theorem fm_mem (ns : List Int) (x : Int) : x ∈ PyProof.Rows.firstMet (fun i => ns.getD i 0) ns.length ↔ x ∈ ns := by
  have e := PyProof.Rows.firstMet_any (fun i => ns.getD i 0) ns.length x
  have e2 : (List.range ns.length).map (fun i => ns.getD i 0) = ns := by
    apply List.ext_getElem
    · simp
    · intro i h1 h2
      simp [List.getD_eq_getElem?_getD, h2]
  rw [e2] at e
  have m : ∀ l : List Int, (l.any (· == x)) = true ↔ x ∈ l := fun l => by
    rw [List.any_eq_true]
    exact ⟨fun ⟨y, hy, ey⟩ => (eq_of_beq ey) ▸ hy, fun h => ⟨x, h, beq_self_eq_true _⟩⟩
  rw [← m, ← m, e]
/-- how many unlike ints -/
def tLenSet (K : PySem.W.Frag) (ta : TE) : TE := fun σ H Q => ta σ H fun x H1 => ∃ (p : Addr) (ns : List Int), x = .ref p ∧ (SqL K H1 p (ns.map V.int) ∨ SqT K H1 p (ns.map V.int)) ∧ ns.length ≤ 1100 ∧
  ∀ c : Nat, c ≤ ns.length → (c = ns.length ↔ ns.Nodup) → Q (.int (c : Nat)) H1
theorem pe_lenSet2 {X : Cx} {a : Expr} {ta : TE} {p p2 q pos : Pos} (hg : Gl X "len") (hm : X.mg "len" = none) (hg2 : Gl X "set") (hm2 : X.mg "set" = none) (ha : PE X a ta) (hc : X.calm = true := by rfl)
    (na : starEach [a] X.env = (false, eval a X.env) :: starEach [] X.env := by rfl) : PE X (.Call (.Name "len" p) [.Call (.Name "set" p2) [a] [] q] [] pos) (tLenSet X.K ta) := by
  refine ⟨fun pins s σ H Q I h => ?_⟩
  refine Call_ (ld_blt I hg hm boot_len ?_)
  refine PyProof.Rows.callWith_builtin1 (PyProof.Rows.args_cons ?_ rfl) rfl rfl
  refine Call_ (ld_blt I hg2 hm2 boot_set ?_)
  refine PyProof.Rows.callWith_type1 (PyProof.Rows.args_cons (thn (ha.run pins s σ H _ I h) fun v s1 ⟨x, H1, I1, r1, q1⟩ => PyProof.Rows.args_nil ?_) na) na rfl
  obtain ⟨l, ns, rfl, hq, hl, q1⟩ := q1
  cases r1
  rcases hq with hq | hq
  · obtain ⟨its, r, pl, hz⟩ := I1.list hq
    have hlen : its.toArray.size = ns.length := by rw [List.size_toArray, ← r.length, List.length_map]
    refine PySem.call_set_list (I1.ok.hd hc) pl.isList (ns := ns) (by simpa using RZ.intsAre_vals r) (by rw [hlen]; unfold scanBound; omega) fun h' tk hS hk => ?_
    refine PyProof.Rows.args_nil ?_
    rw [hlen] at hS
    have sl := same_len (fm_nodup (fun i => ns.getD i 0) ns.length) (fm_mem ns)
    obtain ⟨o, es, ep, t, ho, hex, hd, _, _, _, hf, hn⟩ := hS
    have I2 : Inv X pins σ H1 { s1 with heap := h', toks := tk } := I1.kept fun b o e => hk b o (Heap.lt_size e) e
    have q2 := q1 es.size (by rw [hn]; exact sl.1) (by rw [hn]; exact sl.2)
    exact call_len_set ho hex hd hf (by have := sl.1; omega) ⟨.int es.size, H1, I2.tok _, ⟨_, rfl⟩, q2⟩
  · obtain ⟨its, r, pt, hz⟩ := I1.tuple hq
    have hi : IntsAre its.toArray.toList ns := ints_of_vals r
    refine call_set_tupI ns (I1.ok.hd hc) (show s1.heap.IsTuple l its.toArray from pt) hi (by unfold scanBound; omega) fun h' tk c R1 hcn k => ?_
    refine PyProof.Rows.args_nil ?_
    obtain ⟨o, es, ep, t, ho, hex, hd, hgood, hnd, hmem, _, hf, hn, _⟩ := R1
    have I2 : Inv X pins σ H1 { s1 with heap := h', toks := tk } := I1.kept fun b o e => k b o e
    have sl := same_len (l2 := ns) hnd fun x => (by
      have z := (hmem x).symm
      simpa using z)
    rw [List.length_map, Array.length_toList] at sl
    have q2 := q1 es.size sl.1 sl.2
    exact call_len_set ho hex hd hf (by have := sl.1; omega) ⟨.int es.size, H1, I2.tok _, ⟨_, rfl⟩, q2⟩
end OB
set_option maxHeartbeats 4000000
/-! sorted(x) of a list or a tuple of ints. -/
namespace OB
open PySem PySem.Spec PyProof.Rows L2 SrtO
section
variable {prog : Program} {w : World} {A : Around} {E : Value → Shared → Prop} {s : Shared}
theorem collect_tup {l : Addr} {vs : List Value} {Q : List Value → Shared → Prop} (ht : IsTup s.heap l vs.toArray)
    (h : Q vs { s with heap := (s.heap.push (seqObj "list" #[] 0)).update s.heap.objs.size (Obj.mapSeq (· ++ vs.toArray)) }) (hz : vs.length ≤ sizeLine) :
    wpAny (model prog w) A (collect (.ref l)) Q E s := by
  obtain ⟨o, ho, hc, n, hd⟩ := id ht
  unfold collect
  refine wpAny_bind (wpAny_runValue (codeAny_builtin entry_proto_collect' ?_))
  show wpAny _ _ (do again (.builtin "list.__iadd__" ⟨[← newList [], .ref l], []⟩)) _ _ s
  refine wpAny_bind (wpAny_newList (wpAny_pure ⟨Code.quiet_builtin _ (by decide +kernel), codeAny_builtin entry_list_iadd' ?_⟩))
  show wpAny _ _ (Builtin.List.listExtendWith (.ref s.heap.objs.size) (.ref l) (.ref s.heap.objs.size)) _ _ { s with heap := s.heap.push (seqObj "list" #[] 0) }
  unfold Builtin.List.listExtendWith
  have o1 : (s.heap.push (seqObj "list" #[] 0)).get? l = some o := Heap.get?_push_of_some _ ho
  refine wpAny_bind (wpAny_typeOf (T := "tuple") ⟨o, o1, hc⟩ ?_)
  rw [if_pos (show (Builtin.List.listSameRef (Value.ref s.heap.objs.size) (Value.ref l) || Value.type "tuple" == Value.type "list" || Value.type "tuple" == Value.type "tuple") = true by
    rw [show (Value.type "tuple" == Value.type "tuple") = true from rfl, Bool.or_true])]
  refine wpAny_bind (listItems_at o1 hd (wpAny_bind (listItems_at (xs := #[]) (n := 0) (Heap.get?_push_size _ rfl) rfl ?_)))
  have room : ((#[] : Array Value) ++ vs.toArray).size ≤ sizeLine + 1 := by
    rw [Array.size_append, List.size_toArray, List.size_toArray, List.length_nil]
    omega
  rw [if_neg (show ¬ (!(#[] : Array Value).isEmpty && Builtin.List.listTooLong ((#[] : Array Value).size + vs.toArray.size)) = true from fun z => by
    have z : (false && _) = true := z
    rw [Bool.false_and] at z
    cases z)]
  refine wpAny_bind (listUpdate_at (xs := #[]) (n := 0) (Heap.get?_push_size _ rfl) rfl (wpAny_pure ?_) (Nat.zero_le _) room)
  refine wpAny_bind (wpAny_load (get?_update_seq (Heap.get?_push_size _ rfl) _) (wpAny_pure ?_))
  have e : ((#[] : Array Value) ++ vs.toArray).toList = vs := by simp
  rw [e]
  exact h
theorem sorted_tup {l : Addr} {vs : List Value} {ltv : Value → Value → Bool} {Q : Value → Shared → Prop} (O : Swo ltv) (ht : IsTup s.heap l vs.toArray) (hz : vs.length ≤ sizeLine)
    (hS : 2 ≤ vs.length → ∀ (h₁ : Heap) (a : Addr), h₁.get? a = some (seqObj "list" vs.toArray 0) → (∀ b o, s.heap.get? b = some o → b ≠ a ∧ h₁.get? b = some o) → SortableO prog w A.in1.in1 { s with heap := h₁ } a vs ltv)
    (h : ∀ out : List Value, Srtd ltv out → Stb ltv out vs → Q (.ref (s.heap.objs.size + 1)) { s with heap := sortedAll s.heap vs out.toArray }) :
    wpAny (model prog w) A (call (.builtin "sorted") [.ref l]) Q E s := by
  generalize hg : (s.heap.push (seqObj "list" #[] 0)).update s.heap.objs.size (Obj.mapSeq (· ++ vs.toArray)) = g
  have size : g.objs.size = s.heap.objs.size + 1 := by
    rw [← hg, Heap.size_update, Heap.size_push]
  have old : ∀ b o, s.heap.get? b = some o → g.get? b = some o := fun b o q => by
    rw [← hg, Heap.get?_update_ne _ _ _ _ (Nat.ne_of_lt (Heap.lt_size q))]
    exact Heap.get?_push_of_some _ q
  have new : (g.push (seqObj "list" vs.toArray 0)).get? (s.heap.objs.size + 1) = some (seqObj "list" vs.toArray 0) := by
    rw [← size]
    exact Heap.get?_push_size _ rfl
  refine Calls.call_function_entry kind_sorted plain_sorted entry_sorted (args_sorted1 _) ?_
  unfold Builtin.«sorted»
  refine wpAny_bind (m := checkCount "sorted" 1 1 _) (wpAny_pure (wpAny_bind (collect_tup ht ?_ hz)))
  rw [hg]
  refine wpAny_bind (wpAny_newList ?_ hz)
  show wpAny _ _ _ _ _ { s with heap := g.push (seqObj "list" vs.toArray 0) }
  rw [size]
  refine wpAny_bind (wpAny_holding (wpAny_call_entry slot_list_sort ⟨_, new, rfl⟩ entry_list_sort (list_sort_ord O new hz (fun h2 => hS h2 _ _ new fun b o q => ?_) fun out hs hb => ⟨_, rfl, wpAny_pure ⟨_, rfl, ?_⟩⟩) (args_list_sort _)))
  · exact ⟨Nat.ne_of_lt (Nat.lt_succ_of_lt (Heap.lt_size q)), Heap.get?_push_of_some _ (old b o q)⟩
  · rw [← hg]
    exact h out hs hb
end
section
variable {X : Cx}
def rSortedA (K : PySem.W.Frag) : List V → Hp → VK → Prop := fun vs H Q => ∃ (a : Addr) (ns : List Int), vs = [V.ref a] ∧ (SqL K H a (ns.map V.int) ∨ SqT K H a (ns.map V.int)) ∧
  ∀ (ns' : List Int) (p : Addr), ns'.Perm ns → ns'.Pairwise (· ≤ ·) → H p = none → Q (.ref p) (upd H p (.lst (ns'.map V.int)))
theorem cr_sortedA : CallR X (.builtin "sorted") (rSortedA X.K) := by
  intro pins s σ H vs us Q I r h
  obtain ⟨a, ns, rfl, hs, q⟩ := h
  rcases hs with hs | ht
  · exact cr_sortedI pins s σ H _ us Q I r ⟨a, ns, rfl, hs, q⟩
  · obtain ⟨its, rv, hl, hz⟩ := I.tuple ht
    rw [Vals.ref1 r]
    have hi := rv.ints
    refine sorted_tup swo_int hl (by rw [← rv.length]; exact hz) (fun h2 h₁ a' _ _ => ints_sortable hi h2) fun out h1 h2 => ?_
    obtain ⟨k1, k2, k3⟩ := ints_out hi h1 h2
    obtain ⟨ep, at'⟩ := PyProof.Rows.sortedAll_at s.heap its out.toArray
    have hlen : ((out.map iv).map V.int).length ≤ sizeLine := by
      rw [List.length_map] at hz ⊢
      rw [k2.length_eq]
      exact hz
    exact ⟨.ref _, upd H (s.heap.objs.size + 1) (.lst ((out.map iv).map V.int)), I.laid (t' := s.toks) (fun _ _ => PyProof.Rows.sortedAll_old) (Nat.le_succ _) ⟨hlen, out, ep, vals_of_ints k1, at'⟩, rfl, q _ _ k2 k3 (I.hok.fresh (Nat.le_succ _))⟩
end
end OB
/-! A list or a tuple: gone through, asked for its kind. -/
namespace OB
open PySem PySem.Spec PyProof.Rows L2
theorem sqL_same {K : PySem.W.Frag} {H H' : Hp} {a : Addr} {xs : List V} (h : SqL K H a xs) (s : Same H H') : SqL K H' a xs := by
  rcases h with (h | ⟨o, h⟩) | h
  · exact .inl (.inl (s _ _ h))
  · exact .inl (.inr ⟨o, s _ _ h⟩)
  · exact .inr h
theorem sqT_same {K : PySem.W.Frag} {H H' : Hp} {a : Addr} {xs : List V} (h : SqT K H a xs) (s : Same H H') : SqT K H' a xs := by
  rcases h with (h | ⟨o, h⟩) | h
  · exact .inl (.inl (s _ _ h))
  · exact .inl (.inr ⟨o, s _ _ h⟩)
  · exact .inr h
def iSeqA (K : PySem.W.Frag) (te : TE) : TI := fun σ H R => te σ H fun x H1 => ∃ a, x = .ref a ∧ (((∃ xs, SqL K H1 a xs) ∧ R (Itl K a) H1) ∨ ((∃ xs, SqT K H1 a xs) ∧ R (Itt K a) H1))
theorem pi_seqA {X : Cx} {tg e : Expr} {te : TE} (he : PE X e te) : PI X tg e (iSeqA X.K te) := by
  refine ⟨fun pins s σ H R I h => thn (he.run pins s σ H _ I h) fun v s1 ⟨x, H1, I1, r1, a, ex, q⟩ => ?_⟩
  subst ex
  cases r1
  rcases q with ⟨⟨xs, hq⟩, q⟩ | ⟨⟨xs, hq⟩, q⟩
  · obtain ⟨its, rv, p, hz⟩ := I1.list hq
    exact wpAny_pyIter_list p.isList (pi_one (tk := s1.toks) I1 _ (turn_list a _) ⟨_, Heap.get?_push_size _ rfl, rfl, rfl⟩ q)
  · obtain ⟨its, rv, p, hz⟩ := I1.tuple hq
    exact wpAny_pyIter_tuple (show s1.heap.IsTuple a its.toArray from p) (pi_one (tk := s1.toks) I1 _ (turn_tuple a _) ⟨_, Heap.get?_push_size _ rfl, rfl, rfl⟩ q)
/-- a row over it, a list or a tuple: Pv by the new list, the turn and the heap -/
theorem lc_seqA {K : PySem.W.Frag} {a : Addr} {xs : List V} {g : TG} {tt : TT} {te : TE} {vs : List Nat} {σ : L2.St} {H1 : Hp} {Qd : Addr → Hp → Prop} (h : SqL K H1 a xs ∨ SqT K H1 a xs) (Pv : Addr → Nat → Hp → Prop)
    (h0 : ∀ D, H1 D = none → Pv D 0 (upd H1 D (.lst []))) (keep : ∀ D i H, H1 D = none → i ≤ xs.length → Pv D i H → Same H1 H)
    (hs : ∀ D i x H, H1 D = none → xs[i]? = some x → Pv D i H → g x (wipe σ vs) H fun σ2 H2 => wipe σ2 vs = wipe σ vs ∧ tt σ2 H2 fun b H3 =>
      if b = true then te σ2 H3 fun y H4 => ∃ acc, H4 D = some (.lst acc) ∧ acc.length < sizeLine ∧ Pv D (i + 1) (upd H4 D (.lst (acc ++ [y]))) else Pv D (i + 1) H3) (hd : ∀ D H, H1 D = none → Pv D xs.length H → Qd D H) :
    ((∃ ys, SqL K H1 a ys) ∧ ∀ D, H1 D = none → ∃ W : Nat → Nat → Hp → Prop, (∃ m, W 0 m (upd H1 D (.lst []))) ∧ ∀ i m H, W i m H →
      ((Itl K a).stop i H ∧ Qd D H) ∨ ((Itl K a).go i H ∧ ∃ Nx : Hp → Prop, (∀ H', Nx H' → ∃ m', m' < m ∧ W (i + 1) m' H') ∧ ∀ x H', (Itl K a).yld i H x H' → g x (wipe σ vs) H' fun σ2 H2 => wipe σ2 vs = wipe σ vs ∧ tt σ2 H2 fun b H3 =>
        if b = true then te σ2 H3 fun y H4 => ∃ acc, H4 D = some (.lst acc) ∧ acc.length < sizeLine ∧ Nx (upd H4 D (.lst (acc ++ [y]))) else Nx H3)) ∨
    ((∃ ys, SqT K H1 a ys) ∧ ∀ D, H1 D = none → ∃ W : Nat → Nat → Hp → Prop, (∃ m, W 0 m (upd H1 D (.lst []))) ∧ ∀ i m H, W i m H →
      ((Itt K a).stop i H ∧ Qd D H) ∨ ((Itt K a).go i H ∧ ∃ Nx : Hp → Prop, (∀ H', Nx H' → ∃ m', m' < m ∧ W (i + 1) m' H') ∧ ∀ x H', (Itt K a).yld i H x H' → g x (wipe σ vs) H' fun σ2 H2 => wipe σ2 vs = wipe σ vs ∧ tt σ2 H2 fun b H3 =>
        if b = true then te σ2 H3 fun y H4 => ∃ acc, H4 D = some (.lst acc) ∧ acc.length < sizeLine ∧ Nx (upd H4 D (.lst (acc ++ [y]))) else Nx H3)) := by
  rcases h with h | h
  · exact .inl ⟨⟨xs, h⟩, fun D hD => lc_list (Pv D) (h0 D hD) (fun i H hi p => sqL_same h (keep D i H hD hi p)) (fun i x H hx p => hs D i x H hD hx p) fun H p => hd D H hD p⟩
  · exact .inr ⟨⟨xs, h⟩, fun D hD => lc_tup (Pv D) (h0 D hD) (fun i H hi p => sqT_same h (keep D i H hD hi p)) (fun i x H hx p => hs D i x H hD hx p) fun H p => hd D H hD p⟩
/-- whether a value is a list or a tuple -/
def IsL (K : PySem.W.Frag) (H : Hp) (x : V) (b : Bool) : Prop := ∃ (n : String) (b1 b2 : Bool), TyX K H x (.type n) ∧ kitB n "list" = some b1 ∧ kitB n "tuple" = some b2 ∧ b = (b1 || b2)
theorem isL_any {K : PySem.W.Frag} {H : Hp} {x : V} {b : Bool} (h : IsL K H x b) : ∃ t, TyX K H x t ∧ PySem.W.kitAny K t [.type "list", .type "tuple"] = some b := by
  obtain ⟨n, b1, b2, ty, e1, e2, rfl⟩ := h
  refine ⟨_, ty, kitAny_cons (kit_ty e1) (fun z => kitAny_cons (kit_ty e2) (fun z2 => ?_) fun z2 => ?_) fun z => ?_⟩
  · rw [z, z2]
    exact kitAny_nil
  · rw [z, z2]
    rfl
  · rw [z]
    rfl
section
variable {K : PySem.W.Frag} {H : Hp}
theorem isL_int (i : Int) : IsL K H (.int i) false := ⟨"int", false, false, .base (.int i), by decide +kernel, by decide +kernel, rfl⟩
theorem isL_non : IsL K H .non false := ⟨"NoneType", false, false, .base .non, by decide +kernel, by decide +kernel, rfl⟩
theorem isL_bl (b : Bool) : IsL K H (.bl b) false := ⟨"bool", false, false, .base (.bl b), by decide +kernel, by decide +kernel, rfl⟩
theorem isL_str (x : Str) : IsL K H (.str x) false := ⟨"str", false, false, .base (.str x), by decide +kernel, by decide +kernel, rfl⟩
theorem isL_dK {a : Addr} {kvs : List (Key × V)} (e : H a = some (.dK kvs)) : IsL K H (.ref a) false := ⟨"dict", false, false, .base (.dK e), by decide +kernel, by decide +kernel, rfl⟩
theorem isL_lst {a : Addr} {xs : List V} (e : H a = some (.lst xs)) : IsL K H (.ref a) true := ⟨"list", true, false, .base (.lst e), by decide +kernel, by decide +kernel, rfl⟩
theorem isL_tup {a : Addr} {xs : List V} (e : H a = some (.tup xs)) : IsL K H (.ref a) true := ⟨"tuple", false, true, .base (.tup e), by decide +kernel, by decide +kernel, rfl⟩
end
end OB
/-! repr of a list or a tuple of ints. -/
namespace OB
open PySem PySem.Spec PyProof.Rows L2
theorem shown_ints : ∀ ns : List Int, PyData.shownAll (ns.map PyData.int) = ns.map fun n => Str.ofString (toString n)
  | [] => by simp [PyData.shownAll]
  | n :: r => by simp [PyData.shownAll, PyData.shown, shown_ints r]
theorem show_ints : ∀ ns : List Int, (∀ n ∈ ns, n.natAbs.log2 < 1920) → PyData.showableAll (ns.map PyData.int) = true
  | [], _ => by simp [PyData.showableAll]
  | n :: r, h => by
    have h1 := h n List.mem_cons_self
    have h2 := show_ints r fun x hx => h x (List.mem_cons_of_mem _ hx)
    simp [PyData.showableAll, PyData.showable, h2, h1]
theorem piled_ints : ∀ ns : List Int, (∀ n ∈ ns, n.natAbs.log2 < 1920) → piled (ns.map fun n => Str.ofString (toString n)) ≤ 1923 * ns.length
  | [], _ => Nat.zero_le _
  | n :: r, h => by
    have h1 := int_text_len_1921 (h n List.mem_cons_self)
    have h2 := piled_ints r fun x hx => h x (List.mem_cons_of_mem _ hx)
    rw [List.map_cons, piled_cons, List.length_cons]
    omega
theorem list_len (ts : List Str) : (listText ts).length ≤ piled ts + 2 := by
  have one : (("[" : String) : Str).length = 1 := rfl
  have two : (("]" : String) : Str).length = 1 := rfl
  unfold listText
  rw [strLen_append, two]
  cases ts with
  | nil =>
    show (("[" : String) : Str).length + 1 ≤ _
    rw [one]
    exact Nat.le_add_left _ _
  | cons t r =>
    show (textFrom 1 ((("[" : String) : Str) ++ t) r).length + 1 ≤ _
    rw [textFrom_length_pos r 1 _ (by decide), strLen_append, one, piled_cons]
    omega
theorem depth_ints (ns : List Int) : PyData.depthAll (ns.map PyData.int) ≤ 1 := deep_ints ns
/-- the text of a list, of a tuple of ints -/
def tl (ns : List Int) : Str := PyData.shown (.list (ns.map PyData.int))
def tt (ns : List Int) : Str := PyData.shown (.tuple (ns.map PyData.int))
theorem tl_len {ns : List Int} (h : ∀ n ∈ ns, n.natAbs.log2 < 1920) (hl : ns.length ≤ 1000) : (tl ns).length ≤ sizeLine := by
  have a := piled_ints ns h
  have b := list_len (ns.map fun n => Str.ofString (toString n))
  show (listText (PyData.shownAll (ns.map PyData.int))).length ≤ sizeLine
  rw [shown_ints, sizeLine_eq]
  omega
theorem tt_len {ns : List Int} (h : ∀ n ∈ ns, n.natAbs.log2 < 1920) (hl : ns.length ≤ 1000) : (tt ns).length ≤ sizeLine := by
  have a := piled_ints ns h
  have b := fmt_text (ns.map fun n => Str.ofString (toString n))
  show (tupleText (PyData.shownAll (ns.map PyData.int))).length ≤ sizeLine
  rw [shown_ints, sizeLine_eq]
  omega
section
variable {X : Cx}
def rReprI (K : PySem.W.Frag) : List V → Hp → VK → Prop := fun xs H Q => ∃ (a : Addr) (ns : List Int), xs = [.ref a] ∧ (∀ n ∈ ns, n.natAbs.log2 < 1920) ∧ ns.length ≤ 1000 ∧ ((SqL K H a (ns.map V.int) ∧ Q (.str (tl ns)) H) ∨ (SqT K H a (ns.map V.int) ∧ Q (.str (tt ns)) H))
theorem call_reprI (hgd : X.A.guards = some []) (hu : X.A.units + 64 < cLine) : CallR X (.builtin "repr") (rReprI X.K) := by
  intro pins s σ H xs us Q I r h
  obtain ⟨a, ns, rfl, hs, hl, q⟩ := h
  have sh := show_ints ns hs
  have d := depth_ints ns
  rcases q with ⟨hq, q⟩ | ⟨hq, q⟩
  · refine call_reprD hgd hu pins s σ H _ us Q I r ⟨a, .list (ns.map PyData.int), rfl, Dp.lst hq (dp_ints ns), by simp [PyData.showable, sh], by simp [PyData.canLay0, lay_ints], ?_, tl_len hs hl, q⟩
    show PyData.depthAll (ns.map PyData.int) + 1 ≤ 60
    omega
  · refine call_reprD hgd hu pins s σ H _ us Q I r ⟨a, .tuple (ns.map PyData.int), rfl, Dp.tup hq (dp_ints ns), by simp [PyData.showable, sh], by simp [PyData.canLay0, lay_ints], ?_, tt_len hs hl, q⟩
    show PyData.depthAll (ns.map PyData.int) + 1 ≤ 60
    omega
end
end OB
/-! Bits flipped one by one. -/
namespace M03
def flN (n : Nat) (ns : List Nat) : Nat := ns.foldl (fun v b => v ^^^ 2 ^ b) n
theorem flN_bit (ns : List Nat) : ∀ (n i : Nat), ns.Nodup → (flN n ns).testBit i = (n.testBit i ^^ decide (i ∈ ns)) := by
  induction ns with
  | nil =>
    intro n i _
    show n.testBit i = _
    simp
  | cons b r ih =>
    intro n i h
    have h2 := List.nodup_cons.mp h
    show (flN (n ^^^ 2 ^ b) r).testBit i = _
    rw [ih _ i h2.2, Nat.testBit_xor, Nat.testBit_two_pow, Bool.xor_assoc]
    congr 1
    by_cases e : b = i
    · subst e
      simp [h2.1]
    · have e' : ¬ i = b := fun z => e z.symm
      simp [e, e']
theorem bits_of_fl {n : Nat} {ns : List Nat} (h : ns.Nodup) (i : Nat) : (n ^^^ flN n ns).testBit i = decide (i ∈ ns) := by
  rw [Nat.testBit_xor, flN_bit ns n i h, ← Bool.xor_assoc, Bool.xor_self, Bool.false_xor]
theorem fl_lt {n k : Nat} {ns : List Nat} (hn : n < 2 ^ k) (h : ∀ b ∈ ns, b < k) : flN n ns < 2 ^ k := by
  induction ns generalizing n with
  | nil => exact hn
  | cons b r ih =>
    show flN (n ^^^ 2 ^ b) r < 2 ^ k
    exact ih (Nat.xor_lt_two_pow hn (Nat.pow_lt_pow_right (by decide) (h b List.mem_cons_self))) fun x hx => h x (List.mem_cons_of_mem _ hx)
/-- the bits of a number, ascending -/
def DB (n c : Nat) : List Nat := (M04.D n c).reverse
theorem DB_mem {n c : Nat} (h : n < 2 ^ c) (i : Nat) : i ∈ DB n c ↔ n.testBit i = true := by
  unfold DB
  rw [M04.D_rev, List.mem_filter, List.mem_range, M07.one_bit]
  refine ⟨fun z => z.2, fun z => ⟨?_, z⟩⟩
  by_cases e : i < c
  · exact e
  · exact absurd z (by rw [Nat.testBit_lt_two_pow (Nat.lt_of_lt_of_le h (Nat.pow_le_pow_right (by decide) (Nat.le_of_not_lt e)))]; decide)
theorem DB_up (n c : Nat) : (DB n c).Pairwise (· < ·) := by
  unfold DB
  rw [M04.D_rev]
  exact List.pairwise_lt_range.filter _
theorem DB_nodup (n c : Nat) : (DB n c).Nodup := (DB_up n c).imp fun h => Nat.ne_of_lt h
/-- the bits of the difference, a drawn lot in order -/
theorem DB_perm {m c : Nat} {ns : List Nat} (hm : m < 2 ^ c) (h : ns.Nodup) (hb : ∀ i, m.testBit i = decide (i ∈ ns)) : (DB m c).Perm ns := by
  rw [List.perm_ext_iff_of_nodup (DB_nodup m c) h]
  intro i
  rw [DB_mem hm, hb, decide_eq_true_eq]
theorem DB_ints_up (m c : Nat) : ((DB m c).map fun (x : Nat) => (x : Int)).Pairwise (· ≤ ·) := by
  rw [List.pairwise_map]
  exact (DB_up m c).imp fun h => by omega
end M03
namespace K03
open PySem PySem.Spec PyProof.Rows L2 OB SkE
def top (i : Nat) : Stmt := PySem.Challenge.pw_oneflip_k03_flips_and_neighbours.main.body.getD i (.Pass ⟨0, 0, 0, 0⟩)
abbrev s_initN : Stmt := inClass (top 2) 0
abbrev s_initW : Stmt := inClass (top 3) 0
abbrev s_initB : Stmt := inClass (top 4) 0
abbrev s_initM : Stmt := inClass (top 5) 0
abbrev s_is_integer : Stmt := top 8
abbrev s_is_within : Stmt := top 9
abbrev s_is_list : Stmt := top 10
abbrev s_are_unlike : Stmt := top 11
abbrev s_is_lot : Stmt := top 12
abbrev s_lot_of : Stmt := top 13
abbrev s_need_lot : Stmt := top 16
abbrev s_need_number : Stmt := top 14
abbrev s_need_word : Stmt := top 15
abbrev s_flipped : Stmt := top 19
abbrev s_flipped_often : Stmt := top 20
abbrev s_differing : Stmt := top 21
abbrev s__bits_of : Stmt := top 22
abbrev s_neighbours_of : Stmt := top 23
abbrev s__law_kennel : Stmt := top 25
abbrev s__law_bark : Stmt := top 26
abbrev s__law_one : Stmt := top 27
abbrev s__law_word : Stmt := top 28
abbrev s__law_is_one : Stmt := top 29
abbrev s__law_turned : Stmt := top 30
abbrev s__law_lot : Stmt := top 31
abbrev s__law_flips_right : Stmt := top 32
abbrev s__law_apart_right : Stmt := top 33
abbrev s__law_near_right : Stmt := top 34
abbrev s__law_heard : Stmt := top 35
abbrev s__law_refused_right : Stmt := top 36
abbrev s_law : Stmt := top 37
/-- the built-in names that the module leaves as they are -/
structure Blt (mg : Str → Option Value) : Prop where
  g_MOST_BIT : ∃ t, mg "MOST_BIT" = some (.int 20000 t)
  g_MOST_MANY : ∃ t, mg "MOST_MANY" = some (.int 400 t)
  n_isinstance : mg "isinstance" = none
  n_int : mg "int" = none
  n_bool : mg "bool" = none
  n_len : mg "len" = none
  n_abs : mg "abs" = none
  n_range : mg "range" = none
  n_list : mg "list" = none
  n_tuple : mg "tuple" = none
  n_enumerate : mg "enumerate" = none
  n_all : mg "all" = none
  n_set : mg "set" = none
  n_sorted : mg "sorted" = none
  n_repr : mg "repr" = none
  n_min : mg "min" = none
section
variable {P : Program} {w : World} {K : PySem.W.Frag} {mg : Str → Option Value} {base : Heap}
/-! ### checks -/
theorem sc_is_integer : FnScope ["value"] ["value"] (defScope s_is_integer) := ⟨rfl, rfl, rfl, by decide +kernel, rfl, by decide +kernel, by decide +kernel⟩
theorem ok_is_integer {f : Addr} {fd : FuncData} (F : Fun K "is_integer" "is_integer" s_is_integer f fd) (T : Blt mg) : FnOk P w K mg base CX0 1 f fd ["value"] (spIsInt K) := by
  refine F.ok sc_is_integer (fun vs H Q E h => ?_) (fun cdv A outer s H vs Q E hr h => ?_)
  · obtain ⟨x, b, rfl, _⟩ := h
    rfl
  · obtain ⟨x, b, rfl, ⟨n, b1, b2, ty, e1, e2, e3⟩, k⟩ := h
    refine ⟨_, (pss_one (ps_ret (pe_and (pe_callB call_isi (by rfl) T.n_isinstance (by decide +kernel) (pa_cons (pv 0) (pa_cons (pe_bltn (v := .ty "int") (by rfl) T.n_int (by decide +kernel) rfl) pa_nil))) (pe_one (pe_not (pe_callB call_isi (by rfl) T.n_isinstance (by decide +kernel) (pa_cons (pv 0) (pa_cons (pe_bltn (v := .ty "bool") (by rfl) T.n_bool (by decide +kernel) rfl) pa_nil)))))))), ?_⟩
    refine ⟨x, rfl, x, .ty "int", .type n, .type "int", b1, rfl, .ty _, ty, kit_ty e1, b1, rfl, ?_⟩
    refine iteB (fun c => ?_) (fun c => ?_)
    · refine ⟨x, rfl, x, .ty "bool", .type n, .type "bool", b2, rfl, .ty _, ty, kit_ty e2, b2, rfl, ?_⟩
      rw [c] at e3
      rw [show (!b2) = b by rw [e3, Bool.true_and]]
      exact k
    · rw [c] at e3
      rw [show false = b by rw [e3, Bool.false_and]]
      exact k
theorem sc_is_within : FnScope ["value", "least", "most"] ["value", "least", "most"] (defScope s_is_within) := ⟨rfl, rfl, rfl, by decide +kernel, rfl, by decide +kernel, by decide +kernel⟩
theorem within_end {lo hi : Option Int} {x : V} {b : Bool} {Q : VK} {H : Hp} (hI : IsI K H x b) (k : Q (.bl (b && inB lo hi x)) H) (hb : b = true) : ∃ i, x = .int i ∧ Q (.bl (loOk lo i && hiOk hi i)) H := by
  subst hb
  obtain ⟨i, rfl⟩ := isI_true hI
  exact ⟨i, rfl, k⟩
theorem ok_is_within {f f1 : Addr} {fd fd1 : FuncData} (F : Fun K "is_within" "is_within" s_is_within f fd) (D_is_integer : Df K mg "is_integer" s_is_integer ["value"] f1 fd1) (T : Blt mg) : FnOk P w K mg base CX0 2 f fd ["value", "least", "most"] (spWithin K) := by
  have G_is_integer : FnOk P w K mg base CX0 1 f1 fd1 ["value"] (spIsInt K) := ok_is_integer D_is_integer.F T
  refine F.ok sc_is_within (fun vs H Q E h => ?_) (fun cdv A outer s H vs Q E hr h => ?_)
  · obtain ⟨x, lo, hi, b, rfl, _⟩ := h
    rfl
  · obtain ⟨x, lo, hi, b, rfl, hI, k⟩ := h
    refine ⟨_, (pss_cons (ps_if (pt_not (pt_val (pe_call G_is_integer (hr.mono (by decide)) (by rfl) D_is_integer.g D_is_integer.F.kp D_is_integer.b .nil pass0 (pa_cons (pv 0) pa_nil)))) (pss_one (ps_ret pe_bl)) pss_nil)
  (pss_one (ps_ret (pe_and (pe_or (pe_cmpR op_isN (pv 1) pe_non (nomark _)) (pe_one (pe_cmpR op_le (pv 1) (pv 0) (nomark _)))) (pe_one (pe_or (pe_cmpR op_isN (pv 2) pe_non (nomark _)) (pe_one (pe_cmpR op_le (pv 0) (pv 2) (nomark _))))))))), ?_⟩
    refine ⟨x, rfl, x, b, rfl, hI, b, rfl, ?_⟩
    cases b with
    | false => exact iteT k
    | true =>
      obtain ⟨i, rfl, k'⟩ := within_end hI k rfl
      clear k
      have k := k'
      clear k'
      refine iteF ?_
      refine ⟨_, rfl, rfl, _, rfl, ?_⟩
      cases lo with
      | none =>
        refine iteT ?_
        refine ⟨_, rfl, iteT ?_⟩
        refine ⟨_, rfl, rfl, _, rfl, ?_⟩
        cases hi with
        | none => exact iteT k
        | some h => exact iteF ⟨_, rfl, _, rfl, _, _, rfl, rfl, k⟩
      | some l =>
        refine iteF ?_
        refine ⟨_, rfl, _, rfl, _, _, rfl, rfl, _, rfl, ?_⟩
        refine iteB (fun c => ?_) (fun c => ?_)
        · refine ⟨_, rfl, rfl, _, rfl, ?_⟩
          have e : loOk (some l) i = true := c
          rw [e, Bool.true_and] at k
          cases hi with
          | none => exact iteT k
          | some h => exact iteF ⟨_, rfl, _, rfl, _, _, rfl, rfl, k⟩
        · have e : loOk (some l) i = false := c
          rw [e, Bool.false_and] at k
          exact k
/-! ### what raises -/
theorem sc_need_number : FnScope ["value", "part", "least", "most"] ["value", "part", "least", "most"] (defScope s_need_number) := ⟨rfl, rfl, rfl, by decide +kernel, rfl, by decide +kernel, by decide +kernel⟩
theorem ok_need_number {f f1 f2 C fI : Addr} {fd fd1 fd2 fdI : FuncData} (F : Fun K "need_number" "need_number" s_need_number f fd) (D_is_within : Df K mg "is_within" s_is_within ["value", "least", "most"] f2 fd2) (D_is_integer : Df K mg "is_integer" s_is_integer ["value"] f1 fd1) (T : Blt mg)
    (R_BadNumber : Err P w K mg base "BadNumber" "part" C fI fdI) : FnOk P w K mg base (L2.CX P w) 4 f fd ["value", "part", "least", "most"] (spNeedNumber K C) := by
  have G_is_within : FnOk P w K mg base CX0 2 f2 fd2 ["value", "least", "most"] (spWithin K) := ok_is_within D_is_within.F D_is_integer T
  refine F.okX sc_need_number (fun vs H Q E h => ?_) (fun cdv A outer s H vs Q E hr h => ?_)
  · obtain ⟨x, part, lo, hi, b, rfl, _⟩ := h
    rfl
  · obtain ⟨x, part, lo, hi, b, rfl, hI, k1, k2⟩ := h
    refine ⟨_, (pss_one (ps_if (pt_not (pt_val (pe_call G_is_within (hr.mono (by decide)) (by rfl) D_is_within.g D_is_within.F.kp D_is_within.b .nil pass0 (pa_cons (pv 0) (pa_cons (pv 2) (pa_cons (pv 3) pa_nil)))))) (pss_one (ps_raise1 rfl (takes_of rfl rfl rfl rfl) R_BadNumber (hr.mono (by decide)) (by rfl) (pv 1))) pss_nil)), ?_⟩
    refine ⟨x, rfl, _, rfl, _, rfl, x, lo, hi, b, rfl, hI, _, rfl, ?_⟩
    refine iteB (fun c => ?_) (fun c => ?_)
    · have c' : (b && inB lo hi x) = false := by
        cases e : (b && inB lo hi x) with
        | false => rfl
        | true => rw [e] at c; cases c
      refine ⟨.str part, rfl, ?_⟩
      refine raise1_of (W := fun cls d _ H => E cls d H) R_BadNumber.T R_BadNumber.no ?_
      exact fun d hd => k2 c' d hd
    · have c' : (b && inB lo hi x) = true := by
        cases e : (b && inB lo hi x) with
        | true => rfl
        | false => rw [e] at c; cases c
      exact k1 c'
theorem sc_need_word : FnScope ["value", "part"] ["value", "part"] (defScope s_need_word) := ⟨rfl, rfl, rfl, by decide +kernel, rfl, by decide +kernel, by decide +kernel⟩
theorem ok_need_word {f f1 f2 C fI : Addr} {fd fd1 fd2 fdI : FuncData} (F : Fun K "need_word" "need_word" s_need_word f fd) (D_is_within : Df K mg "is_within" s_is_within ["value", "least", "most"] f2 fd2) (D_is_integer : Df K mg "is_integer" s_is_integer ["value"] f1 fd1) (T : Blt mg)
    (R_BadWord : Err P w K mg base "BadWord" "part" C fI fdI) : FnOk P w K mg base (L2.CX P w) 4 f fd ["value", "part"] (spNeedWord K C) := by
  have G_is_within : FnOk P w K mg base CX0 2 f2 fd2 ["value", "least", "most"] (spWithin K) := ok_is_within D_is_within.F D_is_integer T
  refine F.okX sc_need_word (fun vs H Q E h => ?_) (fun cdv A outer s H vs Q E hr h => ?_)
  · obtain ⟨x, part, b, rfl, _⟩ := h
    rfl
  · obtain ⟨x, part, b, rfl, hI, k1, k2⟩ := h
    refine ⟨_, (pss_one (ps_if (pt_not (pt_val (pe_call G_is_within (hr.mono (by decide)) (by rfl) D_is_within.g D_is_within.F.kp D_is_within.b .nil pass0 (pa_cons (pv 0) (pa_cons pe_int (pa_cons pe_non pa_nil)))))) (pss_one (ps_raise1 rfl (takes_of rfl rfl rfl rfl) R_BadWord (hr.mono (by decide)) (by rfl) (pv 1))) pss_nil)), ?_⟩
    refine ⟨x, rfl, x, some 0, none, b, rfl, hI, _, rfl, ?_⟩
    refine iteB (fun c => ?_) (fun c => ?_)
    · have c' : (b && inB (some 0) none x) = false := by
        cases e : (b && inB (some 0) none x) with
        | false => rfl
        | true => rw [e] at c; cases c
      refine ⟨.str part, rfl, ?_⟩
      refine raise1_of (W := fun cls d _ H => E cls d H) R_BadWord.T R_BadWord.no ?_
      exact fun d hd => k2 c' d hd
    · have c' : (b && inB (some 0) none x) = true := by
        cases e : (b && inB (some 0) none x) with
        | true => rfl
        | false => rw [e] at c; cases c
      exact k1 c'
end
end K03
namespace K03
open PySem PySem.Spec PyProof.Rows L2 OB SkE
theorem rev_bin (n : Nat) : (revT (binT n)).cps = (M04.R n).toArray := by
  show ((Nat.toDigits 2 n).map fun c => c.toNat).toArray.reverse = _
  unfold M04.R
  simp
theorem bin_len (n : Nat) : (binT n).length = (M04.R n).length := by
  show ((Nat.toDigits 2 n).map fun c => c.toNat).toArray.size = _
  unfold M04.R
  simp
theorem bin_list (n : Nat) : (binT n).cps.toList = (M04.R n).reverse := by
  show ((Nat.toDigits 2 n).map fun c => c.toNat).toArray.toList = _
  unfold M04.R
  simp
theorem cnt_countP (c : Nat) : ∀ l : List Nat, cnt c l = ((l.countP fun x => decide (x = c) : Nat) : Int)
  | [] => rfl
  | a :: r => by
    rw [cnt_cons, cnt_countP c r, List.countP_cons]
    by_cases h : a = c <;> simp [h] <;> omega
theorem bin_count (n : Nat) : Txt.count (binT n) (Str.ofString "1") = ((M04.pc n : Nat) : Int) := by
  rw [show Str.ofString "1" = ⟨#[49]⟩ from by decide +kernel, count_cnt, bin_list, cnt_countP, List.countP_reverse, M04.R_count]
theorem bin_small {n : Nat} (h : n < 2 ^ 20001) : (binT n).length ≤ sizeLine := by
  rw [bin_len]
  have := M04.R_len (by decide) h
  rw [sizeLine_eq]
  omega
def bitsV (n : Nat) : List V := (M04.D n (M04.R n).length).reverse.map fun (b : Nat) => V.int (b : Int)
theorem bits_len (n : Nat) (h : n < 2 ^ 20001) : (bitsV n).length ≤ 20001 := by
  unfold bitsV
  rw [List.length_map, List.length_reverse]
  exact Nat.le_trans (M04.D_len n _) (M04.R_len (by decide) h)
/-- the bits of a number below so many, ascending -/
def bitsB (n c : Nat) : List V := (M04.D n c).reverse.map fun (b : Nat) => V.int (b : Int)
theorem bitsB_next (n c : Nat) : bitsB n (c + 1) = if n / 2 ^ c % 2 = 1 then bitsB n c ++ [V.int (c : Int)] else bitsB n c := by
  unfold bitsB
  show ((if n / 2 ^ c % 2 = 1 then c :: M04.D n c else M04.D n c).reverse.map fun (b : Nat) => V.int (b : Int)) = _
  by_cases h : n / 2 ^ c % 2 = 1
  · rw [if_pos h, if_pos h, List.reverse_cons, List.map_append]
    rfl
  · rw [if_neg h, if_neg h]
theorem bitsB_len (n c : Nat) : (bitsB n c).length ≤ c := by
  unfold bitsB
  rw [List.length_map, List.length_reverse]
  exact M04.D_len n c
def spBits : Sp := fun vs H Q _ => ∃ n : Nat, vs = [.int (n : Int)] ∧ n < 2 ^ 20001 ∧ ∀ (q : Addr) (H' : Hp), Same H H' → H' q = some (.tup (bitsV n)) → Q (.ref q) H'
/-- in what two words differ -/
def spDiff : Sp := fun vs H Q _ => ∃ n m : Nat, vs = [.int (n : Int), .int (m : Int)] ∧ n ^^^ m < 2 ^ 20001 ∧ ∀ (q : Addr) (H' : Hp), Same H H' → H' q = some (.tup (bitsV (n ^^^ m))) → Q (.ref q) H'
theorem xor_nat (a b : Nat) : Builtin.bitXor (a : Int) (b : Int) = ((a ^^^ b : Nat) : Int) := by
  rw [Bits.bitXor_pp (Int.natCast_nonneg _) (Int.natCast_nonneg _), Int.toNat_natCast, Int.toNat_natCast]
theorem no_nat {m : Nat} {A : Prop} (z : (true && inB (some 0) none (.int (m : Int))) = false) : A := by
  rw [inB_nat] at z
  cases z
/-- whatever is laid anew, it is a list or a tuple, or none -/
def EvL (K : PySem.W.Frag) (H : Hp) (x : V) (b : Bool) : Prop := ∀ H', Same H H' → IsL K H' x b
def EvI (K : PySem.W.Frag) (H : Hp) (x : V) (b : Bool) : Prop := ∀ H', Same H H' → IsI K H' x b
def spIsList (K : PySem.W.Frag) : Sp := fun vs H Q _ => ∃ (x : V) (b : Bool), vs = [x] ∧ EvL K H x b ∧ ∀ H', Same H H' → Q (.bl b) H'
/-- a value that is no list or tuple of unlike numbers within bounds, or one -/
def NoLot (K : PySem.W.Frag) (H : Hp) (x : V) (lo hi : Option Int) : Prop := EvL K H x false ∨
  ∃ (a : Addr) (xs : List V) (bs : List Bool), x = .ref a ∧ (SqL K H a xs ∨ SqT K H a xs) ∧ xs.length ≤ 900 ∧ EvL K H x true ∧ bs.length = xs.length ∧
    (∀ (i : Nat) (v : V) (b : Bool), xs[i]? = some v → bs[i]? = some b → ∃ c, EvI K H v c ∧ b = (c && inB lo hi v)) ∧ (bs.all id = true → ∃ ns : List Int, xs = ns.map V.int ∧ ¬ ns.Nodup)
def IsLot (K : PySem.W.Frag) (H : Hp) (x : V) (lo hi : Option Int) (ns : List Int) : Prop := ∃ a : Addr, x = .ref a ∧ (SqL K H a (ns.map V.int) ∨ SqT K H a (ns.map V.int)) ∧ ns.length ≤ 900 ∧ EvL K H x true ∧ (∀ n ∈ ns, inB lo hi (.int n) = true) ∧ ns.Nodup
def spUnlike (K : PySem.W.Frag) : Sp := fun vs H Q _ => ∃ (x : V) (lo hi : Option Int), vs = [x, oV lo, oV hi] ∧
  ((NoLot K H x lo hi ∧ ∀ H', Same H H' → Q (.bl false) H') ∨ (∃ ns, IsLot K H x lo hi ns ∧ ∀ H', Same H H' → Q (.bl true) H'))
section
variable {P : Program} {w : World} {K : PySem.W.Frag} {mg : Str → Option Value} {base : Heap}
theorem sc__bits_of : FnScope ["word", "signs", "bit", "sign"] ["word"] (defScope s__bits_of) := ⟨rfl, rfl, rfl, by decide +kernel, rfl, by decide +kernel, by decide +kernel⟩
abbrev N__bits_of : List Str := ["word", "signs", "bit", "sign"]
theorem ok__bits_of {f : Addr} {fd : FuncData} (F : Fun K "_bits_of" "_bits_of" s__bits_of f fd) (T : Blt mg) : FnOk P w K mg base CX0 1 f fd ["word"] spBits := by
  refine F.ok sc__bits_of (fun vs H Q E h => ?_) (fun cdv A outer s H vs Q E hr h => ?_)
  · obtain ⟨n, rfl, _⟩ := h
    rfl
  · obtain ⟨n, rfl, hn, k⟩ := h
    refine ⟨_, (pss_cons (ps_set (i := 1) sc__bits_of.nd rfl (Or.inl rfl) (pe_revS (pe_fmtB (pv 0))))
  (pss_one (ps_ret (pe_callTy call_tuple_of (by rfl) T.n_tuple (by decide +kernel) (pa_cons (pe_lc (own := [("bit", 2), ("sign", 3)]) (g := (gTup K 2 (gCons (gName 2) (gCons (gName 3) gNil)))) rfl sc__bits_of.nd (pi_enumS (by rfl) T.n_enumerate (pa_cons (pv 1) pa_nil)) (blkOk_by (N := N__bits_of) (own := [("bit", 2), ("sign", 3)]) (sc := defScope s__bits_of) (by decide +kernel)) (fun _ _ _ _ _ => (pg_tup (by rfl) (pgs_cons (pg_name (i := 2) sc__bits_of.nd rfl (Or.inl rfl)) (pgs_cons (pg_name (i := 3) sc__bits_of.nd rfl (Or.inl rfl)) pgs_nil)))) (fun _ _ _ _ _ => (pts_one (pt_cmpR op_eq (pv 3) pe_str (nomark _)))) (fun _ _ _ _ _ => (pv 2))) pa_nil))))), ?_⟩
    have hs := bin_small hn
    refine ⟨_, rfl, n, rfl, hs, _, rfl, hs, ?_⟩
    refine ⟨_, rfl, _, rfl, fun D hD => ?_⟩
    have hL : (M04.R n).length ≤ 20001 := M04.R_len (by decide) hn
    have hsz : (revT (binT n)).cps.size = (M04.R n).length := by rw [rev_bin, List.size_toArray]
    refine lc_it walk_enumS (fun i H' => Same H H' ∧ H' D = some (.lst (bitsB n i))) ⟨same_new hD, upd_same⟩ (fun _ _ _ _ => trivial) ?_ ?_
    · rintro i y H0 H1 hi ⟨S0, h0⟩ ⟨q, a, b, rfl, hq, rfl, ea, eb⟩
      have ea : V.int (i : Int) = a := Option.some.inj ea
      subst ea
      have hi2 : i < (M04.R n).length := by rw [← hsz]; exact hi
      have hsign : (revT (binT n)).cps[i]? = some (48 + n / 2 ^ i % 2) := by
        rw [rev_bin, List.getElem?_toArray]
        exact (M04.R_facts n).2 i hi2
      have eb : V.str ⟨#[48 + n / 2 ^ i % 2]⟩ = b := by
        have z : (revT (binT n)).cps[i]?.map (fun c => V.str ⟨#[c]⟩) = some b := eb
        rw [hsign] at z
        exact Option.some.inj z
      subst eb
      have ndq : D ≠ q := ne_of_none h0 hq
      refine ⟨q, _, rfl, SqT.of upd_same, rfl, _, _, rfl, _, _, rfl, rfl, rfl, ?_⟩
      refine ⟨_, rfl, rfl, _, rfl, ?_⟩
      have S1 : Same H (upd H0 q (.tup [V.int (i : Int), V.str ⟨#[48 + n / 2 ^ i % 2]⟩])) := S0.trans (same_new hq)
      have h1 : (upd H0 q (.tup [V.int (i : Int), V.str ⟨#[48 + n / 2 ^ i % 2]⟩])) D = some (.lst (bitsB n i)) := by
        rw [upd_ne ndq]
        exact h0
      have hb : decide (V.str ⟨#[48 + n / 2 ^ i % 2]⟩ = V.str (Str.ofString "1")) = decide (n / 2 ^ i % 2 = 1) := by
        have e : n / 2 ^ i % 2 = 0 ∨ n / 2 ^ i % 2 = 1 := by omega
        rcases e with z | z <;> rw [z] <;> decide +kernel
      rw [hb]
      refine iteB (fun c => ?_) (fun c => ?_)
      · have c := of_decide_eq_true c
        refine ⟨_, rfl, _, h1, (by have := bitsB_len n i; rw [sizeLine_eq]; omega), ?_, ?_⟩
        · intro p o e
          rw [upd_ne (ne_of_none e hD)]
          exact S1 p o e
        · rw [upd_same, bitsB_next, if_pos c]
      · have c := of_decide_eq_false c
        exact ⟨S1, by rw [bitsB_next, if_neg c]; exact h1⟩
    · rintro H' ⟨S, hl⟩
      rw [hsz] at hl
      refine ⟨D, _, rfl, .inl ⟨SqL.of hl, fun l hl2 => ?_⟩⟩
      exact k l _ (S.trans (same_new hl2)) upd_same
theorem sc_differing : FnScope ["one", "other"] ["one", "other"] (defScope s_differing) := ⟨rfl, rfl, rfl, by decide +kernel, rfl, by decide +kernel, by decide +kernel⟩
theorem ok_differing {f f1 f3 C : Addr} {fd fd1 fd3 : FuncData} (F : Fun K "differing" "differing" s_differing f fd) (T : Blt mg) (D_need_word : Df K mg "need_word" s_need_word ["value", "part"] f3 fd3) (D__bits_of : Df K mg "_bits_of" s__bits_of ["word"] f1 fd1)
    (G_need_word : FnOk P w K mg base (L2.CX P w) 4 f3 fd3 ["value", "part"] (spNeedWord K C)) : FnOk P w K mg base (L2.CX P w) 5 f fd ["one", "other"] spDiff := by
  have G__bits_of : FnOk P w K mg base CX0 1 f1 fd1 ["word"] spBits := ok__bits_of D__bits_of.F T
  refine F.okX sc_differing (fun vs H Q E h => ?_) (fun cdv A outer s H vs Q E hr h => ?_)
  · obtain ⟨n, m, rfl, _⟩ := h
    rfl
  · obtain ⟨n, m, rfl, hn, k⟩ := h
    refine ⟨_, (pss_cons (ps_expr (pe_callS G_need_word (hr.mono (by decide)) (by rfl) D_need_word.g D_need_word.F.kp D_need_word.b (fun σ => passAt (takes_of rfl rfl rfl rfl) σ) (pa_cons (pv 0) (pa_cons pe_str pa_nil))))
  (pss_cons (ps_expr (pe_callS G_need_word (hr.mono (by decide)) (by rfl) D_need_word.g D_need_word.F.kp D_need_word.b (fun σ => passAt (takes_of rfl rfl rfl rfl) σ) (pa_cons (pv 1) (pa_cons pe_str pa_nil))))
  (pss_one (ps_ret (pe_call G__bits_of (hr.mono (by decide)) (by rfl) D__bits_of.g D__bits_of.F.kp D__bits_of.b .nil pass0 (pa_cons (pe_op op_xor (pv 0) (pv 1)) pa_nil)))))), ?_⟩
    refine ⟨_, rfl, _, "one", true, rfl, isI_int _, fun _ => ?_, fun z => no_nat z⟩
    refine ⟨_, rfl, _, "other", true, rfl, isI_int _, fun _ => ?_, fun z => no_nat z⟩
    refine ⟨_, rfl, _, rfl, _, _, rfl, rfl, n ^^^ m, ?_, hn, k⟩
    show [V.int (Builtin.bitXor (n : Int) (m : Int))] = _
    rw [xor_nat]
theorem sc_is_list : FnScope ["value"] ["value"] (defScope s_is_list) := ⟨rfl, rfl, rfl, by decide +kernel, rfl, by decide +kernel, by decide +kernel⟩
theorem ok_is_list {f : Addr} {fd : FuncData} (F : Fun K "is_list" "is_list" s_is_list f fd) (T : Blt mg) : FnOk P w K mg base CX0 1 f fd ["value"] (spIsList K) := by
  refine F.ok sc_is_list (fun vs H Q E h => ?_) (fun cdv A outer s H vs Q E hr h => ?_)
  · obtain ⟨x, b, rfl, _⟩ := h
    rfl
  · obtain ⟨x, b, rfl, hL, k⟩ := h
    refine ⟨_, (pss_one (ps_ret (pe_callB call_isiT (by rfl) T.n_isinstance (by decide +kernel) (pa_cons (pv 0) (pa_cons (pe_tup (pa_cons (pe_bltn (v := .ty "list") (by rfl) T.n_list (by decide +kernel) rfl) (pa_cons (pe_bltn (v := .ty "tuple") (by rfl) T.n_tuple (by decide +kernel) rfl) pa_nil))) pa_nil))))), ?_⟩
    refine ⟨_, rfl, (by show 2 ≤ sizeLine; decide), fun t ht => ?_⟩
    have S := same_new (o := .tup [.ty "list", .ty "tuple"]) ht
    obtain ⟨ty, hty, hk⟩ := isL_any (hL _ S)
    exact ⟨_, t, _, ty, _, b, rfl, upd_same, .cons (.ty _) (.cons (.ty _) .nil), hty, hk, k _ S⟩
theorem sc_are_unlike : FnScope ["value", "least", "most", "item"] ["value", "least", "most"] (defScope s_are_unlike) := ⟨rfl, rfl, rfl, by decide +kernel, rfl, by decide +kernel, by decide +kernel⟩
abbrev N_are_unlike : List Str := ["value", "least", "most", "item"]
theorem ok_are_unlike {f f1 f2 f3 : Addr} {fd fd1 fd2 fd3 : FuncData} (F : Fun K "are_unlike" "are_unlike" s_are_unlike f fd) (T : Blt mg) (D_is_list : Df K mg "is_list" s_is_list ["value"] f1 fd1) (D_is_within : Df K mg "is_within" s_is_within ["value", "least", "most"] f2 fd2) (D_is_integer : Df K mg "is_integer" s_is_integer ["value"] f3 fd3) :
    FnOk P w K mg base CX0 4 f fd ["value", "least", "most"] (spUnlike K) := by
  have G_is_list : FnOk P w K mg base CX0 1 f1 fd1 ["value"] (spIsList K) := ok_is_list D_is_list.F T
  have G_is_within : FnOk P w K mg base CX0 2 f2 fd2 ["value", "least", "most"] (spWithin K) := ok_is_within D_is_within.F D_is_integer T
  refine F.ok sc_are_unlike (fun vs H Q E h => ?_) (fun cdv A outer s H vs Q E hr h => ?_)
  · obtain ⟨x, lo, hi, rfl, _⟩ := h
    rfl
  · obtain ⟨x, lo, hi, rfl, h⟩ := h
    refine ⟨_, (pss_cons (ps_if (pt_not (pt_val (pe_call G_is_list (hr.mono (by decide)) (by rfl) D_is_list.g D_is_list.F.kp D_is_list.b .nil pass0 (pa_cons (pv 0) pa_nil)))) (pss_one (ps_ret pe_bl)) pss_nil)
  (pss_one (ps_ret (pe_and (pe_callB (cr_all rfl) (by rfl) T.n_all (by decide +kernel) (pa_cons (pe_lc (own := [("item", 3)]) (g := (gName 3)) (tt := tYes) rfl sc_are_unlike.nd (pi_seqA (pv 0)) (blkOk_by (N := N_are_unlike) (own := [("item", 3)]) (sc := defScope s_are_unlike) (by decide +kernel)) (fun _ _ _ _ _ => (pg_name (i := 3) sc_are_unlike.nd rfl (Or.inl rfl))) (fun _ _ _ _ _ => pts_nil) (fun _ _ _ _ _ => (pe_call G_is_within (hr.mono (by decide)) (by rfl) D_is_within.g D_is_within.F.kp D_is_within.b .nil pass0 (pa_cons (pv 3) (pa_cons (pv 1) (pa_cons (pv 2) pa_nil)))))) pa_nil)) (pe_one (pe_cmpR op_eq (pe_lenSet2 (by rfl) T.n_len (by rfl) T.n_set (pv 0)) (pe_callB call_len_seq (by rfl) T.n_len (by decide +kernel) (pa_cons (pv 0) pa_nil)) (nomark _))))))), ?_⟩
    have h2 : (EvL K H x false ∧ ∀ H', Same H H' → Q (.bl false) H') ∨ ∃ (a : Addr) (xs : List V) (bs : List Bool), x = .ref a ∧ (SqL K H a xs ∨ SqT K H a xs) ∧ xs.length ≤ 900 ∧ EvL K H x true ∧ bs.length = xs.length ∧
        (∀ (i : Nat) (v : V) (b : Bool), xs[i]? = some v → bs[i]? = some b → ∃ c, EvI K H v c ∧ b = (c && inB lo hi v)) ∧ (∀ H', Same H H' → (bs.all id = false → Q (.bl false) H') ∧ (bs.all id = true → ∃ ns : List Int, xs = ns.map V.int ∧ Q (.bl (decide ns.Nodup)) H')) := by
      rcases h with ⟨hn | ⟨a, xs, bs, e1, e2, e3, e4, e5, e6, e7⟩, q⟩ | ⟨ns, ⟨a, e1, e2, e3, e4, e5, e6⟩, q⟩
      · exact .inl ⟨hn, q⟩
      · refine .inr ⟨a, xs, bs, e1, e2, e3, e4, e5, e6, fun H' S => ⟨fun _ => q H' S, fun c => ?_⟩⟩
        obtain ⟨ns, e, nd⟩ := e7 c
        refine ⟨ns, e, ?_⟩
        rw [decide_eq_false nd]
        exact q H' S
      · refine .inr ⟨a, ns.map V.int, ns.map fun _ => true, e1, e2, by rw [List.length_map]; exact e3, e4, by rw [List.length_map, List.length_map], fun i v b hv hb => ?_, fun H' S => ⟨fun c => ?_, fun _ => ⟨ns, rfl, ?_⟩⟩⟩
        · rw [List.getElem?_map] at hv hb
          cases e : ns[i]? with
          | none => rw [e] at hv; cases hv
          | some n =>
            rw [e] at hv hb
            cases hv
            cases hb
            exact ⟨true, fun H' _ => isI_int n, by rw [e5 n (List.mem_of_getElem? e)]; rfl⟩
        · rw [show (ns.map fun _ => true).all id = true by simp] at c
          cases c
        · rw [decide_eq_true e6]
          exact q H' S
    rcases h2 with ⟨hL, q⟩ | ⟨a, xs, bs, rfl, hq, hlen, hL, hbl, hb, k⟩
    · exact ⟨_, rfl, x, false, rfl, hL, fun H1 S1 => ⟨_, rfl, q H1 S1⟩⟩
    refine ⟨_, rfl, _, true, rfl, hL, fun H1 S1 => ⟨_, rfl, ?_⟩⟩
    have hq1 : SqL K H1 a xs ∨ SqT K H1 a xs := hq.elim (fun z => .inl (sqL_same z S1)) fun z => .inr (sqT_same z S1)
    refine ⟨_, rfl, a, rfl, lc_seqA hq1 (fun D i H' => Same H1 H' ∧ H' D = some (.lst ((bs.take i).map V.bl))) (fun D hD => ⟨same_new hD, upd_same⟩) (fun D i H' _ _ p => p.1) ?_ ?_⟩
    · rintro D i v H' hD hx ⟨S2, hl⟩
      have hib : i < bs.length := by
        rw [hbl]
        exact (List.getElem?_eq_some_iff.mp hx).1
      obtain ⟨c, hI, ec⟩ := hb i v bs[i] hx (List.getElem?_eq_getElem hib)
      refine ⟨rfl, _, rfl, _, rfl, _, rfl, v, lo, hi, c, rfl, hI _ (S1.trans S2), _, hl, ?_, ?_, ?_⟩
      · rw [List.length_map, List.length_take]
        exact small1000 (by omega)
      · intro q o e
        rw [upd_ne (ne_of_none e hD)]
        exact S2 q o e
      · rw [upd_same, ← ec, List.take_add_one, List.getElem?_eq_getElem hib, List.map_append]
        rfl
    · rintro D H2 hD ⟨S2, hl⟩
      rw [← hbl, List.take_length] at hl
      refine ⟨D, bs, rfl, SqL.of hl, _, rfl, ?_⟩
      obtain ⟨kf, kt⟩ := k H2 (S1.trans S2)
      refine iteB (fun c => ?_) (fun c => kf c)
      obtain ⟨ns, ens, q⟩ := kt c
      subst ens
      have hq2 : SqL K H2 a (ns.map V.int) ∨ SqT K H2 a (ns.map V.int) := hq1.elim (fun z => .inl (sqL_same z S2)) fun z => .inr (sqT_same z S2)
      rw [List.length_map] at hlen
      refine ⟨_, rfl, a, ns, rfl, hq2, by omega, fun c hc hcn => ⟨_, rfl, a, _, rfl, hq2, rfl, ?_⟩⟩
      have e : decide (V.int (c : Int) = V.int (((ns.map V.int).length : Nat) : Int)) = decide ns.Nodup := by
        rw [List.length_map]
        by_cases z : ns.Nodup
        · rw [hcn.mpr z, decide_eq_true z]
          simp
        · rw [decide_eq_false z]
          refine decide_eq_false fun y => z (hcn.mp ?_)
          have y := V.int.inj y
          omega
      rw [e]
      exact q
theorem sc_is_lot : FnScope ["value"] ["value"] (defScope s_is_lot) := ⟨rfl, rfl, rfl, by decide +kernel, rfl, by decide +kernel, by decide +kernel⟩
def spIsLot (K : PySem.W.Frag) : Sp := fun vs H Q _ => ∃ x : V, vs = [x] ∧ ((NoLot K H x (some 0) (some 20000) ∧ ∀ H', Same H H' → Q (.bl false) H') ∨ (∃ ns, IsLot K H x (some 0) (some 20000) ns ∧ ∀ H', Same H H' → Q (.bl true) H'))
theorem ok_is_lot {f f1 : Addr} {fd fd1 : FuncData} (F : Fun K "is_lot" "is_lot" s_is_lot f fd) (T : Blt mg) (D_are_unlike : Df K mg "are_unlike" s_are_unlike ["value", "least", "most"] f1 fd1) (G_are_unlike : FnOk P w K mg base CX0 4 f1 fd1 ["value", "least", "most"] (spUnlike K)) :
    FnOk P w K mg base CX0 5 f fd ["value"] (spIsLot K) := by
  obtain ⟨tB, gB⟩ := T.g_MOST_BIT
  refine F.ok sc_is_lot (fun vs H Q E h => ?_) (fun cdv A outer s H vs Q E hr h => ?_)
  · obtain ⟨x, rfl, _⟩ := h
    rfl
  · obtain ⟨x, rfl, h⟩ := h
    refine ⟨_, (pss_one (ps_ret (pe_call G_are_unlike (hr.mono (by decide)) (by rfl) D_are_unlike.g D_are_unlike.F.kp D_are_unlike.b .nil pass0 (pa_cons (pv 0) (pa_cons pe_int (pa_cons (pe_glob (v := .int 20000) rfl gB ⟨_, rfl⟩) pa_nil)))))), ?_⟩
    exact ⟨_, rfl, x, some 0, some 20000, rfl, h⟩
def spLotOf (K : PySem.W.Frag) (C : Addr) : Sp := fun vs H Q E => ∃ x : V, vs = [x] ∧ ((NoLot K H x (some 0) (some 20000) ∧ ∀ H', Same H H' → RaisesP C "bits" E H') ∨ (∃ ns, IsLot K H x (some 0) (some 20000) ns ∧
  ∀ (ns' : List Int) (q : Addr) (H' : Hp), ns'.Perm ns → ns'.Pairwise (· ≤ ·) → Same H H' → H' q = some (.tup (ns'.map V.int)) → Q (.ref q) H'))
def spNeedLot (K : PySem.W.Frag) (C : Addr) : Sp := fun vs H Q E => ∃ (x : V) (part : Str), vs = [x, .str part] ∧ ((NoLot K H x (some 0) (some 20000) ∧ ∀ H', Same H H' → RaisesP C part E H') ∨ (∃ ns, IsLot K H x (some 0) (some 20000) ns ∧ ∀ H', Same H H' → Q .non H'))
theorem sc_need_lot : FnScope ["value", "part"] ["value", "part"] (defScope s_need_lot) := ⟨rfl, rfl, rfl, by decide +kernel, rfl, by decide +kernel, by decide +kernel⟩
theorem ok_need_lot {f f1 C fI : Addr} {fd fd1 fdI : FuncData} (F : Fun K "need_lot" "need_lot" s_need_lot f fd) (D_is_lot : Df K mg "is_lot" s_is_lot ["value"] f1 fd1) (G_is_lot : FnOk P w K mg base CX0 5 f1 fd1 ["value"] (spIsLot K))
    (R_BadBits : Err P w K mg base "BadBits" "part" C fI fdI) : FnOk P w K mg base (L2.CX P w) 6 f fd ["value", "part"] (spNeedLot K C) := by
  refine F.okX sc_need_lot (fun vs H Q E h => ?_) (fun cdv A outer s H vs Q E hr h => ?_)
  · obtain ⟨x, part, rfl, _⟩ := h
    rfl
  · obtain ⟨x, part, rfl, h⟩ := h
    refine ⟨_, (pss_one (ps_if (pt_not (pt_val (pe_call G_is_lot (hr.mono (by decide)) (by rfl) D_is_lot.g D_is_lot.F.kp D_is_lot.b .nil pass0 (pa_cons (pv 0) pa_nil)))) (pss_one (ps_raise1 rfl (takes_of rfl rfl rfl rfl) R_BadBits (hr.mono (by decide)) (by rfl) (pv 1))) pss_nil)), ?_⟩
    rcases h with ⟨hn, k⟩ | ⟨ns, hl, k⟩
    · refine ⟨_, rfl, x, rfl, .inl ⟨hn, fun H1 S1 => ⟨_, rfl, .str part, rfl, ?_⟩⟩⟩
      exact raise1_of (W := fun cls d _ H => E cls d H) R_BadBits.T R_BadBits.no (k H1 S1)
    · refine ⟨_, rfl, x, rfl, .inr ⟨ns, hl, fun H1 S1 => ⟨_, rfl, ?_⟩⟩⟩
      exact k H1 S1
theorem sc_lot_of : FnScope ["bits"] ["bits"] (defScope s_lot_of) := ⟨rfl, rfl, rfl, by decide +kernel, rfl, by decide +kernel, by decide +kernel⟩
theorem ok_lot_of {f f1 C : Addr} {fd fd1 : FuncData} (F : Fun K "lot_of" "lot_of" s_lot_of f fd) (T : Blt mg) (D_need_lot : Df K mg "need_lot" s_need_lot ["value", "part"] f1 fd1) (G_need_lot : FnOk P w K mg base (L2.CX P w) 6 f1 fd1 ["value", "part"] (spNeedLot K C)) : FnOk P w K mg base (L2.CX P w) 7 f fd ["bits"] (spLotOf K C) := by
  refine F.okX sc_lot_of (fun vs H Q E h => ?_) (fun cdv A outer s H vs Q E hr h => ?_)
  · obtain ⟨x, rfl, _⟩ := h
    rfl
  · obtain ⟨x, rfl, h⟩ := h
    refine ⟨_, (pss_cons (ps_expr (pe_callS G_need_lot (hr.mono (by decide)) (by rfl) D_need_lot.g D_need_lot.F.kp D_need_lot.b (fun σ => passAt (takes_of rfl rfl rfl rfl) σ) (pa_cons (pv 0) (pa_cons pe_str pa_nil))))
  (pss_one (ps_ret (pe_callTy call_tuple_of (by rfl) T.n_tuple (by decide +kernel) (pa_cons (pe_callB cr_sortedA (by rfl) T.n_sorted (by decide +kernel) (pa_cons (pv 0) pa_nil)) pa_nil))))), ?_⟩
    rcases h with ⟨hn, k⟩ | ⟨ns, hl, k⟩
    · exact ⟨_, rfl, x, _, rfl, .inl ⟨hn, k⟩⟩
    · refine ⟨_, rfl, x, _, rfl, .inr ⟨ns, hl, fun H1 S1 => ?_⟩⟩
      obtain ⟨a, rfl, hq, _⟩ := hl
      have hq1 : SqL K H1 a (ns.map V.int) ∨ SqT K H1 a (ns.map V.int) := hq.elim (fun z => .inl (sqL_same z S1)) fun z => .inr (sqT_same z S1)
      refine ⟨_, rfl, a, ns, rfl, hq1, fun ns' p perm up hp => ?_⟩
      refine ⟨p, _, rfl, .inl ⟨SqL.of upd_same, fun q hq => ?_⟩⟩
      exact k ns' q _ perm up (S1.trans ((same_new hp).trans (same_new hq))) upd_same
end
end K03
namespace K03
open PySem PySem.Spec PyProof.Rows L2 OB SkE
section
variable {P : Program} {w : World} {K : PySem.W.Frag} {mg : Str → Option Value} {base : Heap}
theorem cut60 (ns : List Int) : cutV (ns.map V.int) none (some 60) = (ns.take 60).map V.int := by
  unfold cutV
  have a : HT.sIx (ns.map V.int).length 0 none = 0 := rfl
  rw [a, List.drop_zero, Nat.sub_zero, List.map_take]
  have e : HT.sIx (ns.map V.int).length (ns.map V.int).length (some 60) = min 60 (ns.map V.int).length := HT.sIx_nat _ _ 60
  rw [e]
  by_cases h : (ns.map V.int).length ≤ 60
  · rw [Nat.min_eq_right h, List.take_length, List.take_of_length_le h]
  · rw [Nat.min_eq_left (by omega)]
theorem take_more {α : Type} {l : List α} {i : Nat} {x : α} (h : l[i]? = some x) : l.take (i + 1) = l.take i ++ [x] := by
  rw [List.take_add_one, h]
  rfl
theorem sc__law_kennel : FnScope ["script", "cell"] ["script"] (defScope s__law_kennel) := ⟨rfl, rfl, rfl, by decide +kernel, rfl, by decide +kernel, by decide +kernel⟩
abbrev N__law_kennel : List Str := ["script", "cell"]
theorem ok__law_kennel {f : Addr} {fd : FuncData} (F : Fun K "_law_kennel" "_law_kennel" s__law_kennel f fd) (T : Blt mg) : FnOk P w K mg base CX0 1 f fd ["script"] (spLot K) := by
  refine F.ok sc__law_kennel (fun vs H Q E h => ?_) (fun cdv A outer s H vs Q E hr h => ?_)
  · obtain ⟨a, ns, rfl, _⟩ := h
    rfl
  · obtain ⟨a, ns, rfl, hS, hl, k⟩ := h
    refine ⟨_, (pss_one (ps_ret (pe_lst (pa_cons (pe_lc (own := [("cell", 1)]) (g := (gName 1)) (tt := tYes) rfl sc__law_kennel.nd (pi_list (pe_slice sl_list (pv 0) po_none (po_some pe_int))) (blkOk_by (N := N__law_kennel) (own := [("cell", 1)]) (sc := defScope s__law_kennel) (by decide +kernel)) (fun _ _ _ _ _ => (pg_name (i := 1) sc__law_kennel.nd rfl (Or.inl rfl))) (fun _ _ _ _ _ => pts_nil) (fun _ _ _ _ _ => (pe_callTy call_int1 (by rfl) T.n_int (by decide +kernel) (pa_cons (pv 1) pa_nil)))) (pa_cons pe_int (pa_cons pe_int pa_nil)))))), ?_⟩
    refine ⟨_, rfl, _, rfl, a, _, rfl, hS, fun c hc => ?_⟩
    have e1 : cutV (ns.map V.int) none (some 60) = (ns.take 60).map V.int := cut60 ns
    rw [e1]
    have S0 : Same H (upd H c (.lst ((ns.take 60).map V.int))) := same_new hc
    refine ⟨c, rfl, ⟨_, .inl (.inl upd_same)⟩, fun b hb => ?_⟩
    have ncb : c ≠ b := ne_of_none upd_same hb
    refine lc_list (K := K) (a := c) (xs := (ns.take 60).map V.int) (fun i H' => Same (upd H c (.lst ((ns.take 60).map V.int))) H' ∧ H' b = some (.lst (((ns.take 60).map V.int).take i)))
      ⟨same_new hb, upd_same⟩ (fun i H' _ h => h.1.seq (.inl (.inl upd_same))) ?_ ?_
    · rintro i y H' hy ⟨S1, h1⟩
      obtain ⟨z, hz, rfl⟩ : ∃ z, (ns.take 60)[i]? = some z ∧ y = V.int z := by
        rw [List.getElem?_map] at hy
        cases e : (ns.take 60)[i]? with
        | none => rw [e] at hy; cases hy
        | some z => rw [e] at hy; exact ⟨z, rfl, (Option.some.inj hy).symm⟩
      refine ⟨rfl, _, rfl, .inl ⟨_, rfl, _, h1, ?_, ?_, ?_⟩⟩
      · refine small1000 ?_
        rw [List.length_take, List.length_map, List.length_take]
        omega
      · intro q o e
        have nb : q ≠ b := ne_of_none e hb
        rw [upd_ne nb]
        exact S1 q o e
      · rw [upd_same, ← List.map_take, ← List.map_take, take_more hz, List.map_append]
        rfl
    · rintro H' ⟨S1, h1⟩
      rw [List.take_length] at h1
      refine ⟨(by show 3 ≤ sizeLine; decide), fun p hp => ?_⟩
      have S2 : Same H H' := S0.trans S1
      have hb0 : H b = none := S0.free hb
      refine k p b _ (S2.free hp) hb0 ⟨ns.take 60, 0, 0, upd_same, ?_, Int.le_refl _, Int.le_refl _⟩ (S2.trans (same_new hp))
      rw [upd_ne (ne_of_none h1 hp)]
      exact h1
theorem sc__law_bark : FnScope ["kennel", "many", "left", "turn", "cell", "mixed"] ["kennel", "many"] (defScope s__law_bark) := ⟨rfl, rfl, rfl, by decide +kernel, rfl, by decide +kernel, by decide +kernel⟩
theorem ok__law_bark {f : Addr} {fd : FuncData} (F : Fun K "_law_bark" "_law_bark" s__law_bark f fd) (T : Blt mg) : FnOk P w K mg base CX0 1 f fd ["kennel", "many"] spDraw := by
  refine F.ok sc__law_bark (fun vs H Q E h => ?_) (fun cdv A outer s H vs Q E hr h => ?_)
  · obtain ⟨p, b, n, many, rfl, _⟩ := h
    rfl
  · obtain ⟨p, b, n, many, rfl, O, hn, hm, hm2, k⟩ := h
    obtain ⟨ns, t, l, hp, hb, ht, htn⟩ := id O
    have npb : p ≠ b := O.ne
    refine ⟨_, (pss_cons (ps_if (pt_cmpR op_gt (pe_ix ix_list (pv 0) pe_int (fun _ _ => rfl)) pe_int (nomark _)) (pss_cons (ps_set (i := 2) sc__law_bark.nd rfl (Or.inl rfl) (pe_callTy call_int1 (by rfl) T.n_int (by decide +kernel) (pa_cons (pe_ix ix_list (pv 0) pe_int (fun _ _ => rfl)) pa_nil)))
  (pss_cons (ps_asg (pe_op op_fdivW (pv 2) (pv 1)) (pg_sub (pv 0) pe_int set_list))
  (pss_one (ps_ret (pe_op op_mod (pe_callTy call_int1 (by rfl) T.n_int (by decide +kernel) (pa_cons (pv 2) pa_nil)) (pv 1)))))) pss_nil)
  (pss_cons (ps_set (i := 3) sc__law_bark.nd rfl (Or.inl rfl) (pe_ix ix_list (pv 0) pe_int (fun _ _ => rfl)))
  (pss_cons (ps_asg (pe_op op_add (pv 3) pe_int) (pg_sub (pv 0) pe_int set_list))
  (pss_cons (ps_set (i := 4) sc__law_bark.nd rfl (Or.inl rfl) (pe_op op_add (pe_op op_mul pe_int (pv 3)) pe_int))
  (C8.pss_cut (ps_if (pt_cmpR (op_neD hr.units) (pe_ix ix_list (pv 0) pe_int (fun _ _ => rfl)) (pe_lst pa_nil) (nomark _)) (pss_one (ps_set (i := 4) sc__law_bark.nd rfl (Or.inl rfl) (pe_ix ix_list (pe_ix ix_list (pv 0) pe_int (fun _ _ => rfl)) (pe_op op_mod (pe_callTy call_int1 (by rfl) T.n_int (by decide +kernel) (pa_cons (pv 3) pa_nil)) (pe_callB call_len_seq (by rfl) T.n_len (by decide +kernel) (pa_cons (pe_ix ix_list (pv 0) pe_int (fun _ _ => rfl)) pa_nil))) (fun _ _ => rfl)))) pss_nil)
  (pss_cons (ps_if (PW.pt (pw_and (pt_cmpR op_lt (pv 3) (pe_callB call_len_seq (by rfl) T.n_len (by decide +kernel) (pa_cons (pe_ix ix_list (pv 0) pe_int (fun _ _ => rfl)) pa_nil)) (nomark _)) (pw_and1 (pt_cmpR op_ge (pe_callB call_abs (by rfl) T.n_abs (by decide +kernel) (pa_cons (pv 4) pa_nil)) (pe_op op_pow pe_int pe_int) (nomark _))))) (pss_cons (ps_set (i := 2) sc__law_bark.nd rfl (Or.inl rfl) (pe_op op_add (pe_op op_mul pe_int (pe_op op_sub (pe_callB call_abs (by rfl) T.n_abs (by decide +kernel) (pa_cons (pe_callTy call_int1 (by rfl) T.n_int (by decide +kernel) (pa_cons (pv 4) pa_nil)) pa_nil)) (pe_op op_pow pe_int pe_int))) (pe_callTy call_int1 (by rfl) T.n_int (by decide +kernel) (pa_cons (pe_cmpR op_lt (pv 4) pe_int (nomark _)) pa_nil))))
  (pss_cons (ps_asg (pe_op op_fdivW (pv 2) (pv 1)) (pg_sub (pv 0) pe_int set_list))
  (pss_one (ps_ret (pe_op op_mod (pe_callTy call_int1 (by rfl) T.n_int (by decide +kernel) (pa_cons (pv 2) pa_nil)) (pv 1)))))) pss_nil)
  (pss_cons (ps_set (i := 5) sc__law_bark.nd rfl (Or.inl rfl) (pe_op op_mod (pe_callTy call_int1 (by rfl) T.n_int (by decide +kernel) (pa_cons (pe_op op_pow (pe_op op_add (pe_op op_add (pe_op op_mod (pe_callTy call_int1 (by rfl) T.n_int (by decide +kernel) (pa_cons (pv 4) pa_nil)) pe_int) (pe_op op_mul pe_int (pv 3))) pe_int) pe_int) pa_nil)) pe_int))
  (pss_cons (ps_set (i := 5) sc__law_bark.nd rfl (Or.inl rfl) (pe_op op_mod (pe_callTy call_int1 (by rfl) T.n_int (by decide +kernel) (pa_cons (pe_op op_pow (pe_op op_add (pe_op op_add (pe_op op_mul (pv 5) (pe_op op_add (pe_op op_mul pe_int (pv 3)) pe_int)) (pe_op op_mul (pe_op op_mul pe_int (pv 3)) (pv 3))) pe_int) pe_int) pa_nil)) pe_int))
  (pss_one (ps_ret (pe_op op_mod (pe_callTy call_int1 (by rfl) T.n_int (by decide +kernel) (pa_cons (pe_op op_fdiv (pv 5) pe_int) pa_nil)) (pv 1)))))))))))), ?_⟩
    -- quay[2] > 0
    refine ⟨_, rfl, p, _, _, _, rfl, rfl, SqL.of hp, rfl, _, _, rfl, rfl, _, rfl, ?_⟩
    refine ite2 (fun c => ?_) (fun c => ?_)
    · -- left = int(quay[2]); quay[2] = left // many; return int(left) % many
      refine ⟨_, rfl, p, _, _, _, rfl, rfl, SqL.of hp, rfl, .inl ⟨_, rfl, ?_⟩⟩
      refine ⟨_, rfl, _, rfl, _, _, rfl, rfl, wide_div hm hm2 (by decide) (by decide), _, rfl, p, _, _, _, rfl, rfl, hp, rfl, ?_⟩
      refine ⟨_, rfl, .inl ⟨_, rfl, _, rfl, _, _, rfl, rfl, hm, ?_⟩⟩
      refine k _ _ (Int.emod_nonneg _ (by omega)) (Int.emod_lt_of_pos _ hm) ⟨ns, t, _, upd_same, ?_, ht, by omega⟩ but_at
      rw [upd_ne npb.symm]
      exact hb
    · -- turn = quay[1]; quay[1] = turn + 1; cell = A * turn + B
      refine ⟨_, rfl, p, _, _, _, rfl, rfl, SqL.of hp, rfl, ?_⟩
      refine ⟨_, rfl, _, _, rfl, rfl, _, rfl, p, _, _, _, rfl, rfl, hp, rfl, ?_⟩
      refine ⟨_, rfl, _, _, rfl, rfl, .inl ⟨by decide, by decide⟩, _, _, rfl, rfl, ?_⟩
      -- quay[0] != []
      refine ⟨fun σ' H' => ∃ c0 : Int, σ' = [some (.ref p), some (.int many), none, some (.int t), some (.int c0), none] ∧ H' p = some (.lst [.ref b, .int (t + 1), .int l]) ∧ H' b = some (.lst (ns.map V.int)) ∧ But p H H', ?_, ?_⟩
      rotate_left
      · rintro σ' H' ⟨c0, rfl, hp2, hb2, S2⟩
        have ht2 : t ≤ 1000000 := by omega
        have fin : ∀ r : Int, 0 ≤ r → r < many → Q (.int r) H' := fun r h1 h2 => k r H' h1 h2 ⟨ns, t + 1, l, hp2, hb2, by omega, by omega⟩ S2
        have end_ : ∀ x : Int, Q (.int (x % many)) H' := fun x => fin _ (Int.emod_nonneg _ (by omega)) (Int.emod_lt_of_pos _ hm)
        refine ⟨_, rfl, _, rfl, p, _, _, _, rfl, rfl, SqL.of hp2, rfl, b, _, rfl, .inl (SqL.of hb2), _, _, rfl, rfl, _, rfl, ?_⟩
        refine ite2 (fun c1 => ?_) (fun c1 => ?_)
        · refine ⟨_, rfl, _, rfl, _, _, rfl, rfl, ⟨by decide, by decide, by decide⟩, _, _, rfl, rfl, _, rfl, ?_⟩
          refine ite2 (fun c2 => ?_) (fun c2 => ?_)
          · refine ⟨_, rfl, .inl ⟨_, rfl, _, rfl, _, _, rfl, rfl, ⟨by decide, by decide, by decide⟩, _, _, rfl, rfl, _, _, rfl, rfl, .inl ⟨by decide, by decide⟩, ?_⟩⟩
            refine ⟨_, rfl, _, _, rfl, rfl, .inr ⟨_, rfl, _, _, rfl, rfl, ?_⟩⟩
            refine ⟨_, rfl, _, rfl, _, _, rfl, rfl, wide_div hm hm2 (by decide) (by decide), _, rfl, p, _, _, _, rfl, rfl, hp2, rfl, ?_⟩
            refine ⟨_, rfl, .inl ⟨_, rfl, _, rfl, _, _, rfl, rfl, hm, ?_⟩⟩
            refine k _ _ (Int.emod_nonneg _ (by omega)) (Int.emod_lt_of_pos _ hm) ⟨ns, t + 1, _, upd_same, ?_, by omega, by omega⟩ (S2.trans but_at)
            rw [upd_ne npb.symm]
            exact hb2
          · refine ⟨_, rfl, .inl ⟨_, rfl, _, _, rfl, rfl, (by show (0 : Int) < _; decide), _, rfl, _, _, rfl, rfl, .inl ⟨by decide, by decide⟩, _, _, rfl, rfl, _, _, rfl, rfl, _, _, rfl, rfl, ⟨by decide, by decide, mix1 (by decide) (by decide) ht ht2 (by decide) (by decide) (by decide) (by decide)⟩, .inl ⟨_, rfl, _, _, rfl, rfl, (by show (0 : Int) < _; decide), ?_⟩⟩⟩
            refine ⟨_, rfl, _, rfl, _, _, rfl, rfl, .inl ⟨by decide, by decide⟩, _, _, rfl, rfl, _, _, rfl, rfl, .inl (mod_lim (by decide) (by decide)), _, rfl, _, _, rfl, rfl, .inl ⟨by decide, by decide⟩, _, rfl, _, _, rfl, rfl, .inr ⟨by omega, by omega⟩, _, _, rfl, rfl, _, _, rfl, rfl, _, _, rfl, rfl,
              ⟨by decide, by decide, mix2 (by decide) (by decide) ht ht2 (by decide) (by decide) (by decide) (by decide) (by decide) (by decide)⟩, .inl ⟨_, rfl, _, _, rfl, rfl, (by show (0 : Int) < _; decide), ?_⟩⟩
            exact ⟨_, rfl, _, _, rfl, rfl, ⟨by decide, by decide⟩, .inl ⟨_, rfl, _, rfl, _, _, rfl, rfl, hm, end_ _⟩⟩
        · refine ⟨_, rfl, .inl ⟨_, rfl, _, _, rfl, rfl, (by show (0 : Int) < _; decide), _, rfl, _, _, rfl, rfl, .inl ⟨by decide, by decide⟩, _, _, rfl, rfl, _, _, rfl, rfl, _, _, rfl, rfl, ⟨by decide, by decide, mix1 (by decide) (by decide) ht ht2 (by decide) (by decide) (by decide) (by decide)⟩, .inl ⟨_, rfl, _, _, rfl, rfl, (by show (0 : Int) < _; decide), ?_⟩⟩⟩
          refine ⟨_, rfl, _, rfl, _, _, rfl, rfl, .inl ⟨by decide, by decide⟩, _, _, rfl, rfl, _, _, rfl, rfl, .inl (mod_lim (by decide) (by decide)), _, rfl, _, _, rfl, rfl, .inl ⟨by decide, by decide⟩, _, rfl, _, _, rfl, rfl, .inr ⟨by omega, by omega⟩, _, _, rfl, rfl, _, _, rfl, rfl, _, _, rfl, rfl,
            ⟨by decide, by decide, mix2 (by decide) (by decide) ht ht2 (by decide) (by decide) (by decide) (by decide) (by decide) (by decide)⟩, .inl ⟨_, rfl, _, _, rfl, rfl, (by show (0 : Int) < _; decide), ?_⟩⟩
          exact ⟨_, rfl, _, _, rfl, rfl, ⟨by decide, by decide⟩, .inl ⟨_, rfl, _, rfl, _, _, rfl, rfl, hm, end_ _⟩⟩
      refine ⟨_, rfl, p, _, _, _, rfl, rfl, SqL.of upd_same, rfl, Nat.zero_le _, fun l0 hl0 => ?_⟩
      have hp1 : (upd (upd H p (.lst [.ref b, .int (t + 1), .int l])) l0 (.lst [])) p = some (.lst [.ref b, .int (t + 1), .int l]) := by
        rw [upd_ne (ne_of_none upd_same hl0), upd_same]
      have hb1 : (upd (upd H p (.lst [.ref b, .int (t + 1), .int l])) l0 (.lst [])) b = some (.lst (ns.map V.int)) := by
        have e : (upd H p (.lst [.ref b, .int (t + 1), .int l])) b = some (.lst (ns.map V.int)) := by
          rw [upd_ne npb.symm]
          exact hb
        rw [upd_ne (ne_of_none e hl0)]
        exact e
      have S1 : But p H (upd (upd H p (.lst [.ref b, .int (t + 1), .int l])) l0 (.lst [])) := but_at.trans (But.of (same_new hl0))
      refine ⟨.list (ns.map PyData.int), .list [], Dp.lst (SqL.of hb1) (dp_ints ns), Dp.lst (SqL.of upd_same) .nil, shaped_ints ns, shaped_ints [], _, rfl, ?_⟩
      rw [eqv_nil]
      refine ite2 (fun c => ?_) (fun c => ?_)
      · have c : ns ≠ [] := by simpa using c
        have hl : 0 < ns.length := List.length_pos_iff.mpr c
        have hl2 : (0 : Int) < ((ns.map V.int).length : Nat) := by
          rw [List.length_map]
          omega
        have h1 := Int.emod_nonneg t (show (((ns.map V.int).length : Nat) : Int) ≠ 0 by omega)
        have h2 := Int.emod_lt_of_pos t hl2
        obtain ⟨j, hj⟩ : ∃ j : Nat, t % (((ns.map V.int).length : Nat) : Int) = (j : Int) := ⟨_, (Int.toNat_of_nonneg h1).symm⟩
        have hj2 : j < ns.length := by
          rw [List.length_map] at hj h2
          omega
        have hx : (ns.map V.int)[j]? = some (V.int ns[j]) := by
          rw [List.getElem?_map, List.getElem?_eq_getElem hj2]
          rfl
        refine ⟨_, rfl, p, _, _, _, rfl, rfl, SqL.of hp1, rfl, ?_⟩
        refine ⟨_, rfl, .inl ⟨_, rfl, _, rfl, p, _, _, _, rfl, rfl, SqL.of hp1, rfl, b, _, rfl, .inl (SqL.of hb1), _, _, rfl, rfl, hl2, ?_⟩⟩
        exact ⟨b, _, _, V.int ns[j], rfl, rfl, SqL.of hb1, at_of hj hx, ns[j], rfl, hp1, hb1, S1⟩
      · exact ⟨_, rfl, hp1, hb1, S1⟩
end
end K03
namespace K03
open PySem PySem.Spec PyProof.Rows L2 OB SkE
/-- a word with bits flipped -/
def fl (n : Nat) (ns : List Int) : Nat := ns.foldl (fun v b => v ^^^ 2 ^ b.toNat) n
theorem fl_perm {n : Nat} {l1 l2 : List Int} (h : l1.Perm l2) : fl n l1 = fl n l2 := by
  unfold fl
  refine h.foldl_eq' ?_ n
  intro x _ y _ z
  rw [Nat.xor_assoc, Nat.xor_assoc, Nat.xor_comm (2 ^ x.toNat)]
theorem fl_more (n : Nat) (l : List Int) (b : Int) : fl n (l ++ [b]) = fl n l ^^^ 2 ^ b.toNat := by
  unfold fl
  rw [List.foldl_append]
  rfl
theorem in_lot {n : Int} (h : inB (some 0) (some 20000) (.int n) = true) : 0 ≤ n ∧ n ≤ 20000 := by
  have h : (decide ((0 : Int) ≤ n) && decide (n ≤ 20000)) = true := h
  rw [Bool.and_eq_true, decide_eq_true_eq, decide_eq_true_eq] at h
  exact h
def Bad (K : PySem.W.Frag) (H : Hp) (x : V) (lo hi : Option Int) : Prop := ∃ b, IsI K H x b ∧ (b && inB lo hi x) = false
theorem yes_no {b : Bool} {A : Prop} (h : b = true) (z : b = false) : A := by
  rw [h] at z
  cases z
def spFlipped (K : PySem.W.Frag) (CW CB : Addr) : Sp := fun vs H Q E => ∃ x y : V, vs = [x, y] ∧ ((Bad K H x (some 0) none ∧ RaisesP CW "word" E H) ∨ ∃ n : Nat, x = .int (n : Int) ∧
  ((NoLot K H y (some 0) (some 20000) ∧ ∀ H', Same H H' → RaisesP CB "bits" E H') ∨ (∃ ns, IsLot K H y (some 0) (some 20000) ns ∧ ∀ H', Same H H' → Q (.int ((fl n ns : Nat) : Int)) H')))
/-- a word, and an ascending tuple of bits -/
def spOften : Sp := fun vs H Q _ => ∃ (n : Nat) (q : Addr) (ns : List Int), vs = [.int n, .ref q] ∧ H q = some (.tup (ns.map V.int)) ∧ (∀ z ∈ ns, 0 ≤ z ∧ z ≤ 20000) ∧ Q (.int ((fl n ns : Nat) : Int)) H
section
variable {P : Program} {w : World} {K : PySem.W.Frag} {mg : Str → Option Value} {base : Heap}
theorem sc_flipped_often : FnScope ["word", "bits", "there", "bit"] ["word", "bits"] (defScope s_flipped_often) := ⟨rfl, rfl, rfl, by decide +kernel, rfl, by decide +kernel, by decide +kernel⟩
theorem ok_flipped_often {f : Addr} {fd : FuncData} (F : Fun K "flipped_often" "flipped_often" s_flipped_often f fd) : FnOk P w K mg base CX0 1 f fd ["word", "bits"] spOften := by
  refine F.ok sc_flipped_often (fun vs H Q E h => ?_) (fun cdv A outer s H vs Q E hr h => ?_)
  · obtain ⟨n, q, ns, rfl, _⟩ := h
    rfl
  · obtain ⟨n, q, ns, rfl, hq, hin, k⟩ := h
    refine ⟨_, (pss_cons (ps_set (i := 2) sc_flipped_often.nd rfl (Or.inl rfl) (pv 0))
  (pss_cons (ps_for PassesOwn.never rfl (pi_tup (pv 1)) (pg_name (i := 3) sc_flipped_often.nd rfl (Or.inl rfl)) (pss_one (ps_set (i := 2) sc_flipped_often.nd rfl (Or.inl rfl) (pe_op op_xor (pv 2) (pe_op op_oneN pe_int (pv 3))))))
  (pss_one (ps_ret (pv 2))))), ?_⟩
    refine ⟨_, rfl, _, rfl, q, rfl, ⟨_, SqT.of hq⟩, ?_⟩
    refine for_it (J := Itt K q) walk_tup (fun i σ H' => H' = H ∧ ∃ v : Option V, σ = [some (.int (n : Int)), some (.ref q), some (.int ((fl n (ns.take i) : Nat) : Int)), v]) ⟨rfl, none, rfl⟩ (fun i σ H' _ h => by rw [h.1]; exact SqT.of hq) ?_ ?_
    · rintro i x σ H2 H3 hi ⟨rfl, v, rfl⟩ ⟨rfl, hx⟩
      rw [List.length_map] at hi
      rw [List.getElem?_map, List.getElem?_eq_getElem hi] at hx
      have hx := (Option.some.inj hx).symm
      subst hx
      have hz := hin ns[i] (List.getElem_mem hi)
      obtain ⟨c, hc⟩ := Int.eq_ofNat_of_zero_le hz.1
      have ec : (ns[i]).toNat = c := by rw [hc]; rfl
      refine ⟨_, rfl, _, rfl, c, rfl, by rw [hc], by omega, _, _, rfl, rfl, rfl, some (.int ns[i]), ?_⟩
      show [some (V.int (n : Int)), some (V.ref q), some (V.int (Builtin.bitXor ((fl n (ns.take i) : Nat) : Int) ((2 ^ c : Nat) : Int))), _] = _
      rw [xor_nat, List.take_add_one, List.getElem?_eq_getElem hi]
      show _ = [some (V.int (n : Int)), some (V.ref q), some (V.int ((fl n (ns.take i ++ [ns[i]]) : Nat) : Int)), _]
      rw [fl_more, ec]
    · rintro σ H2 ⟨rfl, v, rfl⟩
      refine ⟨_, rfl, ?_⟩
      rw [List.length_map, List.take_length]
      exact k
theorem sc_flipped : FnScope ["word", "bits"] ["word", "bits"] (defScope s_flipped) := ⟨rfl, rfl, rfl, by decide +kernel, rfl, by decide +kernel, by decide +kernel⟩
theorem ok_flipped {f f1 f2 f3 CW CB : Addr} {fd fd1 fd2 fd3 : FuncData} (F : Fun K "flipped" "flipped" s_flipped f fd) (D_need_word : Df K mg "need_word" s_need_word ["value", "part"] f1 fd1) (G_need_word : FnOk P w K mg base (L2.CX P w) 4 f1 fd1 ["value", "part"] (spNeedWord K CW))
    (D_flipped_often : Df K mg "flipped_often" s_flipped_often ["word", "bits"] f3 fd3) (D_lot_of : Df K mg "lot_of" s_lot_of ["bits"] f2 fd2) (G_lot_of : FnOk P w K mg base (L2.CX P w) 7 f2 fd2 ["bits"] (spLotOf K CB)) : FnOk P w K mg base (L2.CX P w) 8 f fd ["word", "bits"] (spFlipped K CW CB) := by
  have G_flipped_often : FnOk P w K mg base CX0 1 f3 fd3 ["word", "bits"] spOften := ok_flipped_often D_flipped_often.F
  refine F.okX sc_flipped (fun vs H Q E h => ?_) (fun cdv A outer s H vs Q E hr h => ?_)
  · obtain ⟨x, y, rfl, _⟩ := h
    rfl
  · obtain ⟨x, y, rfl, h⟩ := h
    refine ⟨_, (pss_cons (ps_expr (pe_callS G_need_word (hr.mono (by decide)) (by rfl) D_need_word.g D_need_word.F.kp D_need_word.b (fun σ => passAt (takes_of rfl rfl rfl rfl) σ) (pa_cons (pv 0) (pa_cons pe_str pa_nil))))
  (pss_one (ps_ret (pe_call G_flipped_often (hr.mono (by decide)) (by rfl) D_flipped_often.g D_flipped_often.F.kp D_flipped_often.b .nil pass0 (pa_cons (pv 0) (pa_cons (pe_callS G_lot_of (hr.mono (by decide)) (by rfl) D_lot_of.g D_lot_of.F.kp D_lot_of.b (fun σ => passAt (takes_of rfl rfl rfl rfl) σ) (pa_cons (pv 1) pa_nil)) pa_nil)))))), ?_⟩
    rcases h with ⟨⟨b, hI, hb⟩, kx⟩ | ⟨n, rfl, h⟩
    · exact ⟨_, rfl, _, "word", b, rfl, hI, fun z => yes_no z hb, fun _ => kx⟩
    refine ⟨_, rfl, _, "word", true, rfl, isI_int _, fun _ => ?_, fun z => no_nat z⟩
    rcases h with ⟨hn, kx⟩ | ⟨ns, hl, k⟩
    · exact ⟨_, rfl, _, rfl, y, rfl, .inl ⟨hn, kx⟩⟩
    have hin : ∀ z ∈ ns, 0 ≤ z ∧ z ≤ 20000 := fun z hz => by
      obtain ⟨a, _, _, _, _, h5, _⟩ := hl
      exact in_lot (h5 z hz)
    refine ⟨_, rfl, _, rfl, y, rfl, .inr ⟨ns, hl, fun ns' q H1 perm up S1 hq => ?_⟩⟩
    refine ⟨n, q, ns', rfl, hq, fun z hz => hin z (perm.mem_iff.mp hz), ?_⟩
    rw [fl_perm perm]
    exact k H1 S1
end
end K03
namespace K03
open PySem PySem.Spec PyProof.Rows L2 OB SkE
/-- one of some things, drawn -/
def spOne : Sp := fun vs H Q _ => ∃ (p b l : Addr) (n : Nat) (xs : List V), vs = [.ref p, .ref l] ∧ Orch H p b n ∧ n < 1000000 ∧ H l = some (.lst xs) ∧ l ≠ p ∧ 0 < xs.length ∧ xs.length ≤ 1000 ∧
  ∀ (j : Nat) (x : V) (H' : Hp), xs[j]? = some x → Orch H' p b (n + 1) → But p H H' → Q x H'
def spIsOne : Sp := fun vs H Q _ => ∃ (x i : Nat), vs = [.int x, .int i] ∧ i ≤ 1000 ∧ Q (.bl (x.testBit i)) H
def spTurned : Sp := fun vs H Q _ => ∃ (x i : Nat), vs = [.int x, .int i] ∧ i ≤ 1000 ∧ Q (.int ((x ^^^ 2 ^ i : Nat) : Int)) H
def spWord : Sp := fun vs H Q _ => ∃ (p b : Addr) (n : Nat), vs = [.ref p] ∧ Orch H p b n ∧ n + 5 < 1000000 ∧ ∀ (m : Nat) (H' : Hp), m < 2 ^ 400 → Orch H' p b (n + 5) → But p H H' → Q (.int m) H'
def nbs (n k : Nat) : List V := (List.range k).map fun (i : Nat) => V.int ((n ^^^ 2 ^ i : Nat) : Int)
theorem nbs_next (n k : Nat) : nbs n (k + 1) = nbs n k ++ [V.int ((n ^^^ 2 ^ k : Nat) : Int)] := by
  unfold nbs
  rw [List.range_succ, List.map_append]
  rfl
theorem nbs_len (n k : Nat) : (nbs n k).length = k := by
  unfold nbs
  rw [List.length_map, List.length_range]
def spNear (K : PySem.W.Frag) (CW CN CM : Addr) : Sp := fun vs H Q E => ∃ x y : V, vs = [x, y] ∧ ((Bad K H x (some 0) none ∧ RaisesP CW "word" E H) ∨ ∃ n : Nat, x = .int (n : Int) ∧
  ((Bad K H y (some 1) (some 400) ∧ RaisesP CN "many" E H) ∨ ∃ k : Nat, y = .int (k : Int) ∧ 1 ≤ k ∧ k ≤ 400 ∧
    ((2 ^ k ≤ n ∧ RaisesP CM "word" E H) ∨ (n < 2 ^ k ∧ ∀ (q : Addr) (H' : Hp), Same H H' → H' q = some (.tup (nbs n k)) → Q (.ref q) H'))))
theorem in_many {k : Nat} (h1 : 1 ≤ k) (h2 : k ≤ 400) : (true && inB (some 1) (some 400) (.int (k : Int))) = true := by
  show (true && (decide ((1 : Int) ≤ (k : Int)) && decide ((k : Int) ≤ 400))) = true
  rw [decide_eq_true (by omega), decide_eq_true (by omega)]
  rfl
theorem small_of {a b : Nat} (h : a ≤ 1000) (e : b ≤ a) : b ≤ sizeLine := Nat.le_of_lt (small1000 (Nat.le_trans e h))
section
variable {P : Program} {w : World} {K : PySem.W.Frag} {mg : Str → Option Value} {base : Heap}
theorem sc__law_one : FnScope ["kennel", "some"] ["kennel", "some"] (defScope s__law_one) := ⟨rfl, rfl, rfl, by decide +kernel, rfl, by decide +kernel, by decide +kernel⟩
theorem ok__law_one {f f1 : Addr} {fd fd1 : FuncData} (F : Fun K "_law_one" "_law_one" s__law_one f fd) (T : Blt mg) (D__law_bark : Df K mg "_law_bark" s__law_bark ["kennel", "many"] f1 fd1) : FnOk P w K mg base CX0 2 f fd ["kennel", "some"] spOne := by
  have G__law_bark : FnOk P w K mg base CX0 1 f1 fd1 ["kennel", "many"] spDraw := ok__law_bark D__law_bark.F T
  refine F.ok sc__law_one (fun vs H Q E h => ?_) (fun cdv A outer s H vs Q E hr h => ?_)
  · obtain ⟨p, b, l, n, xs, rfl, _⟩ := h
    rfl
  · obtain ⟨p, b, l, n, xs, rfl, O, hn, hl, nlp, h0, h1, k⟩ := h
    refine ⟨_, (pss_one (ps_ret (pe_ix ix_list (pv 1) (pe_call G__law_bark (hr.mono (by decide)) (by rfl) D__law_bark.g D__law_bark.F.kp D__law_bark.b .nil pass0 (pa_cons (pv 0) (pa_cons (pe_callB call_len_seq (by rfl) T.n_len (by decide +kernel) (pa_cons (pv 1) pa_nil)) pa_nil))) (fun _ _ => rfl)))), ?_⟩
    refine ⟨_, rfl, _, rfl, _, rfl, l, xs, rfl, .inl (SqL.of hl), p, b, n, _, rfl, O, hn, by omega, ?_, fun r H' r0 r1 O' B' => ?_⟩
    · show (xs.length : Int).natAbs < 2 ^ 9000
      rw [Int.natAbs_natCast]
      exact Nat.lt_of_le_of_lt h1 (by decide)
    · obtain ⟨j, rfl⟩ := Int.eq_ofNat_of_zero_le r0
      have hj : j < xs.length := by omega
      exact ⟨l, xs, _, xs[j], rfl, rfl, SqL.of (B' l _ hl nlp), atI_nat (List.getElem?_eq_getElem hj), k j _ H' (List.getElem?_eq_getElem hj) O' B'⟩
theorem sc__law_is_one : FnScope ["word", "bit"] ["word", "bit"] (defScope s__law_is_one) := ⟨rfl, rfl, rfl, by decide +kernel, rfl, by decide +kernel, by decide +kernel⟩
theorem bit_dec (x i : Nat) : decide (V.int ((x : Int) / ((2 ^ i : Nat) : Int) % 2) = V.int 1) = x.testBit i := by
  rw [← M07.one_bit]
  have e : ((x : Int) / ((2 ^ i : Nat) : Int) % 2) = ((x / 2 ^ i % 2 : Nat) : Int) := by omega
  rw [e]
  by_cases h : x / 2 ^ i % 2 = 1
  · rw [h]
    rfl
  · rw [decide_eq_false h]
    refine decide_eq_false fun z => h ?_
    have z := V.int.inj z
    omega
theorem ok__law_is_one {f : Addr} {fd : FuncData} (F : Fun K "_law_is_one" "_law_is_one" s__law_is_one f fd) (T : Blt mg) : FnOk P w K mg base CX0 1 f fd ["word", "bit"] spIsOne := by
  refine F.ok sc__law_is_one (fun vs H Q E h => ?_) (fun cdv A outer s H vs Q E hr h => ?_)
  · obtain ⟨x, i, rfl, _⟩ := h
    rfl
  · obtain ⟨x, i, rfl, hi, k⟩ := h
    refine ⟨_, (pss_one (ps_ret (pe_cmpR op_eq (pe_op op_mod (pe_callTy call_int1 (by rfl) T.n_int (by decide +kernel) (pa_cons (pe_op op_fdivW (pv 0) (pe_op op_oneN pe_int (pv 1))) pa_nil)) pe_int) pe_int (nomark _)))), ?_⟩
    refine ⟨_, rfl, _, rfl, i, rfl, rfl, by omega, ?_⟩
    refine ⟨_, _, rfl, rfl, wide_div ?_ (pow_lt9 (by omega)) (by decide) (by decide), .inl ⟨_, rfl, _, _, rfl, rfl, (by show (0 : Int) < 2; decide), rfl, ?_⟩⟩
    · have := M07.two_pos i
      omega
    · show Q (.bl (decide (V.int ((x : Int) / ((2 ^ i : Nat) : Int) % 2) = V.int 1))) H
      rw [bit_dec]
      exact k
theorem sc__law_turned : FnScope ["word", "bit"] ["word", "bit"] (defScope s__law_turned) := ⟨rfl, rfl, rfl, by decide +kernel, rfl, by decide +kernel, by decide +kernel⟩
theorem ok__law_turned {f f1 : Addr} {fd fd1 : FuncData} (F : Fun K "_law_turned" "_law_turned" s__law_turned f fd) (T : Blt mg) (D__law_is_one : Df K mg "_law_is_one" s__law_is_one ["word", "bit"] f1 fd1) : FnOk P w K mg base CX0 2 f fd ["word", "bit"] spTurned := by
  have G__law_is_one : FnOk P w K mg base CX0 1 f1 fd1 ["word", "bit"] spIsOne := ok__law_is_one D__law_is_one.F T
  refine F.ok sc__law_turned (fun vs H Q E h => ?_) (fun cdv A outer s H vs Q E hr h => ?_)
  · obtain ⟨x, i, rfl, _⟩ := h
    rfl
  · obtain ⟨x, i, rfl, hi, k⟩ := h
    refine ⟨_, (pss_one (ps_ret (pe_ifExp (pt_val (pe_call G__law_is_one (hr.mono (by decide)) (by rfl) D__law_is_one.g D__law_is_one.F.kp D__law_is_one.b .nil pass0 (pa_cons (pv 0) (pa_cons (pv 1) pa_nil)))) (pe_op op_sub (pv 0) (pe_op op_oneN pe_int (pv 1))) (pe_op op_add (pv 0) (pe_op op_oneN pe_int (pv 1)))))), ?_⟩
    have next := M07.xor_pow (x := x) (k := i)
    refine ⟨_, rfl, _, rfl, x, i, rfl, hi, _, rfl, ?_⟩
    refine iteB (fun c => ?_) (fun c => ?_)
    · rw [if_pos c] at next
      have le : 2 ^ i ≤ x := Nat.ge_two_pow_of_testBit c
      refine ⟨_, rfl, _, rfl, i, rfl, rfl, by omega, _, _, rfl, rfl, ?_⟩
      rw [next, Int.natCast_sub le] at k
      exact k
    · rw [if_neg (by rw [c]; simp)] at next
      refine ⟨_, rfl, _, rfl, i, rfl, rfl, by omega, _, _, rfl, rfl, ?_⟩
      rw [next, Int.natCast_add] at k
      exact k
theorem sc__law_word : FnScope ["kennel", "far"] ["kennel"] (defScope s__law_word) := ⟨rfl, rfl, rfl, by decide +kernel, rfl, by decide +kernel, by decide +kernel⟩
theorem ok__law_word {f f1 f2 : Addr} {fd fd1 fd2 : FuncData} (F : Fun K "_law_word" "_law_word" s__law_word f fd) (T : Blt mg) (D__law_bark : Df K mg "_law_bark" s__law_bark ["kennel", "many"] f1 fd1) (D__law_one : Df K mg "_law_one" s__law_one ["kennel", "some"] f2 fd2) :
    FnOk P w K mg base CX0 3 f fd ["kennel"] spWord := by
  have G__law_bark : FnOk P w K mg base CX0 1 f1 fd1 ["kennel", "many"] spDraw := ok__law_bark D__law_bark.F T
  have G__law_one : FnOk P w K mg base CX0 2 f2 fd2 ["kennel", "some"] spOne := ok__law_one D__law_one.F T D__law_bark
  refine F.ok sc__law_word (fun vs H Q E h => ?_) (fun cdv A outer s H vs Q E hr h => ?_)
  · obtain ⟨p, b, n, rfl, _⟩ := h
    rfl
  · obtain ⟨p, b, n, rfl, O, hn, k⟩ := h
    refine ⟨_, (pss_cons (ps_set (i := 1) sc__law_word.nd rfl (Or.inl rfl) (pe_call G__law_bark (hr.mono (by decide)) (by rfl) D__law_bark.g D__law_bark.F.kp D__law_bark.b .nil pass0 (pa_cons (pv 0) (pa_cons pe_int pa_nil))))
  (pss_one (ps_ret (pe_call G__law_one (hr.mono (by decide)) (by rfl) D__law_one.g D__law_one.F.kp D__law_one.b .nil pass0 (pa_cons (pv 0) (pa_cons (pe_lst (pa_cons (pe_call G__law_bark (hr.mono (by decide)) (by rfl) D__law_bark.g D__law_bark.F.kp D__law_bark.b .nil pass0 (pa_cons (pv 0) (pa_cons pe_int pa_nil))) (pa_cons (pe_call G__law_bark (hr.mono (by decide)) (by rfl) D__law_bark.g D__law_bark.F.kp D__law_bark.b .nil pass0 (pa_cons (pv 0) (pa_cons (pe_op op_oneN pe_int pe_int) pa_nil))) (pa_cons (pe_call G__law_bark (hr.mono (by decide)) (by rfl) D__law_bark.g D__law_bark.F.kp D__law_bark.b .nil pass0 (pa_cons (pv 0) (pa_cons (pe_op op_oneN pe_int pe_int) pa_nil))) (pa_cons (pe_op op_sub (pe_op op_oneN pe_int (pv 1)) pe_int) (pa_cons (pe_op op_oneN pe_int (pe_callB (call_min2 rfl) (by rfl) T.n_min (by decide +kernel) (pa_cons (pv 1) (pa_cons pe_int pa_nil)))) pa_nil)))))) pa_nil)))))), ?_⟩
    refine ⟨_, rfl, p, b, n, 401, rfl, O, by omega, by decide, by decide, fun r1 H1 r10 r11 O1 B1 => ?_⟩
    obtain ⟨k1, rfl⟩ := Int.eq_ofNat_of_zero_le r10
    refine ⟨_, rfl, _, rfl, p, b, n + 1, 9, rfl, O1, by omega, by decide, by decide, fun r2 H2 r20 r21 O2 B2 => ?_⟩
    refine ⟨_, rfl, 12, rfl, rfl, by decide, p, b, n + 1 + 1, _, rfl, O2, by omega, by decide, pow_lt9 (by decide), fun r3 H3 r30 r31 O3 B3 => ?_⟩
    refine ⟨_, rfl, 400, rfl, rfl, by decide, p, b, n + 1 + 1 + 1, _, rfl, O3, by omega, ?_, pow_lt9 (by decide), fun r4 H4 r40 r41 O4 B4 => ?_⟩
    · have := M07.two_pos 400
      omega
    have h1 : 2 ^ k1 ≤ 2 ^ 400 := Nat.pow_le_pow_right (by decide) (by omega)
    have h0 := M07.two_pos k1
    obtain ⟨k5, hk5, hk5l⟩ : ∃ k5 : Nat, (if (399 : Int) < (k1 : Int) then (399 : Int) else (k1 : Int)) = (k5 : Int) ∧ k5 ≤ 399 := by
      by_cases c : (399 : Int) < (k1 : Int)
      · exact ⟨399, if_pos c, Nat.le_refl _⟩
      · exact ⟨k1, if_neg c, by omega⟩
    have h5 : 2 ^ k5 ≤ 2 ^ 399 := Nat.pow_le_pow_right (by decide) hk5l
    have h50 := M07.two_pos k5
    have half : 2 ^ 399 < 2 ^ 400 := by decide
    have big : 2 ^ 12 < 2 ^ 400 := by decide
    refine ⟨_, rfl, k1, rfl, rfl, by omega, _, _, rfl, rfl, _, rfl, _, _, rfl, k5, rfl, by rw [hk5], by omega, (by show 5 ≤ sizeLine; decide), fun l hl => ?_⟩
    have nlp : l ≠ p := by
      obtain ⟨u, hu⟩ := O4.pn
      exact (ne_of_none hu hl).symm
    refine ⟨p, b, l, n + 1 + 1 + 1 + 1, _, rfl, O4.same (same_new hl), by omega, upd_same, nlp, by show 0 < 5; decide, by show 5 ≤ 1000; decide, fun j x H' hj O6 B6 => ?_⟩
    have B : But p H H' := B1.trans (B2.trans (B3.trans (B4.trans ((But.of (same_new hl)).trans B6))))
    have fin : ∀ z : Int, 0 ≤ z → z < ((2 ^ 400 : Nat) : Int) → Q (.int z) H' := fun z h1 h2 => by
      obtain ⟨m, rfl⟩ := Int.eq_ofNat_of_zero_le h1
      exact k m H' (Int.ofNat_lt.mp h2) O6 B
    have r31' : r3 < ((2 ^ 12 : Nat) : Int) := r31
    have r41' : r4 < ((2 ^ 400 : Nat) : Int) := r41
    match j, hj with
    | 0, e => cases e; exact fin _ r20 (by omega)
    | 1, e => cases e; exact fin _ r30 (by omega)
    | 2, e => cases e; exact fin _ r40 r41'
    | 3, e => cases e; exact fin _ (by omega) (by omega)
    | 4, e => cases e; exact fin _ (by omega) (by omega)
    | j + 5, e => cases e
end
end K03
namespace K03
open PySem PySem.Spec PyProof.Rows L2 OB SkE
/-- a drawn lot: unlike bits below 400, in a new list -/
def spLotD : Sp := fun vs H Q _ => ∃ (p b : Addr) (n : Nat), vs = [.ref p] ∧ Orch H p b n ∧ n + 30 < 1000000 ∧ ∀ (l : Addr) (ns : List Nat) (H' : Hp), H l = none → ns.Nodup → (∀ x ∈ ns, x < 400) → ns.length ≤ 12 → H' l = some (.lst (ns.map fun (x : Nat) => V.int (x : Int))) → Orch H' p b (n + 30) → But p H H' → Q (.ref l) H'
theorem inV_nat (x : Nat) (ns : List Nat) : inV (.int (x : Int)) (ns.map fun (x : Nat) => V.int (x : Int)) = decide (x ∈ ns) := by
  unfold inV
  induction ns with
  | nil => simp
  | cons a r ih =>
    rw [List.map_cons, List.any_cons, ih]
    by_cases e : x = a
    · subst e
      have : eqV (V.int (x : Int)) (V.int (x : Int)) = true := by show ((x : Int) == (x : Int)) = true; simp
      rw [this]
      simp
    · have : eqV (V.int (a : Int)) (V.int (x : Int)) = false := by
        show ((a : Int) == (x : Int)) = false
        rw [beq_eq_false_iff_ne]
        omega
      rw [this]
      simp [e]
theorem flat_nats (ns : List Nat) : (ns.map fun (x : Nat) => V.int (x : Int)).all flatV = true := by
  rw [List.all_eq_true]
  intro v hv
  obtain ⟨n, _, rfl⟩ := List.mem_map.mp hv
  rfl
section
variable {P : Program} {w : World} {K : PySem.W.Frag} {mg : Str → Option Value} {base : Heap}
theorem sc_neighbours_of : FnScope ["word", "many", "bit"] ["word", "many"] (defScope s_neighbours_of) := ⟨rfl, rfl, rfl, by decide +kernel, rfl, by decide +kernel, by decide +kernel⟩
abbrev N_neighbours_of : List Str := ["word", "many", "bit"]
theorem ok_neighbours_of {f f1 f2 CW CN CM fI : Addr} {fd fd1 fd2 fdI : FuncData} (F : Fun K "neighbours_of" "neighbours_of" s_neighbours_of f fd) (T : Blt mg) (D_need_word : Df K mg "need_word" s_need_word ["value", "part"] f1 fd1) (G_need_word : FnOk P w K mg base (L2.CX P w) 4 f1 fd1 ["value", "part"] (spNeedWord K CW))
    (D_need_number : Df K mg "need_number" s_need_number ["value", "part", "least", "most"] f2 fd2) (G_need_number : FnOk P w K mg base (L2.CX P w) 4 f2 fd2 ["value", "part", "least", "most"] (spNeedNumber K CN)) (R_Misfit : Err P w K mg base "Misfit" "part" CM fI fdI) :
    FnOk P w K mg base (L2.CX P w) 7 f fd ["word", "many"] (spNear K CW CN CM) := by
  obtain ⟨tM, gM⟩ := T.g_MOST_MANY
  refine F.okX sc_neighbours_of (fun vs H Q E h => ?_) (fun cdv A outer s H vs Q E hr h => ?_)
  · obtain ⟨x, y, rfl, _⟩ := h
    rfl
  · obtain ⟨x, y, rfl, h⟩ := h
    refine ⟨_, (pss_cons (ps_expr (pe_callS G_need_word (hr.mono (by decide)) (by rfl) D_need_word.g D_need_word.F.kp D_need_word.b (fun σ => passAt (takes_of rfl rfl rfl rfl) σ) (pa_cons (pv 0) (pa_cons pe_str pa_nil))))
  (pss_cons (ps_expr (pe_callS G_need_number (hr.mono (by decide)) (by rfl) D_need_number.g D_need_number.F.kp D_need_number.b (fun σ => passAt (takes_of rfl rfl rfl rfl) σ) (pa_cons (pv 1) (pa_cons pe_str (pa_cons pe_int (pa_cons (pe_glob (v := .int 400) rfl gM ⟨_, rfl⟩) pa_nil))))))
  (pss_cons (ps_if (pt_truth (pe_op op_shrN (pv 0) (pv 1)) (by intro _; rfl)) (pss_one (ps_raise1 rfl (takes_of rfl rfl rfl rfl) R_Misfit (hr.mono (by decide)) (by rfl) pe_str)) pss_nil)
  (pss_one (ps_ret (pe_callTy call_tuple_of (by rfl) T.n_tuple (by decide +kernel) (pa_cons (pe_lc (own := [("bit", 2)]) (g := (gName 2)) (tt := tYes) rfl sc_neighbours_of.nd (pi_range1 (by rfl) T.n_range (pa_cons (pv 1) pa_nil)) (blkOk_by (N := N_neighbours_of) (own := [("bit", 2)]) (sc := defScope s_neighbours_of) (by decide +kernel)) (fun _ _ _ _ _ => (pg_name (i := 2) sc_neighbours_of.nd rfl (Or.inl rfl))) (fun _ _ _ _ _ => pts_nil) (fun _ _ _ _ _ => (pe_op op_xor (pv 0) (pe_op op_oneN pe_int (pv 2))))) pa_nil))))))), ?_⟩
    rcases h with ⟨⟨b, hI, hb⟩, kx⟩ | ⟨n, rfl, h⟩
    · exact ⟨_, rfl, _, "word", b, rfl, hI, fun z => yes_no z hb, fun _ => kx⟩
    refine ⟨_, rfl, _, "word", true, rfl, isI_int _, fun _ => ?_, fun z => no_nat z⟩
    rcases h with ⟨⟨b, hI, hb⟩, kx⟩ | ⟨k, rfl, k1, k8, h⟩
    · exact ⟨_, rfl, _, "many", some 1, some 400, b, rfl, hI, fun z => yes_no z hb, fun _ => kx⟩
    refine ⟨_, rfl, _, "many", some 1, some 400, true, rfl, isI_int _, fun _ => ?_, fun z => yes_no (in_many k1 k8) z⟩
    refine ⟨_, rfl, _, rfl, _, k, rfl, rfl, ?_⟩
    have en : (n : Int) / 2 ^ k = ((n / 2 ^ k : Nat) : Int) := by
      rw [Int.natCast_ediv, Int.natCast_pow]
      rfl
    rw [en]
    refine ⟨_, rfl, ?_⟩
    rcases h with ⟨hn, kx⟩ | ⟨hn, q⟩
    · have pos : 0 < n / 2 ^ k := Nat.div_pos hn (M07.two_pos _)
      have hb : (((n / 2 ^ k : Nat) : Int) != 0) = true := by
        rw [bne_iff_ne]
        omega
      rw [hb]
      exact raise1_of (W := fun cls d _ H => E cls d H) (σ := []) (v := .str "word") R_Misfit.T R_Misfit.no kx
    · rw [Nat.div_eq_of_lt hn]
      refine ⟨_, rfl, _, rfl, by omega, by omega, fun D hD => ?_⟩
      rw [Int.toNat_natCast]
      refine lc_range (n := k) (fun i H' => Same H H' ∧ H' D = some (.lst (nbs n i))) ⟨same_new hD, upd_same⟩ ?_ ?_
      · rintro i H' hi ⟨S, hl⟩
        refine ⟨rfl, _, rfl, _, rfl, i, rfl, by rw [Int.zero_add], by omega, _, _, rfl, rfl, _, hl, ?_, ?_, ?_⟩
        · rw [nbs_len]
          exact small1000 (by omega)
        · intro q o e
          rw [upd_ne (ne_of_none e hD)]
          exact S q o e
        · rw [upd_same, nbs_next]
          show some (HO.lst (nbs n i ++ [V.int (Builtin.bitXor (n : Int) ((2 ^ i : Nat) : Int))])) = _
          rw [xor_nat]
      · rintro H' ⟨S, hl⟩
        exact ⟨D, _, rfl, .inl ⟨SqL.of hl, fun q0 hq => q q0 _ (S.trans (same_new hq)) upd_same⟩⟩
theorem sc__law_lot : FnScope ["kennel", "found", "turn", "bit"] ["kennel"] (defScope s__law_lot) := ⟨rfl, rfl, rfl, by decide +kernel, rfl, by decide +kernel, by decide +kernel⟩
theorem ok__law_lot {f f1 f2 : Addr} {fd fd1 fd2 : FuncData} (F : Fun K "_law_lot" "_law_lot" s__law_lot f fd) (T : Blt mg) (D__law_bark : Df K mg "_law_bark" s__law_bark ["kennel", "many"] f1 fd1) (D__law_one : Df K mg "_law_one" s__law_one ["kennel", "some"] f2 fd2) :
    FnOk P w K mg base CX0 3 f fd ["kennel"] spLotD := by
  have G__law_bark : FnOk P w K mg base CX0 1 f1 fd1 ["kennel", "many"] spDraw := ok__law_bark D__law_bark.F T
  have G__law_one : FnOk P w K mg base CX0 2 f2 fd2 ["kennel", "some"] spOne := ok__law_one D__law_one.F T D__law_bark
  refine F.ok sc__law_lot (fun vs H Q E h => ?_) (fun cdv A outer s H vs Q E hr h => ?_)
  · obtain ⟨p, b, n, rfl, _⟩ := h
    rfl
  · obtain ⟨p, b, n, rfl, O, hn, k⟩ := h
    refine ⟨_, (pss_cons (ps_set (i := 1) sc__law_lot.nd rfl (Or.inl rfl) (pe_lst pa_nil))
  (pss_cons (ps_for PassesOwn.never rfl (pi_range1 (by rfl) T.n_range (pa_cons (pe_call G__law_one (hr.mono (by decide)) (by rfl) D__law_one.g D__law_one.F.kp D__law_one.b .nil pass0 (pa_cons (pv 0) (pa_cons (pe_lst (pa_cons pe_int (pa_cons pe_int (pa_cons pe_int (pa_cons pe_int (pa_cons pe_int pa_nil)))))) pa_nil))) pa_nil)) (pg_name (i := 2) sc__law_lot.nd rfl (Or.inl rfl)) (pss_cons (ps_set (i := 3) sc__law_lot.nd rfl (Or.inl rfl) (pe_call G__law_bark (hr.mono (by decide)) (by rfl) D__law_bark.g D__law_bark.F.kp D__law_bark.b .nil pass0 (pa_cons (pv 0) (pa_cons (pe_call G__law_one (hr.mono (by decide)) (by rfl) D__law_one.g D__law_one.F.kp D__law_one.b .nil pass0 (pa_cons (pv 0) (pa_cons (pe_lst (pa_cons pe_int (pa_cons pe_int (pa_cons pe_int pa_nil)))) pa_nil))) pa_nil))))
  (pss_one (ps_if (pt_cmpR op_notIn_seq (pv 3) (pv 1) (by rfl)) (pss_one (ps_expr (pe_bm PySem.F.plainAttrs_list PySem.F.slot_list_append PySem.F.type_list_append mt_append (pv 1) (pa_cons (pv 3) pa_nil)))) pss_nil))))
  (pss_one (ps_ret (pv 1))))), ?_⟩
    refine ⟨Nat.zero_le _, fun l hl => ?_⟩
    obtain ⟨up, hup⟩ := O.pn
    obtain ⟨ub, hub⟩ := O.bn
    have nlp : l ≠ p := (ne_of_none hup hl).symm
    have nlb : l ≠ b := (ne_of_none hub hl).symm
    have S0 : Same H (upd H l (.lst [])) := same_new hl
    refine ⟨_, rfl, (by show 5 ≤ sizeLine; decide), fun l1 hl1 => ?_⟩
    have n1 : l1 ≠ p := (ne_of_none (S0 _ _ hup) hl1).symm
    have S1 := S0.trans (same_new (o := .lst [.int 0, .int 1, .int 2, .int 5, .int 12]) hl1)
    have hl' : (upd (upd H l (.lst [])) l1 (.lst [.int 0, .int 1, .int 2, .int 5, .int 12])) l = some (.lst []) := same_new hl1 _ _ upd_same
    refine ⟨p, b, l1, n, _, rfl, O.same S1, by omega, upd_same, n1, by show 0 < 5; decide, by show 5 ≤ 1000; decide, fun j x H1 hj O1 B1 => ?_⟩
    obtain ⟨c, rfl, hc⟩ : ∃ c : Nat, x = V.int (c : Int) ∧ c ≤ 12 := by
      match j, hj with
      | 0, e => cases e; exact ⟨0, rfl, by decide⟩
      | 1, e => cases e; exact ⟨1, rfl, by decide⟩
      | 2, e => cases e; exact ⟨2, rfl, by decide⟩
      | 3, e => cases e; exact ⟨5, rfl, by decide⟩
      | 4, e => cases e; exact ⟨12, rfl, by decide⟩
      | j + 5, e => cases e
    have hl1' := B1 _ _ hl' nlp
    have B01 : But p H H1 := (But.of S1).trans B1
    refine ⟨_, rfl, by omega, by omega, ?_⟩
    rw [Int.toNat_natCast]
    refine for_range (n := c) (fun i σ H' => Orch H' p b (n + 1 + 2 * i) ∧ But p H H' ∧ ∃ (ns : List Nat) (u v : Option V), ns.Nodup ∧ (∀ x ∈ ns, x < 400) ∧ ns.length ≤ i ∧ H' l = some (.lst (ns.map fun (x : Nat) => V.int (x : Int))) ∧ σ = [some (.ref p), some (.ref l), u, v])
      ⟨O1, B01, [], none, none, List.nodup_nil, fun x hx => absurd hx List.not_mem_nil, Nat.le_refl _, hl1', rfl⟩ ?_ ?_
    · rintro i σ H2 hi ⟨O2, B2, ns, u, v, h1, h2, h3, h4, rfl⟩
      refine ⟨_, rfl, _, rfl, (by show 3 ≤ sizeLine; decide), fun l2 hl2 => ?_⟩
      obtain ⟨up2, hup2⟩ := O2.pn
      have n2 : l2 ≠ p := (ne_of_none hup2 hl2).symm
      refine ⟨p, b, l2, _, _, rfl, O2.same (same_new hl2), by omega, upd_same, n2, by show 0 < 3; decide, by show 3 ≤ 1000; decide, fun j x H3 hj O3 B3 => ?_⟩
      obtain ⟨d, rfl, hd, hd4⟩ : ∃ d : Nat, x = V.int (d : Int) ∧ 0 < d ∧ d ≤ 400 := by
        match j, hj with
        | 0, e => cases e; exact ⟨4, rfl, by decide, by decide⟩
        | 1, e => cases e; exact ⟨13, rfl, by decide, by decide⟩
        | 2, e => cases e; exact ⟨400, rfl, by decide, by decide⟩
        | j + 3, e => cases e
      have d9 : ((d : Int)).natAbs < 2 ^ 9000 := Nat.lt_of_le_of_lt (show ((d : Int)).natAbs ≤ 400 by omega) (Nat.lt_of_lt_of_le (show 400 < 2 ^ 9 by decide) (Nat.pow_le_pow_right (by decide) (by decide)))
      have h4a := B3 _ _ (same_new hl2 _ _ h4) nlp
      have B23 : But p H H3 := B2.trans ((But.of (same_new hl2)).trans B3)
      refine ⟨p, b, _, d, rfl, O3, by omega, by omega, d9, fun r H4 r0 r1 O4 B4 => ?_⟩
      obtain ⟨r, rfl⟩ := Int.eq_ofNat_of_zero_le r0
      have h4b := B4 _ _ h4a nlp
      have hr4 : r < 400 := by omega
      refine ⟨_, rfl, _, rfl, l, _, rfl, .inl (SqL.of h4b), rfl, flat_nats ns, _, rfl, ?_⟩
      rw [inV_nat]
      refine iteB (fun c => ?_) (fun c => ?_)
      · have c : r ∉ ns := by simpa using c
        refine ⟨_, rfl, .inl ⟨rfl, _, SqL.of h4b⟩, _, rfl, l, _, _, rfl, rfl, h4b, ?_, ?_⟩
        · rw [List.length_map]
          exact small1000 (by omega)
        refine ⟨(O4.keep (fun u hu => by rw [upd_ne nlp.symm]; exact hu) (fun u hu => by rw [upd_ne nlb.symm]; exact hu)).mono (by omega), fun q o e nq => ?_, ns ++ [r], some (.int (0 + (i : Int))), some (.int (r : Int)), ?_, fun x hx => ?_, ?_, ?_, rfl⟩
        · rw [upd_ne (ne_of_none e hl)]
          exact (B23.trans B4) q o e nq
        · exact List.nodup_append.mpr ⟨h1, List.nodup_cons.mpr ⟨List.not_mem_nil, List.nodup_nil⟩, fun x hx y hy e => c (by rw [List.mem_singleton.mp hy] at e; exact e ▸ hx)⟩
        · rcases List.mem_append.mp hx with e | e
          · exact h2 x e
          · rw [List.mem_singleton.mp e]
            exact hr4
        · rw [List.length_append, List.length_singleton]
          omega
        · rw [upd_same, List.map_append]
          rfl
      · exact ⟨O4.mono (by omega), B23.trans B4, ns, some (.int (0 + (i : Int))), some (.int (r : Int)), h1, h2, by omega, h4b, rfl⟩
    · rintro σ H2 ⟨O2, B2, ns, u, v, h1, h2, h3, h4, rfl⟩
      exact ⟨_, rfl, k l ns H2 hl h1 h2 (by omega) h4 (O2.mono (by omega)) B2⟩
end
end K03
namespace K03
open PySem PySem.Spec PyProof.Rows L2 OB SkE
def rv {α : Type} : List α → List α
  | [a, b] => [b, a]
  | [a, b, c] => [c, b, a]
  | l => l
theorem rv_len {α : Type} : ∀ l : List α, (rv l).length = l.length
  | [] => rfl
  | [_] => rfl
  | [_, _] => rfl
  | [_, _, _] => rfl
  | _ :: _ :: _ :: _ :: _ => rfl
theorem rv_vals : ∀ {zs : List V} {ws : List Value}, Vals zs ws → Vals (rv zs) (rv ws)
  | _, _, .nil => .nil
  | _, _, .cons a .nil => .cons a .nil
  | _, _, .cons a (.cons b .nil) => .cons b (.cons a .nil)
  | _, _, .cons a (.cons b (.cons c .nil)) => .cons c (.cons b (.cons a .nil))
  | _, _, .cons a (.cons b (.cons c (.cons d r))) => .cons a (.cons b (.cons c (.cons d r)))
theorem same_yes {x : V} : decide (x = x) = true := by simp
theorem same_text {x : V} : (!decide (x = x)) = false := by simp
def iv (ns : List Nat) : List Int := ns.map fun (x : Nat) => (x : Int)
theorem iv_V (ns : List Nat) : (iv ns).map V.int = ns.map fun (x : Nat) => V.int (x : Int) := by
  unfold iv
  rw [List.map_map]
  rfl
theorem iv_len (ns : List Nat) : (iv ns).length = ns.length := by
  unfold iv
  rw [List.length_map]
theorem iv_mem {ns : List Nat} {z : Int} (h : z ∈ iv ns) : ∃ x ∈ ns, z = (x : Int) := by
  obtain ⟨x, hx, e⟩ := List.mem_map.mp h
  exact ⟨x, hx, e.symm⟩
theorem iv_nodup {ns : List Nat} (h : ns.Nodup) : (iv ns).Nodup := by
  unfold iv
  exact List.Pairwise.map _ (fun a b e z => e (by omega)) h
theorem fl_iv (n : Nat) (ns : List Nat) : fl n (iv ns) = M03.flN n ns := by
  unfold fl iv M03.flN
  rw [List.foldl_map]
  rfl
theorem log_small {z : Int} (h0 : 0 ≤ z) (h : z < 2 ^ 500) : z.natAbs.log2 < 1920 := by
  obtain ⟨m, rfl⟩ := Int.eq_ofNat_of_zero_le h0
  rw [Int.natAbs_natCast]
  by_cases c : m = 0
  · subst c
    decide
  · have h2 : m < 2 ^ 500 := by omega
    have e := (Nat.log2_lt c).mpr h2
    omega
theorem log_nat {m : Nat} (h : m < 2 ^ 500) : (m : Int).natAbs.log2 < 1920 := log_small (Int.natCast_nonneg _) (by omega)
theorem iv_log {ns : List Nat} (h : ∀ x ∈ ns, x < 400) : ∀ n ∈ iv ns, n.natAbs.log2 < 1920 := fun n hn => by
  obtain ⟨x, hx, rfl⟩ := iv_mem hn
  exact log_nat (Nat.lt_of_lt_of_le (h x hx) (Nat.le_of_lt (Nat.lt_of_lt_of_le (show 400 < 2 ^ 9 by decide) (Nat.pow_le_pow_right (by decide) (by decide)))))
theorem iv_in {ns : List Nat} (h : ∀ x ∈ ns, x < 400) : ∀ n ∈ iv ns, inB (some 0) (some 20000) (.int n) = true := fun n hn => by
  obtain ⟨x, hx, rfl⟩ := iv_mem hn
  have := h x hx
  show (decide ((0 : Int) ≤ (x : Int)) && decide ((x : Int) ≤ 20000)) = true
  rw [decide_eq_true (by omega), decide_eq_true (by omega)]
  rfl
theorem lot_lst {K : PySem.W.Frag} {H : Hp} {l : Addr} {ns : List Nat} (e : H l = some (.lst ((iv ns).map V.int))) (h1 : ns.Nodup) (h2 : ∀ x ∈ ns, x < 400) (h3 : ns.length ≤ 12) : IsLot K H (.ref l) (some 0) (some 20000) (iv ns) :=
  ⟨l, rfl, .inl (SqL.of e), by rw [iv_len]; omega, fun H' S => isL_lst (S _ _ e), iv_in h2, iv_nodup h1⟩
theorem lot_tup {K : PySem.W.Frag} {H : Hp} {l : Addr} {ns : List Nat} (e : H l = some (.tup ((iv ns).map V.int))) (h1 : ns.Nodup) (h2 : ∀ x ∈ ns, x < 400) (h3 : ns.length ≤ 12) : IsLot K H (.ref l) (some 0) (some 20000) (iv ns) :=
  ⟨l, rfl, .inr (SqT.of e), by rw [iv_len]; omega, fun H' S => isL_tup (S _ _ e), iv_in h2, iv_nodup h1⟩
theorem lot_same {K : PySem.W.Frag} {H H' : Hp} {x : V} {lo hi : Option Int} {ns : List Int} (h : IsLot K H x lo hi ns) (s : Same H H') : IsLot K H' x lo hi ns := by
  obtain ⟨a, e, q, h1, h2, h3⟩ := h
  exact ⟨a, e, q.elim (fun z => .inl (sqL_same z s)) fun z => .inr (sqT_same z s), h1, fun H2 s2 => h2 H2 (s.trans s2), h3⟩
/-- the bits in which a word and the flipped one differ, in order -/
def ord (m : Nat) : List Int := iv (M04.D m (M04.R m).length).reverse
theorem bitsV_ord (m : Nat) : bitsV m = (ord m).map V.int := by
  unfold bitsV ord
  rw [iv_V]
theorem ord_is {m : Nat} {ns : List Nat} {ns' : List Int} (h1 : ns.Nodup) (hb : ∀ i, m.testBit i = decide (i ∈ ns)) (perm : ns'.Perm (iv ns)) (up : ns'.Pairwise (· ≤ ·)) : ns' = ord m := by
  refine PySem.W.ksm_same (perm.trans ?_) up (M03.DB_ints_up m _)
  exact ((M03.DB_perm (M04.R_facts m).1 h1 hb).map _).symm
theorem ord_log {m : Nat} {ns : List Nat} (h1 : ns.Nodup) (h2 : ∀ x ∈ ns, x < 400) (hb : ∀ i, m.testBit i = decide (i ∈ ns)) : ∀ n ∈ ord m, n.natAbs.log2 < 1920 := fun n hn => by
  have p := ((M03.DB_perm (M04.R_facts m).1 h1 hb).map fun (x : Nat) => (x : Int))
  exact iv_log h2 n (p.mem_iff.mp hn)
theorem ord_len {m : Nat} {ns : List Nat} (h1 : ns.Nodup) (h3 : ns.length ≤ 12) (hb : ∀ i, m.testBit i = decide (i ∈ ns)) : (ord m).length ≤ 1000 := by
  have p := (M03.DB_perm (M04.R_facts m).1 h1 hb).length_eq
  unfold ord
  rw [iv_len]
  have e : (M04.D m (M04.R m).length).reverse.length = ns.length := p
  omega
def spRight : Sp := fun vs H Q _ => ∃ (p b : Addr) (n : Nat), vs = [.ref p] ∧ Orch H p b n ∧ n + 40 < 1000000 ∧ ∀ H' : Hp, Orch H' p b (n + 40) → But p H H' → Q (.bl true) H'
section
variable {P : Program} {w : World} {K : PySem.W.Frag} {mg : Str → Option Value} {base : Heap}
theorem sc__law_flips_right : FnScope ["kennel", "word", "bits", "due", "passed", "bit", "kept", "told"] ["kennel"] (defScope s__law_flips_right) := ⟨rfl, rfl, rfl, by decide +kernel, rfl, by decide +kernel, by decide +kernel⟩
theorem ok__law_flips_right {f f1 f2 f3 f4 f5 f6 CW CB : Addr} {fd fd1 fd2 fd3 fd4 fd5 fd6 : FuncData} (F : Fun K "_law_flips_right" "_law_flips_right" s__law_flips_right f fd) (T : Blt mg)
    (D__law_one : Df K mg "_law_one" s__law_one ["kennel", "some"] f1 fd1) (G__law_one : FnOk P w K mg base CX0 2 f1 fd1 ["kennel", "some"] spOne)
    (D__law_word : Df K mg "_law_word" s__law_word ["kennel"] f2 fd2) (G__law_word : FnOk P w K mg base CX0 3 f2 fd2 ["kennel"] spWord)
    (D__law_lot : Df K mg "_law_lot" s__law_lot ["kennel"] f3 fd3) (G__law_lot : FnOk P w K mg base CX0 3 f3 fd3 ["kennel"] spLotD)
    (D__law_turned : Df K mg "_law_turned" s__law_turned ["word", "bit"] f4 fd4) (G__law_turned : FnOk P w K mg base CX0 2 f4 fd4 ["word", "bit"] spTurned)
    (D_flipped : Df K mg "flipped" s_flipped ["word", "bits"] f5 fd5) (GX_flipped : FnOk P w K mg base (L2.CX P w) 8 f5 fd5 ["word", "bits"] (spFlipped K CW CB))
    (D_differing : Df K mg "differing" s_differing ["one", "other"] f6 fd6) (GX_differing : FnOk P w K mg base (L2.CX P w) 5 f6 fd6 ["one", "other"] spDiff) :
    FnG P w K mg base CX0 9 f fd ["kennel"] spRight := by
  have G_flipped := calm_of GX_flipped
  have G_differing := calm_of GX_differing
  have kb_flipped : KBinds K fd5 ["word", "bits"] ["bits", "word"] (fun us ws => us ++ rv ws) (fun us ws => us ++ rv ws) := kbinds D_flipped.F (fun _ _ _ _ _ _ us ws hl => by
      have hl2 : us.length + ws.length = 2 := by
        rw [← rv_len ws, ← List.length_append]
        exact hl
      rcases us with _ | ⟨a, _ | ⟨b, _ | ⟨c, _ | ⟨d, us⟩⟩⟩⟩ <;> rcases ws with _ | ⟨x, _ | ⟨y, _ | ⟨z, _ | ⟨t, ws⟩⟩⟩⟩ <;> first | rfl | (simp at hl2; done) | (simp at hl2; omega)) fun a b => a.append (rv_vals b)
  have kb_differing : KBinds K fd6 ["one", "other"] ["other", "one"] (fun us ws => us ++ rv ws) (fun us ws => us ++ rv ws) := kbinds D_differing.F (fun _ _ _ _ _ _ us ws hl => by
      have hl2 : us.length + ws.length = 2 := by
        rw [← rv_len ws, ← List.length_append]
        exact hl
      rcases us with _ | ⟨a, _ | ⟨b, _ | ⟨c, _ | ⟨d, us⟩⟩⟩⟩ <;> rcases ws with _ | ⟨x, _ | ⟨y, _ | ⟨z, _ | ⟨t, ws⟩⟩⟩⟩ <;> first | rfl | (simp at hl2; done) | (simp at hl2; omega)) fun a b => a.append (rv_vals b)
  refine okG F sc__law_flips_right (fun vs H Q E h => ?_) (fun cdv A outer s H vs Q E hgd hr h => ?_)
  · obtain ⟨p, b, n, rfl, _⟩ := h
    rfl
  · obtain ⟨p, b, n, rfl, O, hn, q⟩ := h
    refine ⟨_, (pss_cons (ps_par (i := 1) (j := 2) (by rfl) sc__law_flips_right.nd rfl rfl (by decide) rfl rfl (pa_cons (pe_call G__law_word (hr.mono (by decide)) (by rfl) D__law_word.g D__law_word.F.kp D__law_word.b .nil pass0 (pa_cons (pv 0) pa_nil)) (pa_cons (pe_call G__law_lot (hr.mono (by decide)) (by rfl) D__law_lot.g D__law_lot.F.kp D__law_lot.b .nil pass0 (pa_cons (pv 0) pa_nil)) pa_nil)) (by rfl))
  (pss_cons (ps_par (i := 3) (j := 4) (by rfl) sc__law_flips_right.nd rfl rfl (by decide) rfl rfl (pa_cons (pv 1) (pa_cons (pe_call G__law_one (hr.mono (by decide)) (by rfl) D__law_one.g D__law_one.F.kp D__law_one.b .nil pass0 (pa_cons (pv 0) (pa_cons (pe_lst (pa_cons (pv 2) (pa_cons (pe_callTy call_tuple_of (by rfl) T.n_tuple (by decide +kernel) (pa_cons (pv 2) pa_nil)) pa_nil))) pa_nil))) pa_nil)) (by rfl))
  (pss_cons (ps_for PassesOwn.never rfl (pi_list (pv 2)) (pg_name (i := 5) sc__law_flips_right.nd rfl (Or.inl rfl)) (pss_one (ps_set (i := 3) sc__law_flips_right.nd rfl (Or.inl rfl) (pe_call G__law_turned (hr.mono (by decide)) (by rfl) D__law_turned.g D__law_turned.F.kp D__law_turned.b .nil pass0 (pa_cons (pv 3) (pa_cons (pv 5) pa_nil))))))
  (pss_cons (ps_set (i := 6) sc__law_flips_right.nd rfl (Or.inl rfl) (pe_callB (call_reprI hgd hr.units) (by rfl) T.n_repr (by decide +kernel) (pa_cons (pv 4) pa_nil)))
  (pss_cons (ps_set (i := 7) sc__law_flips_right.nd rfl (Or.inl rfl) (pe_call G_flipped (hr.mono (by decide)) (by rfl) D_flipped.g D_flipped.F.kp D_flipped.b .nil pass0 (pa_cons (pv 1) (pa_cons (pv 4) pa_nil))))
  (pss_cons (ps_if (PW.pt (pw_or (pt_cmpR op_ne (pe_callB call_repr_int (by rfl) T.n_repr (by decide +kernel) (pa_cons (pv 7) pa_nil)) (pe_callB call_repr_int (by rfl) T.n_repr (by decide +kernel) (pa_cons (pv 3) pa_nil)) (nomark _)) (pw_or (pt_cmpR op_ne (pe_callB call_repr_int (by rfl) T.n_repr (by decide +kernel) (pa_cons (pe_callKo G_flipped (hr.mono (by decide)) (by rfl) D_flipped.g D_flipped.F.kp kb_flipped pass0 (pk_cons (pe_revL (pv 2)) (pk_cons (pv 1) pk_nil))) pa_nil)) (pe_callB call_repr_int (by rfl) T.n_repr (by decide +kernel) (pa_cons (pv 3) pa_nil)) (nomark _)) (pw_or1 (pt_cmpR op_ne (pe_callB (call_reprI hgd hr.units) (by rfl) T.n_repr (by decide +kernel) (pa_cons (pv 4) pa_nil)) (pv 6) (nomark _)))))) (pss_one (ps_ret pe_bl)) pss_nil)
  (pss_cons (ps_if (PW.pt (pw_or (pt_cmpR op_ne (pe_callB call_repr_int (by rfl) T.n_repr (by decide +kernel) (pa_cons (pe_call G_flipped (hr.mono (by decide)) (by rfl) D_flipped.g D_flipped.F.kp D_flipped.b .nil pass0 (pa_cons (pv 7) (pa_cons (pv 2) pa_nil))) pa_nil)) (pe_callB call_repr_int (by rfl) T.n_repr (by decide +kernel) (pa_cons (pv 1) pa_nil)) (nomark _)) (pw_or1 (pt_cmpR op_ne (pe_callB (call_reprI hgd hr.units) (by rfl) T.n_repr (by decide +kernel) (pa_cons (pe_call G_differing (hr.mono (by decide)) (by rfl) D_differing.g D_differing.F.kp D_differing.b .nil pass0 (pa_cons (pv 1) (pa_cons (pv 7) pa_nil))) pa_nil)) (pe_callB (call_reprI hgd hr.units) (by rfl) T.n_repr (by decide +kernel) (pa_cons (pe_callTy call_tuple_of (by rfl) T.n_tuple (by decide +kernel) (pa_cons (pe_callB cr_sortedA (by rfl) T.n_sorted (by decide +kernel) (pa_cons (pv 2) pa_nil)) pa_nil)) pa_nil)) (nomark _))))) (pss_one (ps_ret pe_bl)) pss_nil)
  (pss_one (ps_ret (pe_cmpR op_eq (pe_callB (call_reprI hgd hr.units) (by rfl) T.n_repr (by decide +kernel) (pa_cons (pe_callKo G_differing (hr.mono (by decide)) (by rfl) D_differing.g D_differing.F.kp kb_differing pass0 (pk_cons (pv 1) (pk_cons (pv 7) pk_nil))) pa_nil)) (pe_callB (call_reprI hgd hr.units) (by rfl) T.n_repr (by decide +kernel) (pa_cons (pe_callTy call_tuple_of (by rfl) T.n_tuple (by decide +kernel) (pa_cons (pe_callB cr_sortedA (by rfl) T.n_sorted (by decide +kernel) (pa_cons (pv 2) pa_nil)) pa_nil)) pa_nil)) (nomark _))))))))))), ?_⟩
    refine ⟨_, rfl, p, b, n, rfl, O, by omega, fun m H1 hm O1 B1 => ?_⟩
    refine ⟨_, rfl, p, b, _, rfl, O1, by omega, fun l ns H2 hl h1 h2 h3 hL O2 B2 => ⟨_, _, rfl, ?_⟩⟩
    rw [← iv_V] at hL
    have nlp : l ≠ p := by
      obtain ⟨u, hu⟩ := O1.pn
      exact (ne_of_none hu hl).symm
    refine ⟨_, rfl, _, rfl, _, rfl, _, rfl, l, _, rfl, .inl ⟨SqL.of hL, fun t ht => ⟨(by show 2 ≤ sizeLine; decide), fun l2 hl2 => ?_⟩⟩⟩
    obtain ⟨up, hup⟩ := O2.pn
    have ntp : t ≠ p := (ne_of_none hup ht).symm
    have S3 := same_new (o := .tup ((iv ns).map V.int)) ht
    have n2 : l2 ≠ p := (ne_of_none (S3 _ _ hup) hl2).symm
    have S4 := S3.trans (same_new (o := .lst [.ref l, .ref t]) hl2)
    have t4 := same_new (o := .lst [.ref l, .ref t]) hl2 _ _ (upd_same (H := H2) (a := t) (o := .tup ((iv ns).map V.int)))
    refine ⟨p, b, l2, _, _, rfl, O2.same S4, by omega, upd_same, n2, by show 0 < 2; decide, by show 2 ≤ 1000; decide, fun j x H3 hj O3 B3 => ⟨_, _, rfl, ?_⟩⟩
    have l3 : H3 l = some (.lst ((iv ns).map V.int)) := B3 _ _ (S4 _ _ hL) nlp
    have t3 : H3 t = some (.tup ((iv ns).map V.int)) := B3 _ _ t4 ntp
    have hx : x = .ref l ∨ x = .ref t := by
      match j, hj with
      | 0, e => cases e; exact .inl rfl
      | 1, e => cases e; exact .inr rfl
      | j + 2, e => cases e
    have B13 : But p H H3 := B1.trans (B2.trans ((But.of S4).trans B3))
    clear hj
    have hbits := M03.bits_of_fl (n := m) h1
    have m5 : m < 2 ^ 500 := Nat.lt_of_lt_of_le hm (Nat.pow_le_pow_right (by decide) (by decide))
    have d4 : M03.flN m ns < 2 ^ 400 := M03.fl_lt hm h2
    have d5 : M03.flN m ns < 2 ^ 500 := Nat.lt_of_lt_of_le d4 (Nat.pow_le_pow_right (by decide) (by decide))
    have x5 : m ^^^ M03.flN m ns < 2 ^ 20001 := Nat.lt_of_lt_of_le (Nat.xor_lt_two_pow hm d4) (Nat.pow_le_pow_right (by decide) (by decide))
    have back : M03.flN (M03.flN m ns) ns = m := by
      apply Nat.eq_of_testBit_eq
      intro i
      rw [M03.flN_bit ns _ i h1, M03.flN_bit ns m i h1, Bool.xor_assoc, Bool.xor_self, Bool.xor_false]
    have log1 := log_nat m5
    have log2 := log_nat d5
    have brl : IsLot K H3 (.ref l) (some 0) (some 20000) (iv ns) := lot_lst l3 h1 h2 h3
    rcases hx with ex | ex
    all_goals
      have hlot : IsLot K H3 x (some 0) (some 20000) (iv ns) := by
        rw [ex]
        first | exact lot_lst l3 h1 h2 h3 | exact lot_tup t3 h1 h2 h3
      refine ⟨_, rfl, l, rfl, ⟨_, SqL.of l3⟩, ?_⟩
      refine for_list (K := K) (a := l) (xs := (iv ns).map V.int) (fun i σ H' => H' = H3 ∧ ∃ v : Option V, σ = [some (.ref p), some (.int (m : Int)), some (.ref l), some (.int ((M03.flN m (ns.take i) : Nat) : Int)), some x, v, none, none]) ⟨rfl, none, rfl⟩ (fun i σ H' _ h => by rw [h.1]; exact SqL.of l3) ?_ ?_
      · rintro i z σ H' hz ⟨rfl, v, rfl⟩
        obtain ⟨c, hc, rfl⟩ : ∃ c : Nat, ns[i]? = some c ∧ z = V.int (c : Int) := by
          rw [iv_V, List.getElem?_map] at hz
          cases e : ns[i]? with
          | none => rw [e] at hz; cases hz
          | some c => rw [e] at hz; exact ⟨c, rfl, (Option.some.inj hz).symm⟩
        have c4 := h2 c (List.mem_of_getElem? hc)
        refine ⟨_, rfl, _, rfl, _, c, rfl, by omega, rfl, some (.int (c : Int)), ?_⟩
        show [some (V.ref p), some (V.int (m : Int)), some (V.ref l), some (V.int ((M03.flN m (ns.take i) ^^^ 2 ^ c : Nat) : Int)), some x, _, none, none] = _
        rw [List.take_add_one, hc]
        show _ = [some (V.ref p), some (V.int (m : Int)), some (V.ref l), some (V.int ((M03.flN m (ns.take i ++ [c]) : Nat) : Int)), some x, _, none, none]
        have e : M03.flN m (ns.take i ++ [c]) = M03.flN m (ns.take i) ^^^ 2 ^ c := by
          unfold M03.flN
          rw [List.foldl_append]
          rfl
        rw [e]
      rintro σ H' ⟨rfl, v, rfl⟩
      rw [List.length_map, iv_len, List.take_length]
      refine ⟨_, rfl, ?_⟩
      first
        | refine ⟨l, iv ns, congrArg (fun z => [z]) ex, iv_log h2, by rw [iv_len]; omega, .inl ⟨SqL.of l3, ?_⟩⟩
        | refine ⟨t, iv ns, congrArg (fun z => [z]) ex, iv_log h2, by rw [iv_len]; omega, .inr ⟨SqT.of t3, ?_⟩⟩
      refine ⟨_, rfl, _, rfl, _, _, rfl, .inr ⟨m, rfl, .inr ⟨iv ns, hlot, fun H4 S4' => ?_⟩⟩⟩
      rw [fl_iv]
      refine ⟨_, rfl, _, rfl, log2, _, rfl, _, rfl, log2, rfl, _, rfl, ?_⟩
      rw [same_text]
      refine ⟨_, rfl, l, _, rfl, SqL.of (S4' _ _ l3), fun r hr => ?_⟩
      have er : ((iv ns).map V.int).reverse = (iv ns.reverse).map V.int := by
        unfold iv
        rw [List.map_reverse, List.map_reverse]
      rw [er]
      have lr : IsLot K (upd H4 r (.lst ((iv ns.reverse).map V.int))) (.ref r) (some 0) (some 20000) (iv ns.reverse) :=
        lot_lst upd_same ((List.reverse_perm ns).nodup_iff.mpr h1) (fun x hx => h2 x (List.mem_reverse.mp hx)) (by rw [List.length_reverse]; exact h3)
      refine ⟨_, rfl, _, _, rfl, .inr ⟨m, rfl, .inr ⟨iv ns.reverse, lr, fun H6 S6 => ?_⟩⟩⟩
      have ep : fl m (iv ns.reverse) = M03.flN m ns := by
        rw [← fl_iv]
        exact fl_perm ((List.reverse_perm ns).map _)
      rw [ep]
      have S06 := (S4'.trans (same_new (o := .lst ((iv ns.reverse).map V.int)) hr)).trans S6
      refine ⟨_, rfl, log2, _, rfl, _, rfl, log2, rfl, _, rfl, ?_⟩
      rw [same_text]
      refine ⟨_, rfl, ?_⟩
      first
        | refine ⟨l, iv ns, congrArg (fun z => [z]) ex, iv_log h2, by rw [iv_len]; omega, .inl ⟨SqL.of (S06 _ _ l3), ?_⟩⟩
        | refine ⟨t, iv ns, congrArg (fun z => [z]) ex, iv_log h2, by rw [iv_len]; omega, .inr ⟨SqT.of (S06 _ _ t3), ?_⟩⟩
      refine ⟨_, rfl, rfl, _, rfl, ?_⟩
      rw [same_text]
      have l6 := S06 _ _ l3
      refine ⟨_, rfl, _, rfl, _, _, rfl, .inr ⟨M03.flN m ns, rfl, .inr ⟨iv ns, lot_lst l6 h1 h2 h3, fun H7 S7 => ?_⟩⟩⟩
      rw [fl_iv, back]
      refine ⟨_, rfl, log1, _, rfl, _, rfl, log1, rfl, _, rfl, ?_⟩
      rw [same_text]
      have l7 := S7 _ _ l6
      have lg := ord_log h1 h2 hbits
      have ln := ord_len h1 h3 hbits
      refine ⟨_, rfl, _, rfl, m, M03.flN m ns, rfl, x5, fun d H8 S8 hd8 => ?_⟩
      rw [bitsV_ord] at hd8
      have l8 := S8 _ _ l7
      refine ⟨d, ord (m ^^^ M03.flN m ns), rfl, lg, ln, .inr ⟨SqT.of hd8, ?_⟩⟩
      refine ⟨_, rfl, l, iv ns, rfl, .inl (SqL.of l8), fun ns' pp perm up9 hpp => ?_⟩
      obtain rfl := ord_is h1 hbits perm up9
      refine ⟨pp, _, rfl, .inl ⟨SqL.of upd_same, fun tq htq => ?_⟩⟩
      refine ⟨tq, _, rfl, lg, ln, .inr ⟨SqT.of upd_same, rfl, _, rfl, ?_⟩⟩
      rw [same_text]
      have S9 := (S06.trans (S7.trans S8)).trans ((same_new hpp).trans (same_new (o := .tup ((ord (m ^^^ M03.flN m ns)).map V.int)) htq))
      have l9 := S9 _ _ l3
      have xc : M03.flN m ns ^^^ m = m ^^^ M03.flN m ns := Nat.xor_comm _ _
      refine ⟨_, rfl, _, rfl, M03.flN m ns, m, rfl, by rw [xc]; exact x5, fun d2 H10 S10 hd10 => ?_⟩
      rw [xc, bitsV_ord] at hd10
      refine ⟨d2, ord (m ^^^ M03.flN m ns), rfl, lg, ln, .inr ⟨SqT.of hd10, ?_⟩⟩
      refine ⟨_, rfl, l, iv ns, rfl, .inl (SqL.of (S10 _ _ l9)), fun ns2 p2 perm2 up2 hp2 => ?_⟩
      obtain rfl := ord_is h1 hbits perm2 up2
      refine ⟨p2, _, rfl, .inl ⟨SqL.of upd_same, fun t2 ht2 => ?_⟩⟩
      refine ⟨t2, _, rfl, lg, ln, .inr ⟨SqT.of upd_same, ?_⟩⟩
      refine ⟨rfl, ?_⟩
      show Q (.bl (decide (V.str (tt (ord (m ^^^ M03.flN m ns))) = V.str (tt (ord (m ^^^ M03.flN m ns)))))) _
      rw [same_yes]
      have S11 := (S9.trans S10).trans ((same_new hp2).trans (same_new (o := .tup ((ord (m ^^^ M03.flN m ns)).map V.int)) ht2))
      exact q _ ((O3.same S11).mono (by omega)) (B13.trans (But.of S11))
end
end K03
namespace K03
open PySem PySem.Spec PyProof.Rows L2 OB SkE
theorem bitsB_ord {m c : Nat} (h : m < 2 ^ c) : bitsB m c = (ord m).map V.int := by
  have e : iv (M03.DB m c) = ord m := ord_is (M03.DB_nodup m c) (fun i => by rw [Bool.eq_iff_iff, decide_eq_true_eq]; exact (M03.DB_mem h i).symm) (List.Perm.refl _) (M03.DB_ints_up m c)
  rw [← e, iv_V]
  rfl
theorem ord_small {m : Nat} (h : m < 2 ^ 400) : (∀ n ∈ ord m, n.natAbs.log2 < 1920) ∧ (ord m).length ≤ 1000 := by
  have hb : ∀ i, m.testBit i = decide (i ∈ M03.DB m 400) := fun i => by rw [Bool.eq_iff_iff, decide_eq_true_eq]; exact (M03.DB_mem h i).symm
  have lt : ∀ x ∈ M03.DB m 400, x < 400 := fun x hx => by
    have hx := (M03.DB_mem h x).mp hx
    have g := Nat.ge_two_pow_of_testBit hx
    exact (Nat.pow_lt_pow_iff_right (by decide)).mp (Nat.lt_of_le_of_lt g h)
  refine ⟨ord_log (M03.DB_nodup m 400) lt hb, ?_⟩
  have p := (M03.DB_perm (M04.R_facts m).1 (M03.DB_nodup m 400) hb).length_eq
  have l : (M03.DB m 400).length ≤ 400 := by
    unfold M03.DB
    rw [List.length_reverse]
    exact M04.D_len m 400
  unfold ord
  rw [iv_len]
  have e : (M04.D m (M04.R m).length).reverse.length = (M03.DB m 400).length := p
  omega
theorem ne_xor (a b i : Nat) : (!decide (V.bl (a.testBit i) = V.bl (b.testBit i))) = decide ((a ^^^ b) / 2 ^ i % 2 = 1) := by
  rw [M07.one_bit, Nat.testBit_xor]
  cases a.testBit i <;> cases b.testBit i <;> decide
theorem bitsV_zero : bitsV 0 = [] := by decide +kernel
section
variable {P : Program} {w : World} {K : PySem.W.Frag} {mg : Str → Option Value} {base : Heap}
theorem sc__law_apart_right : FnScope ["kennel", "one", "other", "due", "bit"] ["kennel"] (defScope s__law_apart_right) := ⟨rfl, rfl, rfl, by decide +kernel, rfl, by decide +kernel, by decide +kernel⟩
abbrev N__law_apart_right : List Str := ["kennel", "one", "other", "due", "bit"]
theorem ok__law_apart_right {f f1 f2 f3 f4 f5 f6 CW : Addr} {fd fd1 fd2 fd3 fd4 fd5 fd6 : FuncData} (F : Fun K "_law_apart_right" "_law_apart_right" s__law_apart_right f fd) (T : Blt mg)
    (D__law_one : Df K mg "_law_one" s__law_one ["kennel", "some"] f1 fd1) (G__law_one : FnOk P w K mg base CX0 2 f1 fd1 ["kennel", "some"] spOne)
    (D__law_word : Df K mg "_law_word" s__law_word ["kennel"] f2 fd2) (G__law_word : FnOk P w K mg base CX0 3 f2 fd2 ["kennel"] spWord)
    (D__law_bark : Df K mg "_law_bark" s__law_bark ["kennel", "many"] f3 fd3) (G__law_bark : FnOk P w K mg base CX0 1 f3 fd3 ["kennel", "many"] spDraw)
    (D__law_turned : Df K mg "_law_turned" s__law_turned ["word", "bit"] f4 fd4) (G__law_turned : FnOk P w K mg base CX0 2 f4 fd4 ["word", "bit"] spTurned)
    (D__law_is_one : Df K mg "_law_is_one" s__law_is_one ["word", "bit"] f5 fd5) (G__law_is_one : FnOk P w K mg base CX0 1 f5 fd5 ["word", "bit"] spIsOne)
    (D_differing : Df K mg "differing" s_differing ["one", "other"] f6 fd6) (GX_differing : FnOk P w K mg base (L2.CX P w) 5 f6 fd6 ["one", "other"] spDiff) :
    FnG P w K mg base CX0 9 f fd ["kennel"] spRight := by
  have G_differing := calm_of GX_differing
  refine okG F sc__law_apart_right (fun vs H Q E h => ?_) (fun cdv A outer s H vs Q E hgd hr h => ?_)
  · obtain ⟨p, b, n, rfl, _⟩ := h
    rfl
  · obtain ⟨p, b, n, rfl, O, hn, q⟩ := h
    refine ⟨_, (pss_cons (ps_set (i := 1) sc__law_apart_right.nd rfl (Or.inr rfl) (pe_call G__law_word (hr.mono (by decide)) (by rfl) D__law_word.g D__law_word.F.kp D__law_word.b .nil pass0 (pa_cons (pv 0) pa_nil)))
  (pss_cons (ps_set (i := 2) sc__law_apart_right.nd rfl (Or.inr rfl) (pe_call G__law_one (hr.mono (by decide)) (by rfl) D__law_one.g D__law_one.F.kp D__law_one.b .nil pass0 (pa_cons (pv 0) (pa_cons (pe_lst (pa_cons (pe_call G__law_word (hr.mono (by decide)) (by rfl) D__law_word.g D__law_word.F.kp D__law_word.b .nil pass0 (pa_cons (pv 0) pa_nil)) (pa_cons (pv 1) (pa_cons (pe_call G__law_turned (hr.mono (by decide)) (by rfl) D__law_turned.g D__law_turned.F.kp D__law_turned.b .nil pass0 (pa_cons (pv 1) (pa_cons (pe_call G__law_bark (hr.mono (by decide)) (by rfl) D__law_bark.g D__law_bark.F.kp D__law_bark.b .nil pass0 (pa_cons (pv 0) (pa_cons pe_int pa_nil))) pa_nil))) pa_nil)))) pa_nil))))
  (pss_cons (ps_setLc (i := 3) (own := [("bit", 4)]) (g := (gName 4)) rfl sc__law_apart_right.nd rfl rfl (sw_true rfl rfl rfl (by decide +kernel)) (pi_range1 (by rfl) T.n_range (pa_cons pe_int pa_nil)) (blkOk_by (N := N__law_apart_right) (own := [("bit", 4)]) (sc := defScope s__law_apart_right) (by decide +kernel)) (fun _ _ _ _ _ => (pg_name (i := 4) sc__law_apart_right.nd rfl (Or.inl rfl))) (fun _ _ _ _ _ => (pts_one (pt_cmpR op_ne (pe_call G__law_is_one (hr.mono (by decide)) (by rfl) D__law_is_one.g D__law_is_one.F.kp D__law_is_one.b .nil pass0 (pa_cons (pv 1) (pa_cons (pv 4) pa_nil))) (pe_call G__law_is_one (hr.mono (by decide)) (by rfl) D__law_is_one.g D__law_is_one.F.kp D__law_is_one.b .nil pass0 (pa_cons (pv 2) (pa_cons (pv 4) pa_nil))) (nomark _)))) (fun _ _ _ _ _ => (pv 4)))
  (pss_one (ps_ret (pe_and (pe_cmpR op_eq (pe_callB (call_reprI hgd hr.units) (by rfl) T.n_repr (by decide +kernel) (pa_cons (pe_call G_differing (hr.mono (by decide)) (by rfl) D_differing.g D_differing.F.kp D_differing.b .nil pass0 (pa_cons (pv 1) (pa_cons (pv 2) pa_nil))) pa_nil)) (pe_callB (call_reprI hgd hr.units) (by rfl) T.n_repr (by decide +kernel) (pa_cons (pe_callTy call_tuple_of (by rfl) T.n_tuple (by decide +kernel) (pa_cons (pv 3) pa_nil)) pa_nil)) (nomark _)) (pe_one (pe_cmpR (op_eqD hr.units) (pe_call G_differing (hr.mono (by decide)) (by rfl) D_differing.g D_differing.F.kp D_differing.b .nil pass0 (pa_cons (pv 1) (pa_cons (pv 1) pa_nil))) (pe_tup pa_nil) (nomark _))))))))), ?_⟩
    refine ⟨_, rfl, p, b, n, rfl, O, by omega, fun m H1 hm O1 B1 => ?_⟩
    refine ⟨_, rfl, _, rfl, p, b, _, rfl, O1, by omega, fun m2 H2 hm2 O2 B2 => ?_⟩
    refine ⟨_, rfl, _, rfl, _, rfl, p, b, _, _, rfl, O2, by omega, by decide, by decide, fun r H3 r0 r1 O3 B3 => ?_⟩
    obtain ⟨r, rfl⟩ := Int.eq_ofNat_of_zero_le r0
    refine ⟨m, r, rfl, by omega, (by show 3 ≤ sizeLine; decide), fun l hl => ?_⟩
    obtain ⟨up, hup⟩ := O3.pn
    have nl : l ≠ p := (ne_of_none hup hl).symm
    have S3 := same_new (o := .lst [.int (m2 : Int), .int (m : Int), .int ((m ^^^ 2 ^ r : Nat) : Int)]) hl
    refine ⟨p, b, l, _, _, rfl, O3.same S3, by omega, upd_same, nl, by show 0 < 3; decide, by show 3 ≤ 1000; decide, fun j x H4 hj O4 B4 => ?_⟩
    obtain ⟨o, rfl, ho⟩ : ∃ o : Nat, x = V.int (o : Int) ∧ o < 2 ^ 400 := by
      match j, hj with
      | 0, e => cases e; exact ⟨m2, rfl, hm2⟩
      | 1, e => cases e; exact ⟨m, rfl, hm⟩
      | 2, e => cases e; exact ⟨m ^^^ 2 ^ r, rfl, Nat.xor_lt_two_pow hm (Nat.pow_lt_pow_right (by decide) (by omega))⟩
      | j + 3, e => cases e
    have B14 : But p H H4 := B1.trans (B2.trans (B3.trans ((But.of S3).trans B4)))
    have x4 : m ^^^ o < 2 ^ 400 := Nat.xor_lt_two_pow hm ho
    have x402 : m ^^^ o < 2 ^ 402 := Nat.lt_trans x4 (Nat.pow_lt_pow_right (by decide) (by decide))
    have xbig : m ^^^ o < 2 ^ 20001 := Nat.lt_of_lt_of_le x4 (Nat.pow_le_pow_right (by decide) (by decide))
    refine ⟨402, rfl, by decide, by decide, fun D hD => ?_⟩
    refine lc_range (n := 402) (fun i H' => Same H4 H' ∧ H' D = some (.lst (bitsB (m ^^^ o) i))) ⟨same_new hD, upd_same⟩ ?_ ?_
    · rintro i H' hi ⟨S, hl⟩
      refine ⟨rfl, _, rfl, _, rfl, m, i, by rw [Int.zero_add]; rfl, by omega, _, rfl, _, rfl, o, i, by rw [Int.zero_add]; rfl, by omega, rfl, _, rfl, ?_⟩
      rw [ne_xor]
      have nx := bitsB_next (m ^^^ o) i
      refine iteB (fun c => ?_) (fun c => ?_)
      · have c := of_decide_eq_true c
        rw [if_pos c] at nx
        refine ⟨_, rfl, _, hl, ?_, ?_, ?_⟩
        · exact small1000 (Nat.le_trans (bitsB_len _ _) (by omega))
        · intro q o e
          rw [upd_ne (ne_of_none e hD)]
          exact S q o e
        · rw [upd_same, nx, Int.zero_add]
      · have c := of_decide_eq_false c
        rw [if_neg c] at nx
        rw [nx]
        exact ⟨S, hl⟩
    · rintro H5 ⟨S5, hl5⟩
      rw [bitsB_ord x402] at hl5
      obtain ⟨lg, ln⟩ := ord_small x4
      refine ⟨_, rfl, _, rfl, m, o, rfl, xbig, fun d H6 S6 hd6 => ?_⟩
      rw [bitsV_ord] at hd6
      refine ⟨d, ord (m ^^^ o), rfl, lg, ln, .inr ⟨SqT.of hd6, ?_⟩⟩
      refine ⟨_, rfl, D, _, rfl, .inl ⟨SqL.of (S6 _ _ hl5), fun t ht => ?_⟩⟩
      refine ⟨t, _, rfl, lg, ln, .inr ⟨SqT.of upd_same, rfl, ?_⟩⟩
      refine ⟨_, rfl, ?_⟩
      rw [same_yes]
      refine iteT ?_
      refine ⟨_, rfl, _, rfl, m, m, rfl, by rw [Nat.xor_self]; exact M07.two_pos _, fun d2 H7 S7 hd7 => ?_⟩
      rw [Nat.xor_self, bitsV_zero] at hd7
      refine ⟨Nat.zero_le _, fun t0 ht0 => ?_⟩
      have St := same_new (o := .tup []) ht0
      refine ⟨.tuple [], .tuple [], Dp.tup (SqT.of (St _ _ hd7)) .nil, Dp.tup (SqT.of upd_same) .nil, (by decide +kernel), (by decide +kernel), ?_⟩
      rw [SeqAt.eqv_refl _ (by decide +kernel)]
      have SZ := (S5.trans S6).trans (((same_new (o := .tup ((ord (m ^^^ o)).map V.int)) ht).trans S7).trans St)
      exact q _ ((O4.same SZ).mono (by omega)) (B14.trans (But.of SZ))
def nbi (n k : Nat) : List Int := (List.range k).map fun (i : Nat) => ((n ^^^ 2 ^ i : Nat) : Int)
theorem nbs_nbi (n k : Nat) : nbs n k = (nbi n k).map V.int := by
  unfold nbs nbi
  rw [List.map_map]
  rfl
theorem nbi_log {n k : Nat} (h : n < 2 ^ k) (hk : k ≤ 400) : (∀ z ∈ nbi n k, z.natAbs.log2 < 1920) ∧ (nbi n k).length ≤ 1000 := by
  refine ⟨fun z hz => ?_, ?_⟩
  · obtain ⟨i, hi, rfl⟩ := List.mem_map.mp hz
    have hi := List.mem_range.mp hi
    refine log_nat (Nat.lt_of_lt_of_le (Nat.xor_lt_two_pow h (Nat.pow_lt_pow_right (by decide) hi)) (Nat.pow_le_pow_right (by decide) (by omega)))
  · unfold nbi
    rw [List.length_map, List.length_range]
    omega
theorem sc__law_near_right : FnScope ["kennel", "many", "word", "due", "bit"] ["kennel"] (defScope s__law_near_right) := ⟨rfl, rfl, rfl, by decide +kernel, rfl, by decide +kernel, by decide +kernel⟩
abbrev N__law_near_right : List Str := ["kennel", "many", "word", "due", "bit"]
theorem ok__law_near_right {f f1 f2 f3 f4 f5 CW CN CM : Addr} {fd fd1 fd2 fd3 fd4 fd5 : FuncData} (F : Fun K "_law_near_right" "_law_near_right" s__law_near_right f fd) (T : Blt mg)
    (D__law_one : Df K mg "_law_one" s__law_one ["kennel", "some"] f1 fd1) (G__law_one : FnOk P w K mg base CX0 2 f1 fd1 ["kennel", "some"] spOne)
    (D__law_word : Df K mg "_law_word" s__law_word ["kennel"] f2 fd2) (G__law_word : FnOk P w K mg base CX0 3 f2 fd2 ["kennel"] spWord)
    (D__law_bark : Df K mg "_law_bark" s__law_bark ["kennel", "many"] f3 fd3) (G__law_bark : FnOk P w K mg base CX0 1 f3 fd3 ["kennel", "many"] spDraw)
    (D__law_turned : Df K mg "_law_turned" s__law_turned ["word", "bit"] f4 fd4) (G__law_turned : FnOk P w K mg base CX0 2 f4 fd4 ["word", "bit"] spTurned)
    (D_neighbours_of : Df K mg "neighbours_of" s_neighbours_of ["word", "many"] f5 fd5) (GX_neighbours_of : FnOk P w K mg base (L2.CX P w) 7 f5 fd5 ["word", "many"] (spNear K CW CN CM)) :
    FnG P w K mg base CX0 9 f fd ["kennel"] spRight := by
  have G_neighbours_of := calm_of GX_neighbours_of
  have kb_neighbours_of : KBinds K fd5 ["word", "many"] ["many", "word"] (fun us ws => us ++ rv ws) (fun us ws => us ++ rv ws) := kbinds D_neighbours_of.F (fun _ _ _ _ _ _ us ws hl => by
      have hl2 : us.length + ws.length = 2 := by
        rw [← rv_len ws, ← List.length_append]
        exact hl
      rcases us with _ | ⟨a, _ | ⟨b, _ | ⟨c, _ | ⟨d, us⟩⟩⟩⟩ <;> rcases ws with _ | ⟨x, _ | ⟨y, _ | ⟨z, _ | ⟨t, ws⟩⟩⟩⟩ <;> first | rfl | (simp at hl2; done) | (simp at hl2; omega)) fun a b => a.append (rv_vals b)
  refine okG F sc__law_near_right (fun vs H Q E h => ?_) (fun cdv A outer s H vs Q E hgd hr h => ?_)
  · obtain ⟨p, b, n, rfl, _⟩ := h
    rfl
  · obtain ⟨p, b, n, rfl, O, hn, q⟩ := h
    refine ⟨_, (pss_cons (ps_set (i := 1) sc__law_near_right.nd rfl (Or.inl rfl) (pe_call G__law_one (hr.mono (by decide)) (by rfl) D__law_one.g D__law_one.F.kp D__law_one.b .nil pass0 (pa_cons (pv 0) (pa_cons (pe_lst (pa_cons pe_int (pa_cons pe_int (pa_cons pe_int (pa_cons pe_int (pa_cons (pe_op op_add pe_int (pe_call G__law_bark (hr.mono (by decide)) (by rfl) D__law_bark.g D__law_bark.F.kp D__law_bark.b .nil pass0 (pa_cons (pv 0) (pa_cons pe_int pa_nil)))) (pa_cons pe_int pa_nil))))))) pa_nil))))
  (pss_cons (ps_set (i := 2) sc__law_near_right.nd rfl (Or.inr rfl) (pe_op op_mod (pe_callTy call_int1 (by rfl) T.n_int (by decide +kernel) (pa_cons (pe_call G__law_word (hr.mono (by decide)) (by rfl) D__law_word.g D__law_word.F.kp D__law_word.b .nil pass0 (pa_cons (pv 0) pa_nil)) pa_nil)) (pe_op op_oneN pe_int (pv 1))))
  (pss_cons (ps_set (i := 3) sc__law_near_right.nd rfl (Or.inl rfl) (pe_callTy call_tuple_of (by rfl) T.n_tuple (by decide +kernel) (pa_cons (pe_lc (own := [("bit", 4)]) (g := (gName 4)) (tt := tYes) rfl sc__law_near_right.nd (pi_range1 (by rfl) T.n_range (pa_cons (pv 1) pa_nil)) (blkOk_by (N := N__law_near_right) (own := [("bit", 4)]) (sc := defScope s__law_near_right) (by decide +kernel)) (fun _ _ _ _ _ => (pg_name (i := 4) sc__law_near_right.nd rfl (Or.inl rfl))) (fun _ _ _ _ _ => pts_nil) (fun _ _ _ _ _ => (pe_call G__law_turned (hr.mono (by decide)) (by rfl) D__law_turned.g D__law_turned.F.kp D__law_turned.b .nil pass0 (pa_cons (pv 2) (pa_cons (pv 4) pa_nil))))) pa_nil)))
  (pss_one (ps_ret (pe_and (pe_cmpR op_eq (pe_callB (call_reprI hgd hr.units) (by rfl) T.n_repr (by decide +kernel) (pa_cons (pe_call G_neighbours_of (hr.mono (by decide)) (by rfl) D_neighbours_of.g D_neighbours_of.F.kp D_neighbours_of.b .nil pass0 (pa_cons (pv 2) (pa_cons (pv 1) pa_nil))) pa_nil)) (pe_callB (call_reprI hgd hr.units) (by rfl) T.n_repr (by decide +kernel) (pa_cons (pv 3) pa_nil)) (nomark _)) (pe_one (pe_cmpR op_eq (pe_callB (call_reprI hgd hr.units) (by rfl) T.n_repr (by decide +kernel) (pa_cons (pe_callKo G_neighbours_of (hr.mono (by decide)) (by rfl) D_neighbours_of.g D_neighbours_of.F.kp kb_neighbours_of pass0 (pk_cons (pv 1) (pk_cons (pv 2) pk_nil))) pa_nil)) (pe_callB (call_reprI hgd hr.units) (by rfl) T.n_repr (by decide +kernel) (pa_cons (pv 3) pa_nil)) (nomark _))))))))), ?_⟩
    refine ⟨_, rfl, _, rfl, p, b, n, _, rfl, O, by omega, by decide, by decide, fun r H1 r0 r1 O1 B1 => ⟨_, _, rfl, rfl, (by show 6 ≤ sizeLine; decide), fun l hl => ?_⟩⟩
    obtain ⟨r, rfl⟩ := Int.eq_ofNat_of_zero_le r0
    obtain ⟨up, hup⟩ := O1.pn
    have nl : l ≠ p := (ne_of_none hup hl).symm
    have S1 := same_new (o := .lst [.int 1, .int 2, .int 3, .int 8, .int (1 + (r : Int)), .int 400]) hl
    refine ⟨p, b, l, _, _, rfl, O1.same S1, by omega, upd_same, nl, by show 0 < 6; decide, by show 6 ≤ 1000; decide, fun j x H2 hj O2 B2 => ?_⟩
    obtain ⟨k, rfl, k1, k4⟩ : ∃ k : Nat, x = V.int (k : Int) ∧ 1 ≤ k ∧ k ≤ 400 := by
      match j, hj with
      | 0, e => cases e; exact ⟨1, rfl, by decide, by decide⟩
      | 1, e => cases e; exact ⟨2, rfl, by decide, by decide⟩
      | 2, e => cases e; exact ⟨3, rfl, by decide, by decide⟩
      | 3, e => cases e; exact ⟨8, rfl, by decide, by decide⟩
      | 4, e => cases e; exact ⟨1 + r, by rw [Int.natCast_add]; rfl, by omega, by omega⟩
      | 5, e => cases e; exact ⟨400, rfl, by decide, by decide⟩
      | j + 6, e => cases e
    refine ⟨_, rfl, p, b, _, rfl, O2, by omega, fun m H3 hm O3 B3 => ?_⟩
    have p2 := M07.two_pos k
    have en : (m : Int) % ((2 ^ k : Nat) : Int) = ((m % 2 ^ k : Nat) : Int) := (Int.natCast_emod m (2 ^ k)).symm
    refine .inl ⟨_, rfl, _, rfl, k, rfl, rfl, by omega, _, _, rfl, rfl, by omega, ?_⟩
    show gName 2 (V.int ((m : Int) % ((2 ^ k : Nat) : Int))) _ _ _
    rw [en]
    have w2 : m % 2 ^ k < 2 ^ k := Nat.mod_lt _ p2
    generalize m % 2 ^ k = v at w2
    obtain ⟨lg, ln⟩ := nbi_log w2 k4
    refine ⟨_, rfl, _, rfl, by omega, by omega, fun D hD => ?_⟩
    rw [Int.toNat_natCast]
    refine lc_range (n := k) (fun i H' => Same H3 H' ∧ H' D = some (.lst (nbs v i))) ⟨same_new hD, upd_same⟩ ?_ ?_
    · rintro i H' hi ⟨S, hl⟩
      refine ⟨rfl, _, rfl, _, rfl, v, i, by rw [Int.zero_add]; rfl, by omega, _, hl, ?_, ?_, ?_⟩
      · rw [nbs_len]
        exact small1000 (by omega)
      · intro q o e
        rw [upd_ne (ne_of_none e hD)]
        exact S q o e
      · rw [upd_same, nbs_next]
    · rintro H4 ⟨S4, hl4⟩
      refine ⟨D, _, rfl, .inl ⟨SqL.of hl4, fun t ht => ?_⟩⟩
      have S5 := S4.trans (same_new (o := .tup (nbs v k)) ht)
      have t5 : (upd H4 t (.tup (nbs v k))) t = some (.tup (nbs v k)) := upd_same
      generalize upd H4 t (.tup (nbs v k)) = H5 at S5 t5
      have nr : ∀ {A : Prop}, 2 ^ k ≤ v → A := fun z => absurd z (by omega)
      refine ⟨_, rfl, _, rfl, _, _, rfl, .inr ⟨v, rfl, .inr ⟨k, rfl, k1, k4, .inr ⟨w2, fun d H6 S6 hd6 => ?_⟩⟩⟩⟩
      rw [nbs_nbi] at hd6 t5
      refine ⟨d, nbi v k, rfl, lg, ln, .inr ⟨SqT.of hd6, ?_⟩⟩
      refine ⟨_, rfl, t, nbi v k, rfl, lg, ln, .inr ⟨SqT.of (S6 _ _ t5), rfl, ?_⟩⟩
      refine ⟨_, rfl, ?_⟩
      rw [same_yes]
      refine iteT ?_
      refine ⟨_, rfl, _, rfl, _, _, rfl, .inr ⟨v, rfl, .inr ⟨k, rfl, k1, k4, .inr ⟨w2, fun d2 H7 S7 hd7 => ?_⟩⟩⟩⟩
      rw [nbs_nbi] at hd7
      refine ⟨d2, nbi v k, rfl, lg, ln, .inr ⟨SqT.of hd7, ?_⟩⟩
      refine ⟨_, rfl, t, nbi v k, rfl, lg, ln, .inr ⟨SqT.of (S7 _ _ (S6 _ _ t5)), rfl, ?_⟩⟩
      show Q (.bl (decide (V.str (tt (nbi v k)) = V.str (tt (nbi v k))))) _
      rw [same_yes]
      have SZ := S5.trans (S6.trans S7)
      exact q _ ((O3.same SZ).mono (by omega)) ((B1.trans ((But.of S1).trans (B2.trans B3))).trans (But.of SZ))
end
end K03
namespace K03
open PySem PySem.Spec PyProof.Rows L2 OB SkE LamX
/-- what the law's reader of errors asks of an error's class -/
structure ErrR (K : PySem.W.Frag) (CF C : Addr) : Prop where
  xf : XfC K C
  ec : ExcC K C
  ex : PySem.W.exmOne K (.ref C) (.ref CF) = some true
  no : PySem.W.findIn K (.ref C) "part" = some none
structure Kinds (K : PySem.W.Frag) (mg : Str → Option Value) (CF CW CB CN CM : Addr) : Prop where
  gF : mg "FlipError" = some (.ref CF)
  gW : mg "BadWord" = some (.ref CW)
  gB : mg "BadBits" = some (.ref CB)
  gN : mg "BadNumber" = some (.ref CN)
  gM : mg "Misfit" = some (.ref CM)
  rW : ErrR K CF CW
  rB : ErrR K CF CB
  rN : ErrR K CF CN
  rM : ErrR K CF CM
  kWW : PySem.W.kitOne K (.ref CW) (.ref CW) = some true
  kBW : PySem.W.kitOne K (.ref CB) (.ref CW) = some false
  kBB : PySem.W.kitOne K (.ref CB) (.ref CB) = some true
  kNW : PySem.W.kitOne K (.ref CN) (.ref CW) = some false
  kNB : PySem.W.kitOne K (.ref CN) (.ref CB) = some false
  kNN : PySem.W.kitOne K (.ref CN) (.ref CN) = some true
  kMW : PySem.W.kitOne K (.ref CM) (.ref CW) = some false
  kMB : PySem.W.kitOne K (.ref CM) (.ref CB) = some false
  kMN : PySem.W.kitOne K (.ref CM) (.ref CN) = some false
  kMM : PySem.W.kitOne K (.ref CM) (.ref CM) = some true
  zW : PySem.W.kitOne K (.type "NoneType") (.ref CW) = some false
  zB : PySem.W.kitOne K (.type "NoneType") (.ref CB) = some false
  zN : PySem.W.kitOne K (.type "NoneType") (.ref CN) = some false
  zM : PySem.W.kitOne K (.type "NoneType") (.ref CM) = some false
def TTheard (CW CB CN CM : Addr) : List V → (XK → Hp → VK → Prop) → Hp → VK → Prop := fun vs tl H Q => vs = [] ∧
  tl (fun cls d H' => ∃ (dd : Addr) (part : Str), d = some dd ∧ H' dd = some (.xd [(("part" : Str), .str part)]) ∧
    ((cls = .ref CW ∧ ∀ p H'', Same H' H'' → H'' p = some (.tup [.str "word", .str part]) → Q (.ref p) H'') ∨ (cls = .ref CB ∧ ∀ p H'', Same H' H'' → H'' p = some (.tup [.str "bits", .str part]) → Q (.ref p) H'') ∨ (cls = .ref CN ∧ ∀ p H'', Same H' H'' → H'' p = some (.tup [.str "number", .str part]) → Q (.ref p) H'') ∨ (cls = .ref CM ∧ ∀ p H'', Same H' H'' → H'' p = some (.tup [.str "misfit", .str part]) → Q (.ref p) H''))) H fun _ H' => Q .non H'
section
theorem sc__law_heard : FnScope ["ask", "caught", "error"] ["ask"] (defScope s__law_heard) := ⟨rfl, rfl, rfl, by decide +kernel, rfl, by decide +kernel, by decide +kernel⟩
theorem heard_gives {X : Cx} {g CF CW CB CN CM : Addr} {cdg : Value} {q : Str} {kk : Nat} (Z : Kinds X.K X.mg CF CW CB CN CM) (T : Blt X.mg) : Gives X ["ask", "caught", "error"] "_law_heard" (defScope s__law_heard) g cdg (defBody s__law_heard) "ask" q kk (TTheard CW CB CN CM) := by
  intro f c' vs s H Q tl hr act hc mono h
  obtain ⟨rfl, h⟩ := h
  have g_FlipError := Z.gF
  have g_BadWord := Z.gW
  have g_BadBits := Z.gB
  have g_BadNumber := Z.gN
  have g_Misfit := Z.gM
  refine ⟨_, (pss_cons (ps_set (i := 1) sc__law_heard.nd rfl (Or.inl rfl) pe_non)
  (pss_cons (ps_try_keep (i := 2) (j := 1) (Wout := fun _ _ _ _ => False) rfl rfl rfl sc__law_heard.nd rfl rfl rfl rfl ⟨by rfl, by decide, .inl g_FlipError⟩ L2.takes0 (fun W pn xe tk _ => (pss_one (ps_expr (act W pn xe _ _ tk)))))
  (pss_cons (ps_if (pt_val (pe_callB (call_or call_isX call_isi) (by rfl) T.n_isinstance (by decide +kernel) (pa_cons (pv 1) (pa_cons (pe_glob (v := .ref _) (by rfl) g_BadWord rfl) pa_nil)))) (pss_one (ps_ret (pe_tup (pa_cons pe_str (pa_cons (pe_xa (pv 1)) pa_nil))))) pss_nil)
  (pss_cons (ps_if (pt_val (pe_callB (call_or call_isX call_isi) (by rfl) T.n_isinstance (by decide +kernel) (pa_cons (pv 1) (pa_cons (pe_glob (v := .ref _) (by rfl) g_BadBits rfl) pa_nil)))) (pss_one (ps_ret (pe_tup (pa_cons pe_str (pa_cons (pe_xa (pv 1)) pa_nil))))) pss_nil)
  (pss_cons (ps_if (pt_val (pe_callB (call_or call_isX call_isi) (by rfl) T.n_isinstance (by decide +kernel) (pa_cons (pv 1) (pa_cons (pe_glob (v := .ref _) (by rfl) g_BadNumber rfl) pa_nil)))) (pss_one (ps_ret (pe_tup (pa_cons pe_str (pa_cons (pe_xa (pv 1)) pa_nil))))) pss_nil)
  (pss_cons (ps_if (pt_val (pe_callB (call_or call_isX call_isi) (by rfl) T.n_isinstance (by decide +kernel) (pa_cons (pv 1) (pa_cons (pe_glob (v := .ref _) (by rfl) g_Misfit rfl) pa_nil)))) (pss_one (ps_ret (pe_tup (pa_cons pe_str (pa_cons (pe_xa (pv 1)) pa_nil))))) pss_nil)
  (pss_one (ps_ret (pe_ifExp (pt_cmpR op_isN (pv 1) pe_non (nomark _)) pe_non (pe_tup (pa_cons pe_str (pa_cons pe_non pa_nil)))))))))))), ?_⟩
  refine ⟨rfl, hc, ?_⟩
  refine mono _ _ _ _ _ ?_ ?_ h
  rotate_left
  · intro v H' k
    refine ⟨_, rfl, .inr ⟨.non, .ref CW, .type "NoneType", .ref CW, false, rfl, .own CW, .base .non, Z.zW, _, rfl, ?_⟩⟩
    refine ⟨_, rfl, .inr ⟨.non, .ref CB, .type "NoneType", .ref CB, false, rfl, .own CB, .base .non, Z.zB, _, rfl, ?_⟩⟩
    refine ⟨_, rfl, .inr ⟨.non, .ref CN, .type "NoneType", .ref CN, false, rfl, .own CN, .base .non, Z.zN, _, rfl, ?_⟩⟩
    refine ⟨_, rfl, .inr ⟨.non, .ref CM, .type "NoneType", .ref CM, false, rfl, .own CM, .base .non, Z.zM, _, rfl, ?_⟩⟩
    exact ⟨_, rfl, rfl, _, rfl, k⟩
  · rintro cls d H' ⟨dd, part, rfl, hd, ⟨rfl, k⟩ | ⟨rfl, k⟩ | ⟨rfl, k⟩ | ⟨rfl, k⟩⟩
    · refine ⟨true, Z.rW.ex, fun _ a ha => ?_, fun z => nomatch z⟩
      have nad : dd ≠ a := ne_of_none hd ha
      have hd1 : (upd H' a (ExA (.ref CW) (some dd) a)) dd = some (.xd [(("part" : Str), .str part)]) := by
        rw [upd_ne nad]
        exact hd
      refine ⟨_, rfl, .inl ⟨a, CW, some dd, .ref CW, .ref CW, true, rfl, Z.rW.ec, upd_same, (fun z e => by cases e; exact ⟨_, hd1⟩), .own CW, Z.kWW, _, rfl, ?_⟩⟩
      refine ⟨_, rfl, a, CW, dd, _, _, rfl, Z.rW.xf, Z.rW.no, upd_same, hd1, rfl, (by show 2 ≤ sizeLine; decide), fun p hp => ?_⟩
      exact k p _ ((same_new ha).trans (same_new hp)) upd_same
    · refine ⟨true, Z.rB.ex, fun _ a ha => ?_, fun z => nomatch z⟩
      have nad : dd ≠ a := ne_of_none hd ha
      have hd1 : (upd H' a (ExA (.ref CB) (some dd) a)) dd = some (.xd [(("part" : Str), .str part)]) := by
        rw [upd_ne nad]
        exact hd
      refine ⟨_, rfl, .inl ⟨a, CB, some dd, .ref CW, .ref CW, false, rfl, Z.rB.ec, upd_same, (fun z e => by cases e; exact ⟨_, hd1⟩), .own CW, Z.kBW, _, rfl, ?_⟩⟩
      refine ⟨_, rfl, .inl ⟨a, CB, some dd, .ref CB, .ref CB, true, rfl, Z.rB.ec, upd_same, (fun z e => by cases e; exact ⟨_, hd1⟩), .own CB, Z.kBB, _, rfl, ?_⟩⟩
      refine ⟨_, rfl, a, CB, dd, _, _, rfl, Z.rB.xf, Z.rB.no, upd_same, hd1, rfl, (by show 2 ≤ sizeLine; decide), fun p hp => ?_⟩
      exact k p _ ((same_new ha).trans (same_new hp)) upd_same
    · refine ⟨true, Z.rN.ex, fun _ a ha => ?_, fun z => nomatch z⟩
      have nad : dd ≠ a := ne_of_none hd ha
      have hd1 : (upd H' a (ExA (.ref CN) (some dd) a)) dd = some (.xd [(("part" : Str), .str part)]) := by
        rw [upd_ne nad]
        exact hd
      refine ⟨_, rfl, .inl ⟨a, CN, some dd, .ref CW, .ref CW, false, rfl, Z.rN.ec, upd_same, (fun z e => by cases e; exact ⟨_, hd1⟩), .own CW, Z.kNW, _, rfl, ?_⟩⟩
      refine ⟨_, rfl, .inl ⟨a, CN, some dd, .ref CB, .ref CB, false, rfl, Z.rN.ec, upd_same, (fun z e => by cases e; exact ⟨_, hd1⟩), .own CB, Z.kNB, _, rfl, ?_⟩⟩
      refine ⟨_, rfl, .inl ⟨a, CN, some dd, .ref CN, .ref CN, true, rfl, Z.rN.ec, upd_same, (fun z e => by cases e; exact ⟨_, hd1⟩), .own CN, Z.kNN, _, rfl, ?_⟩⟩
      refine ⟨_, rfl, a, CN, dd, _, _, rfl, Z.rN.xf, Z.rN.no, upd_same, hd1, rfl, (by show 2 ≤ sizeLine; decide), fun p hp => ?_⟩
      exact k p _ ((same_new ha).trans (same_new hp)) upd_same
    · refine ⟨true, Z.rM.ex, fun _ a ha => ?_, fun z => nomatch z⟩
      have nad : dd ≠ a := ne_of_none hd ha
      have hd1 : (upd H' a (ExA (.ref CM) (some dd) a)) dd = some (.xd [(("part" : Str), .str part)]) := by
        rw [upd_ne nad]
        exact hd
      refine ⟨_, rfl, .inl ⟨a, CM, some dd, .ref CW, .ref CW, false, rfl, Z.rM.ec, upd_same, (fun z e => by cases e; exact ⟨_, hd1⟩), .own CW, Z.kMW, _, rfl, ?_⟩⟩
      refine ⟨_, rfl, .inl ⟨a, CM, some dd, .ref CB, .ref CB, false, rfl, Z.rM.ec, upd_same, (fun z e => by cases e; exact ⟨_, hd1⟩), .own CB, Z.kMB, _, rfl, ?_⟩⟩
      refine ⟨_, rfl, .inl ⟨a, CM, some dd, .ref CN, .ref CN, false, rfl, Z.rM.ec, upd_same, (fun z e => by cases e; exact ⟨_, hd1⟩), .own CN, Z.kMN, _, rfl, ?_⟩⟩
      refine ⟨_, rfl, .inl ⟨a, CM, some dd, .ref CM, .ref CM, true, rfl, Z.rM.ec, upd_same, (fun z e => by cases e; exact ⟨_, hd1⟩), .own CM, Z.kMM, _, rfl, ?_⟩⟩
      refine ⟨_, rfl, a, CM, dd, _, _, rfl, Z.rM.xf, Z.rM.no, upd_same, hd1, rfl, (by show 2 ≤ sizeLine; decide), fun p hp => ?_⟩
      exact k p _ ((same_new ha).trans (same_new hp)) upd_same
end
end K03
/-! What a reader of errors told, call by call, in a list that grows; things that stay meanwhile. -/
namespace OB
open PySem PySem.Spec PyProof.Rows L2 LamX
/-- a list that begins with a reference, or a table: what may change -/
def refL : HO → Bool
  | .lst (.ref _ :: _) => true
  | .tbl _ => true
  | _ => false
def Keep (H H' : Hp) : Prop := ∀ q o, H q = some o → refL o = false → H' q = some o
section
variable {H H' H1 H2 : Hp}
theorem Keep.refl : Keep H H := fun _ _ h _ => h
theorem Keep.trans (a : Keep H H1) (b : Keep H1 H2) : Keep H H2 := fun q o h n => b q o (a q o h n) n
theorem Keep.ext (e : ExtN H H') : Keep H H' := fun q o h n => e q o h fun ps z => by
  subst z
  cases n
theorem Keep.same (s : Same H H') : Keep H H' := fun q o h _ => s q o h
theorem Keep.but {p : Addr} (b : But p H H') (hp : ∃ x r, H p = some (.lst (.ref x :: r))) : Keep H H' := fun q o h n => b q o h fun z => by
  obtain ⟨x, r, hp⟩ := hp
  rw [z, hp] at h
  cases h
  cases n
theorem orch_ref {p b : Addr} {n : Nat} (o : Orch H p b n) : ∃ x r, H p = some (.lst (.ref x :: r)) := by
  obtain ⟨ns, t, l, h1, _⟩ := o
  exact ⟨_, _, h1⟩
theorem orch_extN {p b : Addr} {n : Nat} (o : Orch H p b n) (e : ExtN H H') : Orch H' p b n := by
  obtain ⟨ns, t, l, h1, h2, h3⟩ := o
  exact ⟨ns, t, l, e _ _ h1 (fun _ z => nomatch z), e _ _ h2 (fun _ z => nomatch z), h3⟩
theorem tabs_butN {T : List (Addr × Str)} {p : Addr} {xs : List V} (t : Tabs T H) (b : But p H H') (hp : H p = some (.lst xs)) : Tabs T H' := fun x hx => by
  obtain ⟨ps, h1, h2, h3⟩ := t x hx
  have n1 : x.1 ≠ p := fun z => by
    rw [z, hp] at h1
    cases h1
  refine ⟨ps, b _ _ h1 n1, h2, fun pos cv hc => ?_⟩
  obtain ⟨c, e1, e2⟩ := h3 pos cv hc
  have n2 : c ≠ p := fun z => by
    rw [z, hp] at e2
    have e2 := Option.some.inj e2
    cases e2
  exact ⟨c, e1, b _ _ e2 n2⟩
theorem tabs_orchN {T : List (Addr × Str)} {p b : Addr} {n : Nat} (t : Tabs T H) (B : But p H H') (o : Orch H p b n) : Tabs T H' := by
  obtain ⟨ns, x, y, hp, _⟩ := o
  exact tabs_butN t B hp
/-- things that stay -/
def Fix (A : List (Addr × HO)) (H : Hp) : Prop := ∀ a ∈ A, H a.1 = some a.2 ∧ refL a.2 = false
theorem Fix.nil : Fix [] H := fun a h => absurd h List.not_mem_nil
theorem Fix.cons {A : List (Addr × HO)} {a : Addr} {o : HO} (h : H a = some o) (n : refL o = false) (f : Fix A H) : Fix ((a, o) :: A) H := fun x hx => by
  rcases List.mem_cons.mp hx with e | e
  · rw [e]
    exact ⟨h, n⟩
  · exact f x e
theorem Fix.keep {A : List (Addr × HO)} (f : Fix A H) (k : Keep H H') : Fix A H' := fun a ha => ⟨k _ _ (f a ha).1 (f a ha).2, (f a ha).2⟩
theorem Fix.get {A : List (Addr × HO)} (f : Fix A H) {a : Addr} {o : HO} (h : (a, o) ∈ A) : H a = some o := (f _ h).1
theorem Fix.app {A B : List (Addr × HO)} (f : Fix A H) (g : Fix B H) : Fix (A ++ B) H := fun a ha => by
  rcases List.mem_append.mp ha with e | e
  · exact f a e
  · exact g a e
/-- what the reader told: a kind and a part, or None -/
def Ent (H : Hp) (v : V) : Option (Str × Str) → Prop
  | none => v = .non
  | some k => ∃ t, v = .ref t ∧ H t = some (.tup [.str k.1, .str k.2])
def Res (H : Hp) : List V → List (Option (Str × Str)) → Prop
  | [], [] => True
  | v :: r, k :: ks => Ent H v k ∧ Res H r ks
  | _, _ => False
theorem Ent.keep {v : V} {k : Option (Str × Str)} (e : Ent H v k) (q : Keep H H') : Ent H' v k := by
  cases k with
  | none => exact e
  | some k =>
    obtain ⟨t, rfl, h⟩ := e
    exact ⟨t, rfl, q _ _ h rfl⟩
theorem Res.keep (q : Keep H H') : ∀ {vs : List V} {ks : List (Option (Str × Str))}, Res H vs ks → Res H' vs ks
  | [], [], _ => trivial
  | _ :: _, _ :: _, ⟨a, b⟩ => ⟨a.keep q, Res.keep q b⟩
theorem Res.snoc {v : V} {k : Option (Str × Str)} (e : Ent H v k) : ∀ {vs : List V} {ks : List (Option (Str × Str))}, Res H vs ks → Res H (vs ++ [v]) (ks ++ [k])
  | [], [], _ => ⟨e, trivial⟩
  | _ :: _, _ :: _, ⟨a, b⟩ => ⟨a, Res.snoc e b⟩
theorem Res.length : ∀ {vs : List V} {ks : List (Option (Str × Str))}, Res H vs ks → vs.length = ks.length
  | [], [], _ => rfl
  | _ :: _, _ :: _, ⟨_, b⟩ => congrArg (· + 1) (Res.length b)
def entD : Option (Str × Str) → PyData
  | none => .none
  | some k => .tuple [.str k.1, .str k.2]
theorem Ent.dp {K : PySem.W.Frag} {v : V} {k : Option (Str × Str)} (e : Ent H v k) : Dp K H v (entD k) := by
  cases k with
  | none =>
    have e : v = .non := e
    rw [e]
    exact .non
  | some k =>
    obtain ⟨t, rfl, h⟩ := e
    exact Dp.tup (SqT.of h) (.cons (.str _) (.cons (.str _) .nil))
theorem Res.dp {K : PySem.W.Frag} : ∀ {vs : List V} {ks : List (Option (Str × Str))}, Res H vs ks → DpAll K H vs (ks.map entD)
  | [], [], _ => .nil
  | _ :: _, _ :: _, ⟨a, b⟩ => .cons a.dp (Res.dp b)
/-- between two calls of the reader -/
structure St (T : List (Addr × Str)) (p b h : Addr) (A : List (Addr × HO)) (n : Nat) (H : Hp) (vs : List V) (ks : List (Option (Str × Str))) : Prop where
  tabs : Tabs T H
  orch : Orch H p b n
  at' : H h = some (.lst vs)
  hp : h ≠ p
  hb : h ≠ b
  fix : Fix A H
  res : Res H vs ks
  first : ∃ x r, vs = .ref x :: r
variable {T : List (Addr × Str)} {p b h : Addr} {A : List (Addr × HO)} {n m : Nat} {vs : List V} {ks : List (Option (Str × Str))}
theorem St.ext (s : St T p b h A n H vs ks) (e : ExtN H H') (t : Tabs T H') : St T p b h A n H' vs ks :=
  ⟨t, orch_extN s.orch e, e _ _ s.at' (fun _ z => nomatch z), s.hp, s.hb, s.fix.keep (.ext e), s.res.keep (.ext e), s.first⟩
theorem St.but (s : St T p b h A n H vs ks) (B : But p H H') (O : Orch H' p b m) : St T p b h A m H' vs ks :=
  ⟨tabs_orchN s.tabs B s.orch, O, B _ _ s.at' s.hp, s.hp, s.hb, s.fix.keep (.but B (orch_ref s.orch)), s.res.keep (.but B (orch_ref s.orch)), s.first⟩
theorem St.add {v : V} {k : Option (Str × Str)} (s : St T p b h A n H vs ks) (e : Ent H v k) : St T p b h A n (upd H h (.lst (vs ++ [v]))) (vs ++ [v]) (ks ++ [k]) := by
  obtain ⟨x, r, ev⟩ := s.first
  have B : But h H (upd H h (.lst (vs ++ [v]))) := but_at
  have kp : Keep H (upd H h (.lst (vs ++ [v]))) := .but B ⟨x, r, by rw [s.at', ev]⟩
  refine ⟨tabs_butN s.tabs B s.at', s.orch.keep (fun u hu => B _ _ hu (fun z => s.hp z.symm)) (fun u hu => B _ _ hu (fun z => s.hb z.symm)), upd_same, s.hp, s.hb, s.fix.keep kp, (s.res.keep kp).snoc (e.keep kp), x, r ++ [v], by rw [ev]; rfl⟩
theorem St.begin {t h : Addr} {k : Str × Str} (hT : Tabs T H) (O : Orch H p b n) (F : Fix A H) (e : Ent H (.ref t) (some k)) (hh : H h = none) : St T p b h A n (upd H h (.lst [.ref t])) [.ref t] [some k] := by
  have S := same_new (o := .lst [.ref t]) hh
  obtain ⟨u, hu⟩ := O.pn
  obtain ⟨u2, hu2⟩ := O.bn
  exact ⟨hT.ext S, O.same S, upd_same, (ne_of_none hu hh).symm, (ne_of_none hu2 hh).symm, F.keep (.same S), ⟨e.keep (.same S), trivial⟩, t, [], rfl⟩
end
end OB
namespace K03
open PySem PySem.Spec PyProof.Rows L2 OB SkE LamX
def LQ : Str := (envOfC "_law_refused_right" (defScope s__law_refused_right) 0 0 .none).qual ++ "<lambda>"
def spDiffE (K : PySem.W.Frag) (CW : Addr) : Sp := fun vs H Q E => ∃ x y : V, vs = [x, y] ∧ ((Bad K H x (some 0) none ∧ RaisesP CW "one" E H) ∨ ∃ n : Nat, x = .int (n : Int) ∧
  ((Bad K H y (some 0) none ∧ RaisesP CW "other" E H) ∨ ∃ m : Nat, y = .int (m : Int) ∧ n ^^^ m < 2 ^ 20001 ∧ ∀ (q : Addr) (H' : Hp), Same H H' → H' q = some (.tup (bitsV (n ^^^ m))) → Q (.ref q) H'))
section
variable {P : Program} {w : World} {K : PySem.W.Frag} {mg : Str → Option Value} {base : Heap}
theorem ok_differingE {f f1 f3 C : Addr} {fd fd1 fd3 : FuncData} (F : Fun K "differing" "differing" s_differing f fd) (T : Blt mg) (D_need_word : Df K mg "need_word" s_need_word ["value", "part"] f3 fd3) (D__bits_of : Df K mg "_bits_of" s__bits_of ["word"] f1 fd1)
    (G_need_word : FnOk P w K mg base (L2.CX P w) 4 f3 fd3 ["value", "part"] (spNeedWord K C)) : FnOk P w K mg base (L2.CX P w) 5 f fd ["one", "other"] (spDiffE K C) := by
  have G__bits_of : FnOk P w K mg base CX0 1 f1 fd1 ["word"] spBits := ok__bits_of D__bits_of.F T
  refine F.okX sc_differing (fun vs H Q E h => ?_) (fun cdv A outer s H vs Q E hr h => ?_)
  · obtain ⟨n, m, rfl, _⟩ := h
    rfl
  · obtain ⟨x, y, rfl, h⟩ := h
    refine ⟨_, (pss_cons (ps_expr (pe_callS G_need_word (hr.mono (by decide)) (by rfl) D_need_word.g D_need_word.F.kp D_need_word.b (fun σ => passAt (takes_of rfl rfl rfl rfl) σ) (pa_cons (pv 0) (pa_cons pe_str pa_nil))))
  (pss_cons (ps_expr (pe_callS G_need_word (hr.mono (by decide)) (by rfl) D_need_word.g D_need_word.F.kp D_need_word.b (fun σ => passAt (takes_of rfl rfl rfl rfl) σ) (pa_cons (pv 1) (pa_cons pe_str pa_nil))))
  (pss_one (ps_ret (pe_call G__bits_of (hr.mono (by decide)) (by rfl) D__bits_of.g D__bits_of.F.kp D__bits_of.b .nil pass0 (pa_cons (pe_op op_xor (pv 0) (pv 1)) pa_nil)))))), ?_⟩
    rcases h with ⟨⟨b, hI, hb⟩, kx⟩ | ⟨n, rfl, h⟩
    · exact ⟨_, rfl, _, "one", b, rfl, hI, fun z => yes_no z hb, fun _ => kx⟩
    refine ⟨_, rfl, _, "one", true, rfl, isI_int _, fun _ => ?_, fun z => no_nat z⟩
    rcases h with ⟨⟨b, hI, hb⟩, kx⟩ | ⟨m, rfl, hn, k⟩
    · exact ⟨_, rfl, _, "other", b, rfl, hI, fun z => yes_no z hb, fun _ => kx⟩
    refine ⟨_, rfl, _, "other", true, rfl, isI_int _, fun _ => ?_, fun z => no_nat z⟩
    refine ⟨_, rfl, _, rfl, _, _, rfl, rfl, n ^^^ m, ?_, hn, k⟩
    show [V.int (Builtin.bitXor (n : Int) (m : Int))] = _
    rw [xor_nat]
end
section
variable {K : PySem.W.Frag} {CW CB CN CM : Addr} {vs : List V} {H : Hp} {Q1 Q2 : VK} {E1 E2 : XK}
theorem f_mono (hE : ∀ c d H, E1 c d H → E2 c d H) (hQ : ∀ v H, Q1 v H → Q2 v H) (h : spFlipped K CW CB vs H Q1 E1) : spFlipped K CW CB vs H Q2 E2 := by
  obtain ⟨x, y, e, h⟩ := h
  refine ⟨x, y, e, ?_⟩
  rcases h with ⟨hb, r⟩ | ⟨n, e1, h⟩
  · exact .inl ⟨hb, fun d hd => hE _ _ _ (r d hd)⟩
  refine .inr ⟨n, e1, ?_⟩
  rcases h with ⟨hb, r⟩ | ⟨ns, h1, q⟩
  · exact .inl ⟨hb, fun H' S d hd => hE _ _ _ (r H' S d hd)⟩
  · exact .inr ⟨ns, h1, fun H' S => hQ _ _ (q H' S)⟩
theorem d_mono (hE : ∀ c d H, E1 c d H → E2 c d H) (hQ : ∀ v H, Q1 v H → Q2 v H) (h : spDiffE K CW vs H Q1 E1) : spDiffE K CW vs H Q2 E2 := by
  obtain ⟨x, y, e, h⟩ := h
  refine ⟨x, y, e, ?_⟩
  rcases h with ⟨hb, r⟩ | ⟨n, e1, h⟩
  · exact .inl ⟨hb, fun d hd => hE _ _ _ (r d hd)⟩
  refine .inr ⟨n, e1, ?_⟩
  rcases h with ⟨hb, r⟩ | ⟨m, e2, h1, q⟩
  · exact .inl ⟨hb, fun d hd => hE _ _ _ (r d hd)⟩
  · exact .inr ⟨m, e2, h1, fun a H' S e => hQ _ _ (q a H' S e)⟩
theorem n_mono (hE : ∀ c d H, E1 c d H → E2 c d H) (hQ : ∀ v H, Q1 v H → Q2 v H) (h : spNear K CW CN CM vs H Q1 E1) : spNear K CW CN CM vs H Q2 E2 := by
  obtain ⟨x, y, e, h⟩ := h
  refine ⟨x, y, e, ?_⟩
  rcases h with ⟨hb, r⟩ | ⟨n, e1, h⟩
  · exact .inl ⟨hb, fun d hd => hE _ _ _ (r d hd)⟩
  refine .inr ⟨n, e1, ?_⟩
  rcases h with ⟨hb, r⟩ | ⟨k, e2, k1, k4, h⟩
  · exact .inl ⟨hb, fun d hd => hE _ _ _ (r d hd)⟩
  refine .inr ⟨k, e2, k1, k4, ?_⟩
  rcases h with ⟨hb, r⟩ | ⟨h1, q⟩
  · exact .inl ⟨hb, fun d hd => hE _ _ _ (r d hd)⟩
  · exact .inr ⟨h1, fun a H' S e => hQ _ _ (q a H' S e)⟩
theorem mono_f (i j : Nat) : ∀ σ : L2.St, MonoL fun E H' Q' => (tCallS (spFlipped K CW CB) (WE fun cls d _ H => E cls d H) (tCons (tVar i) (tCons (tVar j) tNil))) σ H' Q' := by
  rintro σ E1 E2 H Q1 Q2 hE hQ ⟨v, e, v2, e2, h⟩
  exact ⟨v, e, v2, e2, f_mono (fun c d H => hE c d H) (fun v H => hQ v H) h⟩
theorem mono_fc (c : Int) (j : Nat) : ∀ σ : L2.St, MonoL fun E H' Q' => (tCallS (spFlipped K CW CB) (WE fun cls d _ H => E cls d H) (tCons (tC (V.int c)) (tCons (tVar j) tNil))) σ H' Q' := by
  rintro σ E1 E2 H Q1 Q2 hE hQ ⟨v2, e2, h⟩
  exact ⟨v2, e2, f_mono (fun c d H => hE c d H) (fun v H => hQ v H) h⟩
theorem mono_f9 : ∀ σ : L2.St, MonoL fun E H' Q' => (tCallS (spFlipped K CW CB) (WE fun cls d _ H => E cls d H) (tCons (tC (V.int 0)) (tCons (tLst (tCons (tC (V.int 0)) tNil)) tNil))) σ H' Q' := by
  rintro σ E1 E2 H Q1 Q2 hE hQ ⟨h1, h⟩
  exact ⟨h1, fun l hl => f_mono (fun c d H => hE c d H) (fun v H => hQ v H) (h l hl)⟩
theorem mono_d (i j : Nat) : ∀ σ : L2.St, MonoL fun E H' Q' => (tCallS (spDiffE K CW) (WE fun cls d _ H => E cls d H) (tCons (tVar i) (tCons (tVar j) tNil))) σ H' Q' := by
  rintro σ E1 E2 H Q1 Q2 hE hQ ⟨v, e, v2, e2, h⟩
  exact ⟨v, e, v2, e2, d_mono (fun c d H => hE c d H) (fun v H => hQ v H) h⟩
theorem mono_dc (c : Int) (j : Nat) : ∀ σ : L2.St, MonoL fun E H' Q' => (tCallS (spDiffE K CW) (WE fun cls d _ H => E cls d H) (tCons (tC (V.int c)) (tCons (tVar j) tNil))) σ H' Q' := by
  rintro σ E1 E2 H Q1 Q2 hE hQ ⟨v2, e2, h⟩
  exact ⟨v2, e2, d_mono (fun c d H => hE c d H) (fun v H => hQ v H) h⟩
theorem mono_n (i j : Nat) : ∀ σ : L2.St, MonoL fun E H' Q' => (tCallS (spNear K CW CN CM) (WE fun cls d _ H => E cls d H) (tCons (tVar i) (tCons (tVar j) tNil))) σ H' Q' := by
  rintro σ E1 E2 H Q1 Q2 hE hQ ⟨v, e, v2, e2, h⟩
  exact ⟨v, e, v2, e2, n_mono (fun c d H => hE c d H) (fun v H => hQ v H) h⟩
theorem mono_nc (c : Int) (j : Nat) : ∀ σ : L2.St, MonoL fun E H' Q' => (tCallS (spNear K CW CN CM) (WE fun cls d _ H => E cls d H) (tCons (tC (V.int c)) (tCons (tVar j) tNil))) σ H' Q' := by
  rintro σ E1 E2 H Q1 Q2 hE hQ ⟨v2, e2, h⟩
  exact ⟨v2, e2, n_mono (fun c d H => hE c d H) (fun v H => hQ v H) h⟩
abbrev tOne (i : Nat) : TE := tOp (fun x y H Q => ∃ k : Nat, x = V.int 1 ∧ y = V.int (k : Int) ∧ k ≤ 1000000 ∧ Q (V.int ((2 ^ k : Nat) : Int)) H) (tC (V.int 1)) (tVar i)
theorem mono_n7 : ∀ σ : L2.St, MonoL fun E H' Q' => (tCallS (spNear K CW CN CM) (WE fun cls d _ H => E cls d H) (tCons (tOp (rI0 fun i j => V.int (i + j)) (tOne 4) (tCall spDraw [] E0 (tCons (tVar 0) (tCons (tC (V.int 3)) tNil)))) (tCons (tVar 4) tNil))) σ H' Q' := by
  rintro σ E1 E2 H Q1 Q2 hE hQ ⟨v4, e4, k, ex, ey, hk, v0, e0, p, b, n, many, hvs, O, hn, h0, hm, hd⟩
  refine ⟨v4, e4, k, ex, ey, hk, v0, e0, p, b, n, many, hvs, O, hn, h0, hm, fun r H' a1 a2 a3 a4 => ?_⟩
  obtain ⟨i, j, ei, ej, v5, e5, h⟩ := hd r H' a1 a2 a3 a4
  exact ⟨i, j, ei, ej, v5, e5, n_mono (fun c d H => hE c d H) (fun v H => hQ v H) h⟩
theorem mono_n8 : ∀ σ : L2.St, MonoL fun E H' Q' => (tCallS (spNear K CW CN CM) (WE fun cls d _ H => E cls d H) (tCons (tOp (rI0 fun i j => V.int (i - j)) (tOne 4) (tC (V.int 1))) (tCons (tVar 4) tNil))) σ H' Q' := by
  rintro σ E1 E2 H Q1 Q2 hE hQ ⟨v4, e4, k, ex, ey, hk, i, j, ei, ej, v5, e5, h⟩
  exact ⟨v4, e4, k, ex, ey, hk, i, j, ei, ej, v5, e5, n_mono (fun c d H => hE c d H) (fun v H => hQ v H) h⟩
end
end K03
namespace K03
open PySem PySem.Spec PyProof.Rows L2 OB SkE LamX
/-- it raises this, whatever is laid anew -/
def noneOf (K : PySem.W.Frag) (A : List (Addr × HO)) (lo hi : Option Int) (x : V) : Prop := ∀ H, Fix A H → Bad K H x lo hi
def noLot (K : PySem.W.Frag) (A : List (Addr × HO)) (x : V) : Prop := ∀ H, Fix A H → NoLot K H x (some 0) (some 20000)
theorem lot_out {K : PySem.W.Frag} {H : Hp} {a : Addr} {xs : List V} (h : H a = some (.lst xs)) (hl : xs.length ≤ 900) (i : Nat) {x : V} (hx : xs = [x]) (hb : ∃ c, EvI K H x c ∧ (c && inB (some 0) (some 20000) x) = false) : NoLot K H (.ref a) (some 0) (some 20000) := by
  subst hx
  obtain ⟨c, hI, hc⟩ := hb
  refine .inr ⟨a, [x], [false], rfl, .inl (SqL.of h), hl, fun H' S => isL_lst (S _ _ h), rfl, fun i v b hv hb => ?_, fun z => by simp at z⟩
  match i, hv, hb with
  | 0, e, e2 => cases e; cases e2; exact ⟨c, hI, hc.symm⟩
theorem lot_out_t {K : PySem.W.Frag} {H : Hp} {a : Addr} {x : V} (h : H a = some (.tup [x])) (hb : ∃ c, EvI K H x c ∧ (c && inB (some 0) (some 20000) x) = false) : NoLot K H (.ref a) (some 0) (some 20000) := by
  obtain ⟨c, hI, hc⟩ := hb
  refine .inr ⟨a, [x], [false], rfl, .inr (SqT.of h), (by show 1 ≤ 900; decide), fun H' S => isL_tup (S _ _ h), rfl, fun i v b hv hb => ?_, fun z => by simp at z⟩
  match i, hv, hb with
  | 0, e, e2 => cases e; cases e2; exact ⟨c, hI, hc.symm⟩
theorem lot_twice {K : PySem.W.Frag} {H : Hp} {a : Addr} {ns : List Int} (h : H a = some (.lst (ns.map V.int))) (hl : ns.length ≤ 900) (hin : ∀ n ∈ ns, inB (some 0) (some 20000) (.int n) = true) (hd : ¬ ns.Nodup) : NoLot K H (.ref a) (some 0) (some 20000) := by
  refine .inr ⟨a, ns.map V.int, ns.map fun _ => true, rfl, .inl (SqL.of h), by rw [List.length_map]; exact hl, fun H' S => isL_lst (S _ _ h), by rw [List.length_map, List.length_map], fun i v b hv hb => ?_, fun _ => ⟨ns, rfl, hd⟩⟩
  rw [List.getElem?_map] at hv hb
  cases e : ns[i]? with
  | none => rw [e] at hv; cases hv
  | some n =>
    rw [e] at hv hb
    cases hv
    cases hb
    exact ⟨true, fun H' _ => isI_int n, by rw [hin n (List.mem_of_getElem? e)]; rfl⟩
theorem res_new {H : Hp} {q : Addr} {a b : Str} {vs : List V} {ks : List (Option (Str × Str))} (h : H q = none) (r : Res H vs ks) : Res (upd H q (.tup [.str a, .str b])) (vs ++ [.ref q]) (ks ++ [some (a, b)]) :=
  Res.snoc (k := some (a, b)) ⟨q, rfl, upd_same⟩ (r.keep (.same (same_new h)))
theorem res_non {H : Hp} {vs : List V} {ks : List (Option (Str × Str))} (r : Res H vs ks) : Res H (vs ++ [.non]) (ks ++ [none]) := Res.snoc (v := .non) (k := none) rfl r
def dueK : List (Option (Str × Str)) := [some ("word", "word"), some ("bits", "bits"), some ("word", "one"), some ("word", "other"), some ("word", "word"), some ("number", "many"), some ("misfit", "word"), none, none]
def spRefused (Pt : Addr) : Sp := fun vs H Q _ => ∃ (p b : Addr) (n : Nat), vs = [.ref p] ∧ Orch H p b n ∧ n + 40 < 1000000 ∧ Tabs [(Pt, LQ)] H ∧ ∀ H' : Hp, Q (.bl true) H'
section
variable {P : Program} {w : World} {K : PySem.W.Frag} {mg : Str → Option Value} {base : Heap}
abbrev N__law_refused_right : List Str := ["kennel", "none", "odd", "few", "many", "heard", "due"]
theorem sc__law_refused_right : FnScope ["kennel", "none", "odd", "few", "many", "heard", "due"] ["kennel"] (defScope s__law_refused_right) := ⟨rfl, rfl, rfl, by decide +kernel, rfl, by decide +kernel, by decide +kernel⟩
theorem ok__law_refused_right {f f1 f2 f3 f4 f5 f6 CF CW CB CN CM c Pt : Addr} {fd1 fd2 fd3 fd4 fd5 fd6 : FuncData} {oc kV doc pm ct : Value} {od an : Option Addr} {osl : Array (Option Value)} (T : Blt mg)
    (lk : K.lookup f = some ⟨oc, od, .func (PySem.W.fnOf "_law_refused_right" "_law_refused_right" (defArgs s__law_refused_right) (defBody s__law_refused_right) (defScope s__law_refused_right) .none kV doc pm an (.ref c) ct), osl⟩) (hcd : PySem.W.codeIn K (.ref c) "_law_refused_right" = true)
    (TB : TabB base mg c Pt) (Z : Kinds K mg CF CW CB CN CM)
    (D__law_bark : Df K mg "_law_bark" s__law_bark ["kennel", "many"] f1 fd1) (D__law_one : Df K mg "_law_one" s__law_one ["kennel", "some"] f2 fd2)
    (D__law_heard : Df K mg "_law_heard" s__law_heard ["ask"] f3 fd3)
    (D_flipped : Df K mg "flipped" s_flipped ["word", "bits"] f4 fd4) (GX_flipped : FnOk P w K mg base (L2.CX P w) 8 f4 fd4 ["word", "bits"] (spFlipped K CW CB))
    (D_differing : Df K mg "differing" s_differing ["one", "other"] f5 fd5) (GX_differing : FnOk P w K mg base (L2.CX P w) 5 f5 fd5 ["one", "other"] (spDiffE K CW))
    (D_neighbours_of : Df K mg "neighbours_of" s_neighbours_of ["word", "many"] f6 fd6) (GX_neighbours_of : FnOk P w K mg base (L2.CX P w) 7 f6 fd6 ["word", "many"] (spNear K CW CN CM)) :
    FnOk P w K mg base CX0 14 f (PySem.W.fnOf "_law_refused_right" "_law_refused_right" (defArgs s__law_refused_right) (defBody s__law_refused_right) (defScope s__law_refused_right) .none kV doc pm an (.ref c) ct) ["kennel"] (spRefused Pt) := by
  have G__law_bark : FnOk P w K mg base CX0 1 f1 fd1 ["kennel", "many"] spDraw := ok__law_bark D__law_bark.F T
  have G__law_one : FnOk P w K mg base CX0 2 f2 fd2 ["kennel", "some"] spOne := ok__law_one D__law_one.F T D__law_bark
  obtain ⟨ocH, odH, kVH, docH, pmH, anH, cdvH, ctH, oslH, eH, lkH, hcH⟩ := D__law_heard.F.ex
  subst eH
  have bind0 : ∀ {pr : Arguments}, (∀ (q : Str) (body : Expr) (scope : Scope) (cl : List (Str × Addr)) (pm cv ctv : Value), bindArgs (lFn q pr body scope cl .none pm cv ctv) ⟨[], []⟩ = pure []) → ∀ ds : List Value, Vals (([] : List Int).map V.int) ds → LamB pr [] ds := fun h ds rd => by
    cases rd
    exact lamB0 h
  refine fn_of lk hcd sc__law_refused_right (fun vs H Q E h => ?_) fun A outer s H vs Q E hr h => ?_
  · obtain ⟨p, b, n, rfl, _⟩ := h
    rfl
  · obtain ⟨p, b, n, rfl, O, hn, TA, q⟩ := h
    have t0 : ∃ t, PSs (cxOf CX0 P w K mg base ["kennel", "none", "odd", "few", "many", "heard", "due"] "_law_refused_right" (defScope s__law_refused_right) f (.ref c) A outer s H E).nox (defBody s__law_refused_right) t ∧ t { nx := fun _ H' => Q .non H', rt := Q } (L2.start ["kennel", "none", "odd", "few", "many", "heard", "due"] [.ref p]) H := by
      refine ⟨_, (pss_cons (ps_set (i := 1) sc__law_refused_right.nd rfl (Or.inr rfl) (pe_call G__law_one (hr.mono (by decide)) (by rfl) D__law_one.g D__law_one.F.kp D__law_one.b .nil pass0 (pa_cons (pv 0) (pa_cons (pe_lst (pa_cons pe_non (pa_cons (pe_un un_neg pe_int) (pa_cons pe_bl (pa_cons pe_str (pa_cons (pe_lst (pa_cons pe_int pa_nil)) (pa_cons (pe_tup pa_nil) (pa_cons (pe_un un_neg (pe_op op_pow pe_int pe_int)) (pa_cons pe_dnewK pa_nil))))))))) pa_nil))))
  (pss_cons (ps_set (i := 2) sc__law_refused_right.nd rfl (Or.inr rfl) (pe_call G__law_one (hr.mono (by decide)) (by rfl) D__law_one.g D__law_one.F.kp D__law_one.b .nil pass0 (pa_cons (pv 0) (pa_cons (pe_lst (pa_cons pe_non (pa_cons pe_int (pa_cons pe_str (pa_cons (pe_lst (pa_cons pe_int (pa_cons pe_int pa_nil))) (pa_cons (pe_lst (pa_cons pe_bl pa_nil)) (pa_cons (pe_lst (pa_cons pe_int pa_nil)) (pa_cons (pe_lst (pa_cons (pe_un un_neg pe_int) pa_nil)) (pa_cons (pe_lst (pa_cons pe_non pa_nil)) (pa_cons pe_dnewK (pa_cons (pe_lst (pa_cons pe_int (pa_cons pe_int (pa_cons pe_int pa_nil)))) (pa_cons (pe_tup (pa_cons (pe_tup (pa_cons pe_int (pa_cons pe_int pa_nil))) pa_nil)) pa_nil)))))))))))) pa_nil))))
  (pss_cons (ps_set (i := 3) sc__law_refused_right.nd rfl (Or.inr rfl) (pe_call G__law_one (hr.mono (by decide)) (by rfl) D__law_one.g D__law_one.F.kp D__law_one.b .nil pass0 (pa_cons (pv 0) (pa_cons (pe_lst (pa_cons pe_int (pa_cons pe_int (pa_cons pe_non (pa_cons pe_bl (pa_cons pe_str (pa_cons (pe_lst (pa_cons pe_int pa_nil)) (pa_cons (pe_un un_neg pe_int) (pa_cons (pe_op op_pow pe_int pe_int) pa_nil))))))))) pa_nil))))
  (pss_cons (ps_set (i := 4) sc__law_refused_right.nd rfl (Or.inr rfl) (pe_op op_add pe_int (pe_call G__law_bark (hr.mono (by decide)) (by rfl) D__law_bark.g D__law_bark.F.kp D__law_bark.b .nil pass0 (pa_cons (pv 0) (pa_cons pe_int pa_nil)))))
  (pss_cons (ps_set (i := 5) sc__law_refused_right.nd rfl (Or.inl rfl) (pe_lst (pa_cons (pe_lam (T := [(Pt, LQ)]) (vs := []) (TT := TTheard CW CB CN CM) (k := 9) (nm := []) (dts := []) (t := fun E => tCallS (spFlipped K CW CB) (WE fun cls d _ H => E cls d H) (tCons (tVar 1) (tCons (tVar 2) tNil))) (by rfl) D__law_heard.g D__law_heard.F.kp lkH hcH D__law_heard.b sc__law_heard rfl (Or.inl rfl) (heard_gives Z T) TB rfl List.mem_cons_self (fun p hp _ => congrArg Prod.snd (List.mem_singleton.mp hp)) (hr.mono (by decide)) (lamN_by (sc := defScope s__law_refused_right) (N := N__law_refused_right) (by decide +kernel)) (.inl ⟨rfl, rfl⟩) (bind0 fun _ _ _ _ _ _ _ => rfl) (mono_f 1 2) pa_nil (fun _ _ _ => rfl) rfl (fun A outer s H E f c' hr2 => pe_callS GX_flipped (hr2.mono (by decide)) (by rfl) D_flipped.g D_flipped.F.kp D_flipped.b (fun σ => passAt (takes_of rfl rfl rfl rfl) σ) (pa_cons (pv 1) (pa_cons (pv 2) pa_nil)))) pa_nil)))
  (pss_cons (ps_expr (pe_bm PySem.F.plainAttrs_list PySem.F.slot_list_append PySem.F.type_list_append mt_append (pv 5) (pa_cons (pe_lam (T := [(Pt, LQ)]) (vs := []) (TT := TTheard CW CB CN CM) (k := 9) (nm := []) (dts := []) (t := fun E => tCallS (spFlipped K CW CB) (WE fun cls d _ H => E cls d H) (tCons (tC (V.int 5)) (tCons (tVar 2) tNil))) (by rfl) D__law_heard.g D__law_heard.F.kp lkH hcH D__law_heard.b sc__law_heard rfl (Or.inl rfl) (heard_gives Z T) TB rfl List.mem_cons_self (fun p hp _ => congrArg Prod.snd (List.mem_singleton.mp hp)) (hr.mono (by decide)) (lamN_by (sc := defScope s__law_refused_right) (N := N__law_refused_right) (by decide +kernel)) (.inl ⟨rfl, rfl⟩) (bind0 fun _ _ _ _ _ _ _ => rfl) (mono_fc 5 2) pa_nil (fun _ _ _ => rfl) rfl (fun A outer s H E f c' hr2 => pe_callS GX_flipped (hr2.mono (by decide)) (by rfl) D_flipped.g D_flipped.F.kp D_flipped.b (fun σ => passAt (takes_of rfl rfl rfl rfl) σ) (pa_cons pe_int (pa_cons (pv 2) pa_nil)))) pa_nil)))
  (pss_cons (ps_expr (pe_bm PySem.F.plainAttrs_list PySem.F.slot_list_append PySem.F.type_list_append mt_append (pv 5) (pa_cons (pe_lam (T := [(Pt, LQ)]) (vs := []) (TT := TTheard CW CB CN CM) (k := 9) (nm := []) (dts := []) (t := fun E => tCallS (spDiffE K CW) (WE fun cls d _ H => E cls d H) (tCons (tVar 1) (tCons (tVar 1) tNil))) (by rfl) D__law_heard.g D__law_heard.F.kp lkH hcH D__law_heard.b sc__law_heard rfl (Or.inl rfl) (heard_gives Z T) TB rfl List.mem_cons_self (fun p hp _ => congrArg Prod.snd (List.mem_singleton.mp hp)) (hr.mono (by decide)) (lamN_by (sc := defScope s__law_refused_right) (N := N__law_refused_right) (by decide +kernel)) (.inl ⟨rfl, rfl⟩) (bind0 fun _ _ _ _ _ _ _ => rfl) (mono_d 1 1) pa_nil (fun _ _ _ => rfl) rfl (fun A outer s H E f c' hr2 => pe_callS GX_differing (hr2.mono (by decide)) (by rfl) D_differing.g D_differing.F.kp D_differing.b (fun σ => passAt (takes_of rfl rfl rfl rfl) σ) (pa_cons (pv 1) (pa_cons (pv 1) pa_nil)))) pa_nil)))
  (pss_cons (ps_expr (pe_bm PySem.F.plainAttrs_list PySem.F.slot_list_append PySem.F.type_list_append mt_append (pv 5) (pa_cons (pe_lam (T := [(Pt, LQ)]) (vs := []) (TT := TTheard CW CB CN CM) (k := 9) (nm := []) (dts := []) (t := fun E => tCallS (spDiffE K CW) (WE fun cls d _ H => E cls d H) (tCons (tC (V.int 5)) (tCons (tVar 1) tNil))) (by rfl) D__law_heard.g D__law_heard.F.kp lkH hcH D__law_heard.b sc__law_heard rfl (Or.inl rfl) (heard_gives Z T) TB rfl List.mem_cons_self (fun p hp _ => congrArg Prod.snd (List.mem_singleton.mp hp)) (hr.mono (by decide)) (lamN_by (sc := defScope s__law_refused_right) (N := N__law_refused_right) (by decide +kernel)) (.inl ⟨rfl, rfl⟩) (bind0 fun _ _ _ _ _ _ _ => rfl) (mono_dc 5 1) pa_nil (fun _ _ _ => rfl) rfl (fun A outer s H E f c' hr2 => pe_callS GX_differing (hr2.mono (by decide)) (by rfl) D_differing.g D_differing.F.kp D_differing.b (fun σ => passAt (takes_of rfl rfl rfl rfl) σ) (pa_cons pe_int (pa_cons (pv 1) pa_nil)))) pa_nil)))
  (pss_cons (ps_expr (pe_bm PySem.F.plainAttrs_list PySem.F.slot_list_append PySem.F.type_list_append mt_append (pv 5) (pa_cons (pe_lam (T := [(Pt, LQ)]) (vs := []) (TT := TTheard CW CB CN CM) (k := 9) (nm := []) (dts := []) (t := fun E => tCallS (spNear K CW CN CM) (WE fun cls d _ H => E cls d H) (tCons (tVar 1) (tCons (tVar 3) tNil))) (by rfl) D__law_heard.g D__law_heard.F.kp lkH hcH D__law_heard.b sc__law_heard rfl (Or.inl rfl) (heard_gives Z T) TB rfl List.mem_cons_self (fun p hp _ => congrArg Prod.snd (List.mem_singleton.mp hp)) (hr.mono (by decide)) (lamN_by (sc := defScope s__law_refused_right) (N := N__law_refused_right) (by decide +kernel)) (.inl ⟨rfl, rfl⟩) (bind0 fun _ _ _ _ _ _ _ => rfl) (mono_n 1 3) pa_nil (fun _ _ _ => rfl) rfl (fun A outer s H E f c' hr2 => pe_callS GX_neighbours_of (hr2.mono (by decide)) (by rfl) D_neighbours_of.g D_neighbours_of.F.kp D_neighbours_of.b (fun σ => passAt (takes_of rfl rfl rfl rfl) σ) (pa_cons (pv 1) (pa_cons (pv 3) pa_nil)))) pa_nil)))
  (pss_cons (ps_expr (pe_bm PySem.F.plainAttrs_list PySem.F.slot_list_append PySem.F.type_list_append mt_append (pv 5) (pa_cons (pe_lam (T := [(Pt, LQ)]) (vs := []) (TT := TTheard CW CB CN CM) (k := 9) (nm := []) (dts := []) (t := fun E => tCallS (spNear K CW CN CM) (WE fun cls d _ H => E cls d H) (tCons (tC (V.int 5)) (tCons (tVar 3) tNil))) (by rfl) D__law_heard.g D__law_heard.F.kp lkH hcH D__law_heard.b sc__law_heard rfl (Or.inl rfl) (heard_gives Z T) TB rfl List.mem_cons_self (fun p hp _ => congrArg Prod.snd (List.mem_singleton.mp hp)) (hr.mono (by decide)) (lamN_by (sc := defScope s__law_refused_right) (N := N__law_refused_right) (by decide +kernel)) (.inl ⟨rfl, rfl⟩) (bind0 fun _ _ _ _ _ _ _ => rfl) (mono_nc 5 3) pa_nil (fun _ _ _ => rfl) rfl (fun A outer s H E f c' hr2 => pe_callS GX_neighbours_of (hr2.mono (by decide)) (by rfl) D_neighbours_of.g D_neighbours_of.F.kp D_neighbours_of.b (fun σ => passAt (takes_of rfl rfl rfl rfl) σ) (pa_cons pe_int (pa_cons (pv 3) pa_nil)))) pa_nil)))
  (pss_cons (ps_expr (pe_bm PySem.F.plainAttrs_list PySem.F.slot_list_append PySem.F.type_list_append mt_append (pv 5) (pa_cons (pe_lam (T := [(Pt, LQ)]) (vs := []) (TT := TTheard CW CB CN CM) (k := 9) (nm := []) (dts := []) (t := fun E => tCallS (spNear K CW CN CM) (WE fun cls d _ H => E cls d H) (tCons (tOp (rI0 fun i j => V.int (i + j)) (tOne 4) (tCall spDraw [] E0 (tCons (tVar 0) (tCons (tC (V.int 3)) tNil)))) (tCons (tVar 4) tNil))) (by rfl) D__law_heard.g D__law_heard.F.kp lkH hcH D__law_heard.b sc__law_heard rfl (Or.inl rfl) (heard_gives Z T) TB rfl List.mem_cons_self (fun p hp _ => congrArg Prod.snd (List.mem_singleton.mp hp)) (hr.mono (by decide)) (lamN_by (sc := defScope s__law_refused_right) (N := N__law_refused_right) (by decide +kernel)) (.inl ⟨rfl, rfl⟩) (bind0 fun _ _ _ _ _ _ _ => rfl) mono_n7 pa_nil (fun _ _ _ => rfl) rfl (fun A outer s H E f c' hr2 => pe_callS GX_neighbours_of (hr2.mono (by decide)) (by rfl) D_neighbours_of.g D_neighbours_of.F.kp D_neighbours_of.b (fun σ => passAt (takes_of rfl rfl rfl rfl) σ) (pa_cons (pe_op op_add (pe_op op_oneN pe_int (pv 4)) (pe_call G__law_bark (hr2.mono (by decide)) (by rfl) D__law_bark.g D__law_bark.F.kp D__law_bark.b .nil pass0 (pa_cons (pv 0) (pa_cons pe_int pa_nil)))) (pa_cons (pv 4) pa_nil)))) pa_nil)))
  (pss_cons (ps_expr (pe_bm PySem.F.plainAttrs_list PySem.F.slot_list_append PySem.F.type_list_append mt_append (pv 5) (pa_cons (pe_lam (T := [(Pt, LQ)]) (vs := []) (TT := TTheard CW CB CN CM) (k := 9) (nm := []) (dts := []) (t := fun E => tCallS (spNear K CW CN CM) (WE fun cls d _ H => E cls d H) (tCons (tOp (rI0 fun i j => V.int (i - j)) (tOne 4) (tC (V.int 1))) (tCons (tVar 4) tNil))) (by rfl) D__law_heard.g D__law_heard.F.kp lkH hcH D__law_heard.b sc__law_heard rfl (Or.inl rfl) (heard_gives Z T) TB rfl List.mem_cons_self (fun p hp _ => congrArg Prod.snd (List.mem_singleton.mp hp)) (hr.mono (by decide)) (lamN_by (sc := defScope s__law_refused_right) (N := N__law_refused_right) (by decide +kernel)) (.inl ⟨rfl, rfl⟩) (bind0 fun _ _ _ _ _ _ _ => rfl) mono_n8 pa_nil (fun _ _ _ => rfl) rfl (fun A outer s H E f c' hr2 => pe_callS GX_neighbours_of (hr2.mono (by decide)) (by rfl) D_neighbours_of.g D_neighbours_of.F.kp D_neighbours_of.b (fun σ => passAt (takes_of rfl rfl rfl rfl) σ) (pa_cons (pe_op op_sub (pe_op op_oneN pe_int (pv 4)) pe_int) (pa_cons (pv 4) pa_nil)))) pa_nil)))
  (pss_cons (ps_expr (pe_bm PySem.F.plainAttrs_list PySem.F.slot_list_append PySem.F.type_list_append mt_append (pv 5) (pa_cons (pe_lam (T := [(Pt, LQ)]) (vs := []) (TT := TTheard CW CB CN CM) (k := 9) (nm := []) (dts := []) (t := fun E => tCallS (spFlipped K CW CB) (WE fun cls d _ H => E cls d H) (tCons (tC (V.int 0)) (tCons (tLst (tCons (tC (V.int 0)) tNil)) tNil))) (by rfl) D__law_heard.g D__law_heard.F.kp lkH hcH D__law_heard.b sc__law_heard rfl (Or.inl rfl) (heard_gives Z T) TB rfl List.mem_cons_self (fun p hp _ => congrArg Prod.snd (List.mem_singleton.mp hp)) (hr.mono (by decide)) (lamN_by (sc := defScope s__law_refused_right) (N := N__law_refused_right) (by decide +kernel)) (.inl ⟨rfl, rfl⟩) (bind0 fun _ _ _ _ _ _ _ => rfl) mono_f9 pa_nil (fun _ _ _ => rfl) rfl (fun A outer s H E f c' hr2 => pe_callS GX_flipped (hr2.mono (by decide)) (by rfl) D_flipped.g D_flipped.F.kp D_flipped.b (fun σ => passAt (takes_of rfl rfl rfl rfl) σ) (pa_cons pe_int (pa_cons (pe_lst (pa_cons pe_int pa_nil)) pa_nil)))) pa_nil)))
  (pss_cons (ps_set (i := 6) sc__law_refused_right.nd rfl (Or.inl rfl) (pe_lst (pa_cons (pe_tup (pa_cons pe_str (pa_cons pe_str pa_nil))) (pa_cons (pe_tup (pa_cons pe_str (pa_cons pe_str pa_nil))) (pa_cons (pe_tup (pa_cons pe_str (pa_cons pe_str pa_nil))) (pa_cons (pe_tup (pa_cons pe_str (pa_cons pe_str pa_nil))) (pa_cons (pe_tup (pa_cons pe_str (pa_cons pe_str pa_nil))) (pa_cons (pe_tup (pa_cons pe_str (pa_cons pe_str pa_nil))) pa_nil))))))))
  (pss_one (ps_ret (pe_cmpR (op_eqD hr.units) (pv 5) (pe_op op_cat (pv 6) (pe_lst (pa_cons (pe_tup (pa_cons pe_str (pa_cons pe_str pa_nil))) (pa_cons pe_non (pa_cons pe_non pa_nil))))) (nomark _)))))))))))))))))), ?_⟩
      -- none
      refine ⟨_, rfl, _, rfl, (by show 1 ≤ sizeLine; decide), fun a1 ha1 => ⟨Nat.zero_le _, fun a2 ha2 => ⟨_, _, rfl, rfl, ⟨by decide, by decide, by decide⟩, _, rfl, fun a3 ha3 => ⟨(by show 8 ≤ sizeLine; decide), fun l hl => ?_⟩⟩⟩⟩
      obtain ⟨up, hup⟩ := O.pn
      have S1 : Same H (upd H a1 (.lst [.int 1])) := same_new ha1
      have S2 := S1.trans (same_new (o := .tup []) ha2)
      have S3 := S2.trans (same_new (o := .dK []) ha3)
      have F3 : Fix [(a1, .lst [.int 1]), (a2, .tup []), (a3, .dK [])] (upd (upd (upd H a1 (.lst [.int 1])) a2 (.tup [])) a3 (.dK [])) :=
        .cons (same_new ha3 _ _ (same_new ha2 _ _ upd_same)) rfl (.cons (same_new ha3 _ _ upd_same) rfl (.cons upd_same rfl .nil))
      have Sl := same_new (o := .lst [.non, .int (-1), .bl true, .str "3", .ref a1, .ref a2, .int (-(10 ^ (30 : Int).toNat)), .ref a3]) hl
      have nl : l ≠ p := (ne_of_none (S3 _ _ hup) hl).symm
      have S4 := S3.trans Sl
      have O0 := O.same S4
      refine ⟨p, b, l, n, _, rfl, O0, by omega, upd_same, nl, by show 0 < 8; decide, by show 8 ≤ 1000; decide, fun j x H1 hj O1 B1 => ?_⟩
      have T1 := tabs_orchN (TA.ext S4) B1 O0
      have F1 := (F3.keep (.same Sl)).keep (.but B1 (orch_ref O0))
      have badN : noneOf K [(a1, .lst [.int 1]), (a2, .tup []), (a3, .dK [])] (some 0) none x := by
        intro H' e
        match j, hj with
        | 0, z => cases z; exact ⟨false, isI_non, rfl⟩
        | 1, z => cases z; exact ⟨true, isI_int _, by decide⟩
        | 2, z => cases z; exact ⟨false, isI_bl _, rfl⟩
        | 3, z => cases z; exact ⟨false, isI_str _, rfl⟩
        | 4, z => cases z; exact ⟨false, isI_lst (e.get (o := .lst [.int 1]) (by simp)), rfl⟩
        | 5, z => cases z; exact ⟨false, isI_tup (e.get (o := .tup []) (by simp)), rfl⟩
        | 6, z => cases z; exact ⟨true, isI_int _, by decide +kernel⟩
        | 7, z => cases z; exact ⟨false, isI_dK (e.get (o := .dK []) (by simp)), rfl⟩
        | j + 8, z => cases z
      clear hj
      obtain ⟨AN, F1, badN⟩ : ∃ A, Fix A H1 ∧ noneOf K A (some 0) none x := ⟨_, F1, badN⟩
      -- odd
      refine ⟨_, rfl, (by show 2 ≤ sizeLine; decide), fun c1 hc1 => ⟨(by show 1 ≤ sizeLine; decide), fun c2 hc2 => ⟨(by show 1 ≤ sizeLine; decide), fun c3 hc3 => ⟨_, rfl, (by show 1 ≤ sizeLine; decide), fun c4 hc4 => ⟨(by show 1 ≤ sizeLine; decide), fun c5 hc5 => fun c6 hc6 => ⟨(by show 3 ≤ sizeLine; decide), fun c7 hc7 => ⟨(by show 2 ≤ sizeLine; decide), fun c8 hc8 => ⟨(by show 1 ≤ sizeLine; decide), fun c9 hc9 => ⟨(by show 11 ≤ sizeLine; decide), fun l2 hl2 => ?_⟩⟩⟩⟩⟩⟩⟩⟩⟩
      obtain ⟨up1, hup1⟩ := O1.pn
      have s1 := same_new (o := .lst [.int 1, .int 1]) hc1
      have S1 := s1
      have G1 := Fix.cons (o := .lst [.int 1, .int 1]) (a := c1) upd_same rfl (F1.keep (.same s1))
      have s2 := same_new (o := .lst [.bl true]) hc2
      have S2 := S1.trans s2
      have G2 := Fix.cons (o := .lst [.bl true]) (a := c2) upd_same rfl (G1.keep (.same s2))
      have s3 := same_new (o := .lst [.int 20001]) hc3
      have S3 := S2.trans s3
      have G3 := Fix.cons (o := .lst [.int 20001]) (a := c3) upd_same rfl (G2.keep (.same s3))
      have s4 := same_new (o := .lst [.int (-1)]) hc4
      have S4 := S3.trans s4
      have G4 := Fix.cons (o := .lst [.int (-1)]) (a := c4) upd_same rfl (G3.keep (.same s4))
      have s5 := same_new (o := .lst [.non]) hc5
      have S5 := S4.trans s5
      have G5 := Fix.cons (o := .lst [.non]) (a := c5) upd_same rfl (G4.keep (.same s5))
      have s6 := same_new (o := .dK []) hc6
      have S6 := S5.trans s6
      have G6 := Fix.cons (o := .dK []) (a := c6) upd_same rfl (G5.keep (.same s6))
      have s7 := same_new (o := .lst [.int 2, .int 5, .int 2]) hc7
      have S7 := S6.trans s7
      have G7 := Fix.cons (o := .lst [.int 2, .int 5, .int 2]) (a := c7) upd_same rfl (G6.keep (.same s7))
      have s8 := same_new (o := .tup [.int 0, .int 1]) hc8
      have S8 := S7.trans s8
      have G8 := Fix.cons (o := .tup [.int 0, .int 1]) (a := c8) upd_same rfl (G7.keep (.same s8))
      have s9 := same_new (o := .tup [.ref c8]) hc9
      have S9 := S8.trans s9
      have G9 := Fix.cons (o := .tup [.ref c8]) (a := c9) upd_same rfl (G8.keep (.same s9))
      have sl2 := same_new (o := .lst [.non, .int 3, .str "01", .ref c1, .ref c2, .ref c3, .ref c4, .ref c5, .ref c6, .ref c7, .ref c9]) hl2
      have nl2 : l2 ≠ p := (ne_of_none (S9 _ _ hup1) hl2).symm
      have S10 := S9.trans sl2
      have O1' := O1.same S10
      refine ⟨p, b, l2, _, _, rfl, O1', by omega, upd_same, nl2, by show 0 < 11; decide, by show 11 ≤ 1000; decide, fun j y H2 hj O2 B2 => ?_⟩
      have T2 := tabs_orchN (T1.ext S10) B2 O1'
      have F2 := (G9.keep (.same sl2)).keep (.but B2 (orch_ref O1'))
      have badO : noLot K ((c9, .tup [.ref c8]) :: (c8, .tup [.int 0, .int 1]) :: (c7, .lst [.int 2, .int 5, .int 2]) :: (c6, .dK []) :: (c5, .lst [.non]) :: (c4, .lst [.int (-1)]) :: (c3, .lst [.int 20001]) :: (c2, .lst [.bl true]) :: (c1, .lst [.int 1, .int 1]) :: AN) y := by
        intro H' e
        have e : Fix ((c9, .tup [.ref c8]) :: (c8, .tup [.int 0, .int 1]) :: (c7, .lst [.int 2, .int 5, .int 2]) :: (c6, .dK []) :: (c5, .lst [.non]) :: (c4, .lst [.int (-1)]) :: (c3, .lst [.int 20001]) :: (c2, .lst [.bl true]) :: (c1, .lst [.int 1, .int 1]) :: AN) H' := e
        match j, hj with
        | 0, z => cases z; exact .inl fun H3 _ => isL_non
        | 1, z => cases z; exact .inl fun H3 _ => isL_int _
        | 2, z => cases z; exact .inl fun H3 _ => isL_str _
        | 3, z => cases z; exact lot_twice (ns := [1, 1]) (e.get (o := .lst [.int 1, .int 1]) (by simp)) (by decide) (fun n hn => by simp at hn; subst hn; decide +kernel) (by decide)
        | 4, z => cases z; exact lot_out (e.get (o := .lst [.bl true]) (by simp)) (by show 1 ≤ 900; decide) 0 rfl ⟨false, fun _ _ => isI_bl _, rfl⟩
        | 5, z => cases z; exact lot_out (e.get (o := .lst [.int 20001]) (by simp)) (by show 1 ≤ 900; decide) 0 rfl ⟨true, fun _ _ => isI_int _, by decide +kernel⟩
        | 6, z => cases z; exact lot_out (e.get (o := .lst [.int (-1)]) (by simp)) (by show 1 ≤ 900; decide) 0 rfl ⟨true, fun _ _ => isI_int _, by decide +kernel⟩
        | 7, z => cases z; exact lot_out (e.get (o := .lst [.non]) (by simp)) (by show 1 ≤ 900; decide) 0 rfl ⟨false, fun _ _ => isI_non, rfl⟩
        | 8, z => cases z; exact .inl fun H3 S3 => isL_dK (S3 _ _ (e.get (o := .dK []) (by simp)))
        | 9, z => cases z; exact lot_twice (ns := [2, 5, 2]) (e.get (o := .lst [.int 2, .int 5, .int 2]) (by simp)) (by decide) (fun n hn => by simp at hn; rcases hn with rfl | rfl | rfl <;> decide +kernel) (by decide)
        | 10, z => cases z; exact lot_out_t (e.get (o := .tup [.ref c8]) (by simp)) ⟨false, fun H3 S3 => isI_tup (S3 _ _ (e.get (o := .tup [.int 0, .int 1]) (by simp))), rfl⟩
        | j + 11, z => cases z
      clear hj
      have badN : noneOf K ((c9, .tup [.ref c8]) :: (c8, .tup [.int 0, .int 1]) :: (c7, .lst [.int 2, .int 5, .int 2]) :: (c6, .dK []) :: (c5, .lst [.non]) :: (c4, .lst [.int (-1)]) :: (c3, .lst [.int 20001]) :: (c2, .lst [.bl true]) :: (c1, .lst [.int 1, .int 1]) :: AN) (some 0) none x := fun H' e => badN H' fun a ha => e a (by simp [ha])
      obtain ⟨AO, F2, badO, badN⟩ : ∃ A, Fix A H2 ∧ noLot K A y ∧ noneOf K A (some 0) none x := ⟨_, F2, badO, badN⟩
      -- few
      refine ⟨_, rfl, (by show 1 ≤ sizeLine; decide), fun e1 he1 => ⟨_, rfl, _, _, rfl, rfl, ⟨by decide, by decide, by decide⟩, (by show 8 ≤ sizeLine; decide), fun l3 hl3 => ?_⟩⟩
      obtain ⟨up2, hup2⟩ := O2.pn
      have u1 := same_new (o := .lst [.int 3]) he1
      have G1 := Fix.cons (o := .lst [.int 3]) (a := e1) upd_same rfl (F2.keep (.same u1))
      have u2 := same_new (o := .lst [.int 0, .int 401, .non, .bl true, .str "2", .ref e1, .int (-5), .int (10 ^ (30 : Int).toNat)]) hl3
      have nl3 : l3 ≠ p := (ne_of_none (u1 _ _ hup2) hl3).symm
      have S3 := u1.trans u2
      have O2' := O2.same S3
      refine ⟨p, b, l3, _, _, rfl, O2', by omega, upd_same, nl3, by show 0 < 8; decide, by show 8 ≤ 1000; decide, fun j z H3 hj O3 B3 => ?_⟩
      have T3 := tabs_orchN (T2.ext S3) B3 O2'
      have F3 := (G1.keep (.same u2)).keep (.but B3 (orch_ref O2'))
      have badF : noneOf K ((e1, .lst [.int 3]) :: AO) (some 1) (some 400) z := by
        intro H' e
        match j, hj with
        | 0, z => cases z; exact ⟨true, isI_int _, by decide⟩
        | 1, z => cases z; exact ⟨true, isI_int _, by decide⟩
        | 2, z => cases z; exact ⟨false, isI_non, rfl⟩
        | 3, z => cases z; exact ⟨false, isI_bl _, rfl⟩
        | 4, z => cases z; exact ⟨false, isI_str _, rfl⟩
        | 5, z => cases z; exact ⟨false, isI_lst (e.get (o := .lst [.int 3]) (by simp)), rfl⟩
        | 6, z => cases z; exact ⟨true, isI_int _, by decide⟩
        | 7, z => cases z; exact ⟨true, isI_int _, by decide +kernel⟩
        | j + 8, z => cases z
      clear hj
      have badN : noneOf K ((e1, .lst [.int 3]) :: AO) (some 0) none x := fun H' e => badN H' fun a ha => e a (by simp [ha])
      have badO : noLot K ((e1, .lst [.int 3]) :: AO) y := fun H' e => badO H' fun a ha => e a (by simp [ha])
      obtain ⟨A0, F3, badN, badO, badF⟩ : ∃ A, Fix A H3 ∧ noneOf K A (some 0) none x ∧ noLot K A y ∧ noneOf K A (some 1) (some 400) z := ⟨_, F3, badN, badO, badF⟩
      -- many
      refine ⟨_, rfl, p, b, _, _, rfl, O3, by omega, by decide, by decide, fun r H4 r0 r1 O4 B4 => ⟨_, _, rfl, rfl, ?_⟩⟩
      have T4 := tabs_orchN T3 B4 O3
      have F4 := F3.keep (.but B4 (orch_ref O3))
      obtain ⟨k, ek, k1, k4⟩ : ∃ k : Nat, 1 + r = (k : Int) ∧ 1 ≤ k ∧ k ≤ 400 := ⟨(1 + r).toNat, by omega, by omega, by omega⟩
      show gName 4 (V.int (1 + r)) _ _ _
      rw [ek]
      have p2 := M07.two_pos k
      -- the first
      refine ⟨T4, fun H5 e5 T5 => ⟨rfl, _, rfl, _, rfl, _, _, rfl, .inl ⟨badN H5 (F4.keep (.ext e5)), fun d1 hd1 => ⟨d1, "word", rfl, upd_same, .inl ⟨rfl, fun t1 H6 S6 ht1 => ⟨(by show 1 ≤ sizeLine; decide), fun h hh => ?_⟩⟩⟩⟩⟩⟩
      have S56 := (same_new (o := .xd [(("part" : Str), .str "word")]) hd1).trans S6
      have s1 := St.begin (T5.ext S56) ((orch_extN O4 e5).same S56) ((F4.keep (.ext e5)).keep (.same S56)) (k := ("word", "word")) ⟨t1, rfl, ht1⟩ hh
      -- 2
      refine ⟨_, rfl, .inl ⟨rfl, _, SqL.of s1.at'⟩, s1.tabs, fun Ha2 ea2 Ta2 => ⟨rfl, _, rfl, _, _, rfl, .inr ⟨5, rfl, .inl ⟨badO _ (s1.fix.keep (.ext ea2)), fun H2' S2' => fun dd2 hd2 => ⟨dd2, "bits", rfl, upd_same, .inr <| .inl ⟨rfl, fun t2 Hb2 Sb2 ht2 => ?_⟩⟩⟩⟩⟩⟩
      have Sd2 := S2'.trans ((same_new (o := .xd [(("part" : Str), .str "bits")]) hd2).trans Sb2)
      have v2 := s1.ext (ea2.trans (ExtN.of Sd2)) (Ta2.ext Sd2)
      refine ⟨h, _, _, rfl, rfl, v2.at', (by show 1 < sizeLine; decide), ?_⟩
      have s2 := v2.add (k := some ("bits", "bits")) ⟨t2, rfl, ht2⟩
      -- 3
      refine ⟨_, rfl, .inl ⟨rfl, _, SqL.of s2.at'⟩, s2.tabs, fun Ha3 ea3 Ta3 => ⟨rfl, _, rfl, _, rfl, _, _, rfl, .inl ⟨badN _ (s2.fix.keep (.ext ea3)), fun dd3 hd3 => ⟨dd3, "one", rfl, upd_same, .inl ⟨rfl, fun t3 Hb3 Sb3 ht3 => ?_⟩⟩⟩⟩⟩
      have Sd3 := (same_new (o := .xd [(("part" : Str), .str "one")]) hd3).trans Sb3
      have v3 := s2.ext (ea3.trans (ExtN.of Sd3)) (Ta3.ext Sd3)
      refine ⟨h, _, _, rfl, rfl, v3.at', (by show 2 < sizeLine; decide), ?_⟩
      have s3 := v3.add (k := some ("word", "one")) ⟨t3, rfl, ht3⟩
      -- 4
      refine ⟨_, rfl, .inl ⟨rfl, _, SqL.of s3.at'⟩, s3.tabs, fun Ha4 ea4 Ta4 => ⟨rfl, _, rfl, _, _, rfl, .inr ⟨5, rfl, .inl ⟨badN _ (s3.fix.keep (.ext ea4)), fun dd4 hd4 => ⟨dd4, "other", rfl, upd_same, .inl ⟨rfl, fun t4 Hb4 Sb4 ht4 => ?_⟩⟩⟩⟩⟩⟩
      have Sd4 := (same_new (o := .xd [(("part" : Str), .str "other")]) hd4).trans Sb4
      have v4 := s3.ext (ea4.trans (ExtN.of Sd4)) (Ta4.ext Sd4)
      refine ⟨h, _, _, rfl, rfl, v4.at', (by show 3 < sizeLine; decide), ?_⟩
      have s4 := v4.add (k := some ("word", "other")) ⟨t4, rfl, ht4⟩
      -- 5
      refine ⟨_, rfl, .inl ⟨rfl, _, SqL.of s4.at'⟩, s4.tabs, fun Ha5 ea5 Ta5 => ⟨rfl, _, rfl, _, rfl, _, _, rfl, .inl ⟨badN _ (s4.fix.keep (.ext ea5)), fun dd5 hd5 => ⟨dd5, "word", rfl, upd_same, .inl ⟨rfl, fun t5 Hb5 Sb5 ht5 => ?_⟩⟩⟩⟩⟩
      have Sd5 := (same_new (o := .xd [(("part" : Str), .str "word")]) hd5).trans Sb5
      have v5 := s4.ext (ea5.trans (ExtN.of Sd5)) (Ta5.ext Sd5)
      refine ⟨h, _, _, rfl, rfl, v5.at', (by show 4 < sizeLine; decide), ?_⟩
      have s5 := v5.add (k := some ("word", "word")) ⟨t5, rfl, ht5⟩
      -- 6
      refine ⟨_, rfl, .inl ⟨rfl, _, SqL.of s5.at'⟩, s5.tabs, fun Ha6 ea6 Ta6 => ⟨rfl, _, rfl, _, _, rfl, .inr ⟨5, rfl, .inl ⟨badF _ (s5.fix.keep (.ext ea6)), fun dd6 hd6 => ⟨dd6, "many", rfl, upd_same, .inr <| .inr <| .inl ⟨rfl, fun t6 Hb6 Sb6 ht6 => ?_⟩⟩⟩⟩⟩⟩
      have Sd6 := (same_new (o := .xd [(("part" : Str), .str "many")]) hd6).trans Sb6
      have v6 := s5.ext (ea6.trans (ExtN.of Sd6)) (Ta6.ext Sd6)
      refine ⟨h, _, _, rfl, rfl, v6.at', (by show 5 < sizeLine; decide), ?_⟩
      have s6 := v6.add (k := some ("number", "many")) ⟨t6, rfl, ht6⟩
      -- 7
      refine ⟨_, rfl, .inl ⟨rfl, _, SqL.of s6.at'⟩, s6.tabs, fun Ha7 ea7 Ta7 => ⟨rfl, _, rfl, k, rfl, rfl, by omega, _, rfl, p, b, _, 3, rfl, (s6.ext ea7 Ta7).orch, by omega, by decide, by decide, fun r7 Hr7 r70 r71 Or7 Br7 => ?_⟩⟩
      obtain ⟨r7, rfl⟩ := Int.eq_ofNat_of_zero_le r70
      refine ⟨_, _, rfl, rfl, _, rfl, _, _, rfl, .inr ⟨2 ^ k + r7, by rw [Int.natCast_add], .inr ⟨k, rfl, k1, k4, .inl ⟨Nat.le_add_right _ _, fun dd7 hd7 => ⟨dd7, "word", rfl, upd_same, .inr <| .inr <| .inr ⟨rfl, fun t7 Hb7 Sb7 ht7 => ?_⟩⟩⟩⟩⟩⟩
      have Sd7 := (same_new (o := .xd [(("part" : Str), .str "word")]) hd7).trans Sb7
      have w7 := (s6.ext ea7 Ta7).but Br7 Or7
      have v7 := w7.ext (ExtN.of Sd7) (w7.tabs.ext Sd7)
      refine ⟨h, _, _, rfl, rfl, v7.at', (by show 6 < sizeLine; decide), ?_⟩
      have s7 := v7.add (k := some ("misfit", "word")) ⟨t7, rfl, ht7⟩
      -- 8
      refine ⟨_, rfl, .inl ⟨rfl, _, SqL.of s7.at'⟩, s7.tabs, fun Ha8 ea8 Ta8 => ⟨rfl, _, rfl, k, rfl, rfl, by omega, _, _, rfl, rfl, _, rfl, _, _, rfl, .inr ⟨2 ^ k - 1, ?_, .inr ⟨k, rfl, k1, k4, .inr ⟨by omega, fun q8 Hb8 Sb8 hq8 => ?_⟩⟩⟩⟩⟩
      · show V.int (((2 ^ k : Nat) : Int) - 1) = _
        congr 1
        omega
      have v8 := s7.ext (ea8.trans (ExtN.of Sb8)) (Ta8.ext Sb8)
      refine ⟨h, _, _, rfl, rfl, v8.at', (by show 7 < sizeLine; decide), ?_⟩
      have s8 := v8.add (v := .non) (k := none) rfl
      -- 9
      refine ⟨_, rfl, .inl ⟨rfl, _, SqL.of s8.at'⟩, s8.tabs, fun Ha9 ea9 Ta9 => ⟨rfl, (by show 1 ≤ sizeLine; decide), fun l9 hl9 => ⟨_, _, rfl, .inr ⟨0, rfl, .inr ⟨[0], ⟨l9, rfl, .inl (SqL.of upd_same), by decide, fun H' S' => isL_lst (S' _ _ upd_same), fun n hn => by rw [List.mem_singleton.mp hn]; decide +kernel, by decide⟩, fun Hb9 Sb9 => ?_⟩⟩⟩⟩⟩
      have Sd9 := (same_new (o := .lst [.int 0]) hl9).trans Sb9
      have v9 := s8.ext (ea9.trans (ExtN.of Sd9)) (Ta9.ext Sd9)
      refine ⟨h, _, _, rfl, rfl, v9.at', (by show 8 < sizeLine; decide), ?_⟩
      have s9 := v9.add (v := .non) (k := none) rfl
      have at9 := s9.at'
      have re9 := s9.res
      -- what is due
      refine ⟨(by show 2 ≤ sizeLine; decide), fun q1 hq1 => ⟨(by show 2 ≤ sizeLine; decide), fun q2 hq2 => ⟨(by show 2 ≤ sizeLine; decide), fun q3 hq3 => ⟨(by show 2 ≤ sizeLine; decide), fun q4 hq4 => ⟨(by show 2 ≤ sizeLine; decide), fun q5 hq5 => ⟨(by show 2 ≤ sizeLine; decide), fun q6 hq6 => ⟨(by show 6 ≤ sizeLine; decide), fun qa hqa => ?_⟩⟩⟩⟩⟩⟩⟩
      have z1 := same_new (o := .tup [.str "word", .str "word"]) hq1
      have Z1 := z1
      have D1 := res_new (a := "word") (b := "word") (vs := []) (ks := []) hq1 trivial
      have z2 := same_new (o := .tup [.str "bits", .str "bits"]) hq2
      have Z2 := Z1.trans z2
      have D2 := res_new (a := "bits") (b := "bits") hq2 D1
      have z3 := same_new (o := .tup [.str "word", .str "one"]) hq3
      have Z3 := Z2.trans z3
      have D3 := res_new (a := "word") (b := "one") hq3 D2
      have z4 := same_new (o := .tup [.str "word", .str "other"]) hq4
      have Z4 := Z3.trans z4
      have D4 := res_new (a := "word") (b := "other") hq4 D3
      have z5 := same_new (o := .tup [.str "word", .str "word"]) hq5
      have Z5 := Z4.trans z5
      have D5 := res_new (a := "word") (b := "word") hq5 D4
      have z6 := same_new (o := .tup [.str "number", .str "many"]) hq6
      have Z6 := Z5.trans z6
      have D6 := res_new (a := "number") (b := "many") hq6 D5
      have za := same_new (o := .lst [.ref q1, .ref q2, .ref q3, .ref q4, .ref q5, .ref q6]) hqa
      have Za := Z6.trans za
      have Da := D6.keep (.same za)
      refine ⟨_, rfl, _, rfl, (by show 2 ≤ sizeLine; decide), fun qb hqb => ⟨(by show 3 ≤ sizeLine; decide), fun qc hqc => ?_⟩⟩
      have zb := same_new (o := .tup [.str "misfit", .str "word"]) hqb
      have Zb := Za.trans zb
      have Db := res_non (res_non (res_new (a := "misfit") (b := "word") hqb Da))
      have zc := same_new (o := .lst [.ref qb, .non, .non]) hqc
      have Zc := Zb.trans zc
      have Dc := Db.keep (.same zc)
      have la := (zb.trans zc) qa _ upd_same
      refine ⟨qa, qc, _, _, rfl, rfl, la, upd_same, (by show 9 ≤ sizeLine; decide), fun qd hqd => ?_⟩
      have zd := same_new (o := .lst ([.ref q1, .ref q2, .ref q3, .ref q4, .ref q5, .ref q6] ++ [.ref qb, .non, .non])) hqd
      have Zd := Zc.trans zd
      have Dd := Dc.keep (.same zd)
      have Rd := re9.keep (.same Zd)
      refine ⟨.list (dueK.map entD), .list (dueK.map entD), Dp.lst (SqL.of (Zd _ _ at9)) Rd.dp, Dp.lst (SqL.of upd_same) Dd.dp, (by decide +kernel), (by decide +kernel), ?_⟩
      rw [SeqAt.eqv_refl _ (by decide +kernel)]
      exact q _
    obtain ⟨t, h1, h2⟩ := t0
    exact ⟨t, h1.nox, h2⟩
end
end K03
namespace K03
open PySem PySem.Spec PyProof.Rows L2 OB SkE LamX
def spLaw (K : PySem.W.Frag) (Pt : Addr) : Sp := fun vs H Q _ => ∃ (a : Addr) (ns : List Int), vs = [.ref a] ∧ SqL K H a (ns.map V.int) ∧ ns.length ≤ 63 ∧ H Pt = some (.tbl #[]) ∧ ∀ H', Q (.bl true) H'
theorem bits_far : bitsV (0 ^^^ 2 ^ 20000) = [V.int 20000] := by
  rw [Nat.zero_xor, bitsV_ord]
  rw [← ord_is (m := 2 ^ 20000) (ns := [20000]) (ns' := [20000]) (by simp) (fun i => by
    rw [Nat.testBit_two_pow]
    by_cases c : 20000 = i
    · subst c
      simp
    · rw [decide_eq_false c, decide_eq_false (by simp; omega)]) (List.Perm.refl _) (by simp)]
  rfl
theorem fl_far : ((fl 3 [20000] : Nat) : Int) = 3 + ((2 ^ 20000 : Nat) : Int) := by
  decide +kernel
section
variable {P : Program} {w : World} {K : PySem.W.Frag} {mg : Str → Option Value} {base : Heap}
abbrev N_law : List Str := ["script", "kennel", "turn"]
theorem sc_law : FnScope ["script", "kennel", "turn"] ["script"] (defScope s_law) := ⟨rfl, rfl, rfl, by decide +kernel, rfl, by decide +kernel, by decide +kernel⟩
theorem ok_law {f f1 f2 f3 f4 f5 f6 f7 CW CB Pt : Addr} {fd1 fd2 fd3 fd4 fd5 fd6 fd7 : FuncData} {oc kV doc pm ct cd : Value} {od an : Option Addr} {osl : Array (Option Value)} (T : Blt mg)
    (lk : K.lookup f = some ⟨oc, od, .func (PySem.W.fnOf "law" "law" (defArgs s_law) (defBody s_law) (defScope s_law) .none kV doc pm an cd ct), osl⟩) (hcd : PySem.W.codeIn K cd "law" = true)
    (D__law_kennel : Df K mg "_law_kennel" s__law_kennel ["script"] f1 fd1) (G__law_kennel : FnOk P w K mg base CX0 1 f1 fd1 ["script"] (spLot K))
    (D__law_flips_right : Df K mg "_law_flips_right" s__law_flips_right ["kennel"] f2 fd2) (G__law_flips_right : FnG P w K mg base CX0 9 f2 fd2 ["kennel"] spRight)
    (D__law_apart_right : Df K mg "_law_apart_right" s__law_apart_right ["kennel"] f3 fd3) (G__law_apart_right : FnG P w K mg base CX0 9 f3 fd3 ["kennel"] spRight)
    (D__law_near_right : Df K mg "_law_near_right" s__law_near_right ["kennel"] f4 fd4) (G__law_near_right : FnG P w K mg base CX0 9 f4 fd4 ["kennel"] spRight)
    (D__law_refused_right : Df K mg "_law_refused_right" s__law_refused_right ["kennel"] f5 fd5) (G__law_refused_right : FnOk P w K mg base CX0 14 f5 fd5 ["kennel"] (spRefused Pt))
    (D_flipped : Df K mg "flipped" s_flipped ["word", "bits"] f6 fd6) (GX_flipped : FnOk P w K mg base (L2.CX P w) 8 f6 fd6 ["word", "bits"] (spFlipped K CW CB))
    (D_differing : Df K mg "differing" s_differing ["one", "other"] f7 fd7) (GX_differing : FnOk P w K mg base (L2.CX P w) 5 f7 fd7 ["one", "other"] spDiff) :
    FnG P w K mg base CX0 16 f (PySem.W.fnOf "law" "law" (defArgs s_law) (defBody s_law) (defScope s_law) .none kV doc pm an cd ct) ["script"] (spLaw K Pt) := by
  have G_flipped := calm_of GX_flipped
  have G_differing := calm_of GX_differing
  refine fnG_of lk hcd sc_law (fun vs H Q E h => ?_) fun A outer s H vs Q E hgd hr h => ?_
  · obtain ⟨a, ns, rfl, _⟩ := h
    rfl
  · obtain ⟨a, ns, rfl, hS, hl, hP, k⟩ := h
    have t0 : ∃ t, PSs (cxOf CX0 P w K mg base ["script", "kennel", "turn"] "law" (defScope s_law) f cd A outer s H E).nox (defBody s_law) t ∧ t { nx := fun _ H' => Q .non H', rt := Q } (L2.start ["script", "kennel", "turn"] [.ref a]) H := by
      refine ⟨_, (pss_cons (ps_set (i := 1) sc_law.nd rfl (Or.inl rfl) (pe_call G__law_kennel (hr.mono (by decide)) (by rfl) D__law_kennel.g D__law_kennel.F.kp D__law_kennel.b .nil pass0 (pa_cons (pv 0) pa_nil)))
  (pss_cons (ps_for PassesOwn.never rfl (pi_range1 (by rfl) T.n_range (pa_cons pe_int pa_nil)) (pg_name (i := 2) sc_law.nd rfl (Or.inl rfl)) (pss_one (ps_if (PW.pt (pw_or (pt_not (pt_val (pe_callG G__law_flips_right hgd (hr.mono (by decide)) (by rfl) D__law_flips_right.g D__law_flips_right.F.kp D__law_flips_right.b .nil pass0 (pa_cons (pv 1) pa_nil)))) (pw_or1 (pt_not (pt_val (pe_callG G__law_apart_right hgd (hr.mono (by decide)) (by rfl) D__law_apart_right.g D__law_apart_right.F.kp D__law_apart_right.b .nil pass0 (pa_cons (pv 1) pa_nil))))))) (pss_one (ps_ret pe_bl)) pss_nil)))
  (pss_cons (ps_if (PW.pt (pw_or (pt_not (pt_val (pe_callG G__law_near_right hgd (hr.mono (by decide)) (by rfl) D__law_near_right.g D__law_near_right.F.kp D__law_near_right.b .nil pass0 (pa_cons (pv 1) pa_nil)))) (pw_or1 (pt_not (pt_val (pe_call G__law_refused_right (hr.mono (by decide)) (by rfl) D__law_refused_right.g D__law_refused_right.F.kp D__law_refused_right.b .nil pass0 (pa_cons (pv 1) pa_nil))))))) (pss_one (ps_ret pe_bl)) pss_nil)
  (pss_one (ps_ret (pe_and (pe_cmpR op_eq (pe_call G_flipped (hr.mono (by decide)) (by rfl) D_flipped.g D_flipped.F.kp D_flipped.b .nil pass0 (pa_cons pe_int (pa_cons (pe_lst (pa_cons pe_int pa_nil)) pa_nil))) (pe_op op_add pe_int (pe_op op_oneN pe_int pe_int)) (nomark _)) (pe_one (pe_cmpR (op_eqD hr.units) (pe_call G_differing (hr.mono (by decide)) (by rfl) D_differing.g D_differing.F.kp D_differing.b .nil pass0 (pa_cons pe_int (pa_cons (pe_op op_oneN pe_int pe_int) pa_nil))) (pe_tup (pa_cons pe_int pa_nil)) (nomark _))))))))), ?_⟩
      refine ⟨_, rfl, a, ns, rfl, hS, hl, fun p b H1 hp hb O S1 => ?_⟩
      have T1 : Tabs [(Pt, LQ)] H1 := fun q hq => by
        rw [List.mem_singleton.mp hq]
        exact .nil (S1 _ _ hP)
      refine ⟨3, rfl, by decide, by decide, ?_⟩
      refine for_range (n := 3) (fun i σ H' => Orch H' p b (80 * i) ∧ Tabs [(Pt, LQ)] H' ∧ ∃ u : Option V, σ = [some (.ref a), some (.ref p), u]) ⟨O, T1, none, rfl⟩ ?_ ?_
      · rintro i σ H2 hi ⟨O2, T2, u, rfl⟩
        refine ⟨_, rfl, p, b, _, rfl, O2, by omega, fun H3 O3 B3 => ?_⟩
        have T3 := tabs_orchN T2 B3 O2
        refine ⟨_, rfl, ?_⟩
        refine iteF ?_
        refine ⟨_, rfl, p, b, _, rfl, O3, by omega, fun H4 O4 B4 => ?_⟩
        have T4 := tabs_orchN T3 B4 O3
        refine ⟨_, rfl, ?_⟩
        refine iteF ?_
        exact ⟨O4.mono (by omega), T4, some (.int (0 + (i : Int))), rfl⟩
      · rintro σ H2 ⟨O2, T2, u, rfl⟩
        refine ⟨_, rfl, p, b, _, rfl, O2, by omega, fun H3 O3 B3 => ?_⟩
        have T3 := tabs_orchN T2 B3 O2
        refine ⟨_, rfl, ?_⟩
        refine iteF ?_
        refine ⟨_, rfl, p, b, _, rfl, O3, by omega, T3, fun H4 => ?_⟩
        refine ⟨_, rfl, ?_⟩
        refine iteF ?_
        refine ⟨(by show 1 ≤ sizeLine; decide), fun l hl => ?_⟩
        refine ⟨_, _, rfl, .inr ⟨3, rfl, .inr ⟨[20000], ⟨l, rfl, .inl (SqL.of upd_same), by show 1 ≤ 900; decide, fun H' S => isL_lst (S _ _ upd_same), fun n hn => by simp at hn; subst hn; decide +kernel, by simp⟩, fun H5 S5 => ?_⟩⟩⟩
        rw [fl_far]
        refine ⟨20000, rfl, rfl, by decide, _, _, rfl, rfl, rfl, _, rfl, ?_⟩
        rw [same_yes]
        refine iteT ?_
        refine ⟨20000, rfl, rfl, by decide, 0, 2 ^ 20000, rfl, by rw [Nat.zero_xor]; exact Nat.pow_lt_pow_right (by decide) (by decide), fun d H6 S6 hd6 => ?_⟩
        rw [bits_far] at hd6
        refine ⟨(by show 1 ≤ sizeLine; decide), fun t ht => ?_⟩
        have St := same_new (o := .tup [.int 20000]) ht
        refine ⟨.tuple [.int 20000], .tuple [.int 20000], Dp.tup (SqT.of (St _ _ hd6)) (.cons (.int _) .nil), Dp.tup (SqT.of upd_same) (.cons (.int _) .nil), (by decide +kernel), (by decide +kernel), ?_⟩
        rw [SeqAt.eqv_refl _ (by decide +kernel)]
        exact k _
    obtain ⟨t, h1, h2⟩ := t0
    exact ⟨t, h1.nox, h2⟩
end
end K03
namespace K03
open PySem PySem.Spec PyProof.Rows L2 OB SkE LamX
theorem sc_initW : FnScope ["self", "part"] ["self", "part"] (defScope s_initW) := ⟨rfl, rfl, rfl, by decide +kernel, rfl, by decide +kernel, by decide +kernel⟩
theorem sc_initM : FnScope ["self", "part"] ["self", "part"] (defScope s_initM) := ⟨rfl, rfl, rfl, by decide +kernel, rfl, by decide +kernel, by decide +kernel⟩
theorem sc_initN : FnScope ["self", "part"] ["self", "part"] (defScope s_initN) := ⟨rfl, rfl, rfl, by decide +kernel, rfl, by decide +kernel, by decide +kernel⟩
theorem sc_initB : FnScope ["self", "part"] ["self", "part"] (defScope s_initB) := ⟨rfl, rfl, rfl, by decide +kernel, rfl, by decide +kernel, by decide +kernel⟩
theorem all_mk {l : PySem.W.OpenLaw} {w : World} {K : PySem.W.Frag} {h : Heap} {mg : Str → Option Value} {fa f_is_integer f_is_within f_is_list f_are_unlike f_is_lot f_lot_of f_need_number f_need_word f_need_lot f_flipped f_flipped_often f_differing f__bits_of f_neighbours_of f__law_kennel f__law_bark f__law_one f__law_word f__law_is_one f__law_turned f__law_lot f__law_flips_right f__law_apart_right f__law_near_right f__law_heard f__law_refused_right f_law CF C_BadNumber fi_BadNumber N_BadNumber C_BadWord fi_BadWord N_BadWord C_BadBits fi_BadBits N_BadBits C_Misfit fi_Misfit N_Misfit c Pt : Addr} {cd_is_integer oc_is_integer kV_is_integer dc_is_integer pm_is_integer ct_is_integer cd_is_within oc_is_within kV_is_within dc_is_within pm_is_within ct_is_within cd_is_list oc_is_list kV_is_list dc_is_list pm_is_list ct_is_list cd_are_unlike oc_are_unlike kV_are_unlike dc_are_unlike pm_are_unlike ct_are_unlike cd_is_lot oc_is_lot kV_is_lot dc_is_lot pm_is_lot ct_is_lot cd_lot_of oc_lot_of kV_lot_of dc_lot_of pm_lot_of ct_lot_of cd_need_number oc_need_number kV_need_number dc_need_number pm_need_number ct_need_number cd_need_word oc_need_word kV_need_word dc_need_word pm_need_word ct_need_word cd_need_lot oc_need_lot kV_need_lot dc_need_lot pm_need_lot ct_need_lot cd_flipped oc_flipped kV_flipped dc_flipped pm_flipped ct_flipped cd_flipped_often oc_flipped_often kV_flipped_often dc_flipped_often pm_flipped_often ct_flipped_often cd_differing oc_differing kV_differing dc_differing pm_differing ct_differing cd__bits_of oc__bits_of kV__bits_of dc__bits_of pm__bits_of ct__bits_of cd_neighbours_of oc_neighbours_of kV_neighbours_of dc_neighbours_of pm_neighbours_of ct_neighbours_of cd__law_kennel oc__law_kennel kV__law_kennel dc__law_kennel pm__law_kennel ct__law_kennel cd__law_bark oc__law_bark kV__law_bark dc__law_bark pm__law_bark ct__law_bark cd__law_one oc__law_one kV__law_one dc__law_one pm__law_one ct__law_one cd__law_word oc__law_word kV__law_word dc__law_word pm__law_word ct__law_word cd__law_is_one oc__law_is_one kV__law_is_one dc__law_is_one pm__law_is_one ct__law_is_one cd__law_turned oc__law_turned kV__law_turned dc__law_turned pm__law_turned ct__law_turned cd__law_lot oc__law_lot kV__law_lot dc__law_lot pm__law_lot ct__law_lot cd__law_flips_right oc__law_flips_right kV__law_flips_right dc__law_flips_right pm__law_flips_right ct__law_flips_right cd__law_apart_right oc__law_apart_right kV__law_apart_right dc__law_apart_right pm__law_apart_right ct__law_apart_right cd__law_near_right oc__law_near_right kV__law_near_right dc__law_near_right pm__law_near_right ct__law_near_right cd__law_heard oc__law_heard kV__law_heard dc__law_heard pm__law_heard ct__law_heard oc__law_refused_right kV__law_refused_right dc__law_refused_right pm__law_refused_right ct__law_refused_right cd_law oc_law kV_law dc_law pm_law ct_law oi_BadNumber kVi_BadNumber dci_BadNumber pmi_BadNumber cti_BadNumber cdi_BadNumber oi_BadWord kVi_BadWord dci_BadWord pmi_BadWord cti_BadWord cdi_BadWord oi_BadBits kVi_BadBits dci_BadBits pmi_BadBits cti_BadBits cdi_BadBits oi_Misfit kVi_Misfit dci_Misfit pmi_Misfit cti_Misfit cdi_Misfit : Value} {od_is_integer an_is_integer od_is_within an_is_within od_is_list an_is_list od_are_unlike an_are_unlike od_is_lot an_is_lot od_lot_of an_lot_of od_need_number an_need_number od_need_word an_need_word od_need_lot an_need_lot od_flipped an_flipped od_flipped_often an_flipped_often od_differing an_differing od__bits_of an__bits_of od_neighbours_of an_neighbours_of od__law_kennel an__law_kennel od__law_bark an__law_bark od__law_one an__law_one od__law_word an__law_word od__law_is_one an__law_is_one od__law_turned an__law_turned od__law_lot an__law_lot od__law_flips_right an__law_flips_right od__law_apart_right an__law_apart_right od__law_near_right an__law_near_right od__law_heard an__law_heard od__law_refused_right an__law_refused_right od_law an_law odi_BadNumber ani_BadNumber dd_BadNumber odi_BadWord ani_BadWord dd_BadWord odi_BadBits ani_BadBits dd_BadBits odi_Misfit ani_Misfit dd_Misfit odC : Option Addr} {sl_is_integer sl_is_within sl_is_list sl_are_unlike sl_is_lot sl_lot_of sl_need_number sl_need_word sl_need_lot sl_flipped sl_flipped_often sl_differing sl__bits_of sl_neighbours_of sl__law_kennel sl__law_bark sl__law_one sl__law_word sl__law_is_one sl__law_turned sl__law_lot sl__law_flips_right sl__law_apart_right sl__law_near_right sl__law_heard sl__law_refused_right sl_law sli_BadNumber sli_BadWord sli_BadBits sli_Misfit slC : Array (Option Value)} {vsC : Array Value} {t_MOST_BIT t_MOST_MANY : Tok} {nm_BadNumber q_BadNumber : Str} {bs_BadNumber sub_BadNumber : List Value} {sn_BadNumber : List Str} {ab_BadNumber : Bool} {col_BadNumber : Option Bool} {m0_BadNumber m1_BadNumber m2_BadNumber m3_BadNumber m5_BadNumber : Option Value} {nm_BadWord q_BadWord : Str} {bs_BadWord sub_BadWord : List Value} {sn_BadWord : List Str} {ab_BadWord : Bool} {col_BadWord : Option Bool} {m0_BadWord m1_BadWord m2_BadWord m3_BadWord m5_BadWord : Option Value} {nm_BadBits q_BadBits : Str} {bs_BadBits sub_BadBits : List Value} {sn_BadBits : List Str} {ab_BadBits : Bool} {col_BadBits : Option Bool} {m0_BadBits m1_BadBits m2_BadBits m3_BadBits m5_BadBits : Option Value} {nm_Misfit q_Misfit : Str} {bs_Misfit sub_Misfit : List Value} {sn_Misfit : List Str} {ab_Misfit : Bool} {col_Misfit : Option Bool} {m0_Misfit m1_Misfit m2_Misfit m3_Misfit m5_Misfit : Option Value}
    (X : K.In h) (G : h.Ns mainGlobals mg) (hfa : mg "law" = some (.ref fa))
    (a_is_integer : PySem.W.nsIn K mainGlobals "is_integer" = some (some (.ref f_is_integer)))
    (l_is_integer : K.lookup f_is_integer = some ⟨oc_is_integer, od_is_integer, .func (PySem.W.fnOf "is_integer" "is_integer" (defArgs s_is_integer) (defBody s_is_integer) (defScope s_is_integer) .none kV_is_integer dc_is_integer pm_is_integer an_is_integer cd_is_integer ct_is_integer), sl_is_integer⟩)
    (c_is_integer : PySem.W.codeIn K cd_is_integer "is_integer" = true)
    (k_is_integer : PySem.W.keepIn K (.ref f_is_integer) = true)
    (a_is_within : PySem.W.nsIn K mainGlobals "is_within" = some (some (.ref f_is_within)))
    (l_is_within : K.lookup f_is_within = some ⟨oc_is_within, od_is_within, .func (PySem.W.fnOf "is_within" "is_within" (defArgs s_is_within) (defBody s_is_within) (defScope s_is_within) .none kV_is_within dc_is_within pm_is_within an_is_within cd_is_within ct_is_within), sl_is_within⟩)
    (c_is_within : PySem.W.codeIn K cd_is_within "is_within" = true)
    (k_is_within : PySem.W.keepIn K (.ref f_is_within) = true)
    (a_is_list : PySem.W.nsIn K mainGlobals "is_list" = some (some (.ref f_is_list)))
    (l_is_list : K.lookup f_is_list = some ⟨oc_is_list, od_is_list, .func (PySem.W.fnOf "is_list" "is_list" (defArgs s_is_list) (defBody s_is_list) (defScope s_is_list) .none kV_is_list dc_is_list pm_is_list an_is_list cd_is_list ct_is_list), sl_is_list⟩)
    (c_is_list : PySem.W.codeIn K cd_is_list "is_list" = true)
    (k_is_list : PySem.W.keepIn K (.ref f_is_list) = true)
    (a_are_unlike : PySem.W.nsIn K mainGlobals "are_unlike" = some (some (.ref f_are_unlike)))
    (l_are_unlike : K.lookup f_are_unlike = some ⟨oc_are_unlike, od_are_unlike, .func (PySem.W.fnOf "are_unlike" "are_unlike" (defArgs s_are_unlike) (defBody s_are_unlike) (defScope s_are_unlike) .none kV_are_unlike dc_are_unlike pm_are_unlike an_are_unlike cd_are_unlike ct_are_unlike), sl_are_unlike⟩)
    (c_are_unlike : PySem.W.codeIn K cd_are_unlike "are_unlike" = true)
    (k_are_unlike : PySem.W.keepIn K (.ref f_are_unlike) = true)
    (a_is_lot : PySem.W.nsIn K mainGlobals "is_lot" = some (some (.ref f_is_lot)))
    (l_is_lot : K.lookup f_is_lot = some ⟨oc_is_lot, od_is_lot, .func (PySem.W.fnOf "is_lot" "is_lot" (defArgs s_is_lot) (defBody s_is_lot) (defScope s_is_lot) .none kV_is_lot dc_is_lot pm_is_lot an_is_lot cd_is_lot ct_is_lot), sl_is_lot⟩)
    (c_is_lot : PySem.W.codeIn K cd_is_lot "is_lot" = true)
    (k_is_lot : PySem.W.keepIn K (.ref f_is_lot) = true)
    (a_lot_of : PySem.W.nsIn K mainGlobals "lot_of" = some (some (.ref f_lot_of)))
    (l_lot_of : K.lookup f_lot_of = some ⟨oc_lot_of, od_lot_of, .func (PySem.W.fnOf "lot_of" "lot_of" (defArgs s_lot_of) (defBody s_lot_of) (defScope s_lot_of) .none kV_lot_of dc_lot_of pm_lot_of an_lot_of cd_lot_of ct_lot_of), sl_lot_of⟩)
    (c_lot_of : PySem.W.codeIn K cd_lot_of "lot_of" = true)
    (k_lot_of : PySem.W.keepIn K (.ref f_lot_of) = true)
    (a_need_number : PySem.W.nsIn K mainGlobals "need_number" = some (some (.ref f_need_number)))
    (l_need_number : K.lookup f_need_number = some ⟨oc_need_number, od_need_number, .func (PySem.W.fnOf "need_number" "need_number" (defArgs s_need_number) (defBody s_need_number) (defScope s_need_number) .none kV_need_number dc_need_number pm_need_number an_need_number cd_need_number ct_need_number), sl_need_number⟩)
    (c_need_number : PySem.W.codeIn K cd_need_number "need_number" = true)
    (k_need_number : PySem.W.keepIn K (.ref f_need_number) = true)
    (a_need_word : PySem.W.nsIn K mainGlobals "need_word" = some (some (.ref f_need_word)))
    (l_need_word : K.lookup f_need_word = some ⟨oc_need_word, od_need_word, .func (PySem.W.fnOf "need_word" "need_word" (defArgs s_need_word) (defBody s_need_word) (defScope s_need_word) .none kV_need_word dc_need_word pm_need_word an_need_word cd_need_word ct_need_word), sl_need_word⟩)
    (c_need_word : PySem.W.codeIn K cd_need_word "need_word" = true)
    (k_need_word : PySem.W.keepIn K (.ref f_need_word) = true)
    (a_need_lot : PySem.W.nsIn K mainGlobals "need_lot" = some (some (.ref f_need_lot)))
    (l_need_lot : K.lookup f_need_lot = some ⟨oc_need_lot, od_need_lot, .func (PySem.W.fnOf "need_lot" "need_lot" (defArgs s_need_lot) (defBody s_need_lot) (defScope s_need_lot) .none kV_need_lot dc_need_lot pm_need_lot an_need_lot cd_need_lot ct_need_lot), sl_need_lot⟩)
    (c_need_lot : PySem.W.codeIn K cd_need_lot "need_lot" = true)
    (k_need_lot : PySem.W.keepIn K (.ref f_need_lot) = true)
    (a_flipped : PySem.W.nsIn K mainGlobals "flipped" = some (some (.ref f_flipped)))
    (l_flipped : K.lookup f_flipped = some ⟨oc_flipped, od_flipped, .func (PySem.W.fnOf "flipped" "flipped" (defArgs s_flipped) (defBody s_flipped) (defScope s_flipped) .none kV_flipped dc_flipped pm_flipped an_flipped cd_flipped ct_flipped), sl_flipped⟩)
    (c_flipped : PySem.W.codeIn K cd_flipped "flipped" = true)
    (k_flipped : PySem.W.keepIn K (.ref f_flipped) = true)
    (a_flipped_often : PySem.W.nsIn K mainGlobals "flipped_often" = some (some (.ref f_flipped_often)))
    (l_flipped_often : K.lookup f_flipped_often = some ⟨oc_flipped_often, od_flipped_often, .func (PySem.W.fnOf "flipped_often" "flipped_often" (defArgs s_flipped_often) (defBody s_flipped_often) (defScope s_flipped_often) .none kV_flipped_often dc_flipped_often pm_flipped_often an_flipped_often cd_flipped_often ct_flipped_often), sl_flipped_often⟩)
    (c_flipped_often : PySem.W.codeIn K cd_flipped_often "flipped_often" = true)
    (k_flipped_often : PySem.W.keepIn K (.ref f_flipped_often) = true)
    (a_differing : PySem.W.nsIn K mainGlobals "differing" = some (some (.ref f_differing)))
    (l_differing : K.lookup f_differing = some ⟨oc_differing, od_differing, .func (PySem.W.fnOf "differing" "differing" (defArgs s_differing) (defBody s_differing) (defScope s_differing) .none kV_differing dc_differing pm_differing an_differing cd_differing ct_differing), sl_differing⟩)
    (c_differing : PySem.W.codeIn K cd_differing "differing" = true)
    (k_differing : PySem.W.keepIn K (.ref f_differing) = true)
    (a__bits_of : PySem.W.nsIn K mainGlobals "_bits_of" = some (some (.ref f__bits_of)))
    (l__bits_of : K.lookup f__bits_of = some ⟨oc__bits_of, od__bits_of, .func (PySem.W.fnOf "_bits_of" "_bits_of" (defArgs s__bits_of) (defBody s__bits_of) (defScope s__bits_of) .none kV__bits_of dc__bits_of pm__bits_of an__bits_of cd__bits_of ct__bits_of), sl__bits_of⟩)
    (c__bits_of : PySem.W.codeIn K cd__bits_of "_bits_of" = true)
    (k__bits_of : PySem.W.keepIn K (.ref f__bits_of) = true)
    (a_neighbours_of : PySem.W.nsIn K mainGlobals "neighbours_of" = some (some (.ref f_neighbours_of)))
    (l_neighbours_of : K.lookup f_neighbours_of = some ⟨oc_neighbours_of, od_neighbours_of, .func (PySem.W.fnOf "neighbours_of" "neighbours_of" (defArgs s_neighbours_of) (defBody s_neighbours_of) (defScope s_neighbours_of) .none kV_neighbours_of dc_neighbours_of pm_neighbours_of an_neighbours_of cd_neighbours_of ct_neighbours_of), sl_neighbours_of⟩)
    (c_neighbours_of : PySem.W.codeIn K cd_neighbours_of "neighbours_of" = true)
    (k_neighbours_of : PySem.W.keepIn K (.ref f_neighbours_of) = true)
    (a__law_kennel : PySem.W.nsIn K mainGlobals "_law_kennel" = some (some (.ref f__law_kennel)))
    (l__law_kennel : K.lookup f__law_kennel = some ⟨oc__law_kennel, od__law_kennel, .func (PySem.W.fnOf "_law_kennel" "_law_kennel" (defArgs s__law_kennel) (defBody s__law_kennel) (defScope s__law_kennel) .none kV__law_kennel dc__law_kennel pm__law_kennel an__law_kennel cd__law_kennel ct__law_kennel), sl__law_kennel⟩)
    (c__law_kennel : PySem.W.codeIn K cd__law_kennel "_law_kennel" = true)
    (k__law_kennel : PySem.W.keepIn K (.ref f__law_kennel) = true)
    (a__law_bark : PySem.W.nsIn K mainGlobals "_law_bark" = some (some (.ref f__law_bark)))
    (l__law_bark : K.lookup f__law_bark = some ⟨oc__law_bark, od__law_bark, .func (PySem.W.fnOf "_law_bark" "_law_bark" (defArgs s__law_bark) (defBody s__law_bark) (defScope s__law_bark) .none kV__law_bark dc__law_bark pm__law_bark an__law_bark cd__law_bark ct__law_bark), sl__law_bark⟩)
    (c__law_bark : PySem.W.codeIn K cd__law_bark "_law_bark" = true)
    (k__law_bark : PySem.W.keepIn K (.ref f__law_bark) = true)
    (a__law_one : PySem.W.nsIn K mainGlobals "_law_one" = some (some (.ref f__law_one)))
    (l__law_one : K.lookup f__law_one = some ⟨oc__law_one, od__law_one, .func (PySem.W.fnOf "_law_one" "_law_one" (defArgs s__law_one) (defBody s__law_one) (defScope s__law_one) .none kV__law_one dc__law_one pm__law_one an__law_one cd__law_one ct__law_one), sl__law_one⟩)
    (c__law_one : PySem.W.codeIn K cd__law_one "_law_one" = true)
    (k__law_one : PySem.W.keepIn K (.ref f__law_one) = true)
    (a__law_word : PySem.W.nsIn K mainGlobals "_law_word" = some (some (.ref f__law_word)))
    (l__law_word : K.lookup f__law_word = some ⟨oc__law_word, od__law_word, .func (PySem.W.fnOf "_law_word" "_law_word" (defArgs s__law_word) (defBody s__law_word) (defScope s__law_word) .none kV__law_word dc__law_word pm__law_word an__law_word cd__law_word ct__law_word), sl__law_word⟩)
    (c__law_word : PySem.W.codeIn K cd__law_word "_law_word" = true)
    (k__law_word : PySem.W.keepIn K (.ref f__law_word) = true)
    (a__law_is_one : PySem.W.nsIn K mainGlobals "_law_is_one" = some (some (.ref f__law_is_one)))
    (l__law_is_one : K.lookup f__law_is_one = some ⟨oc__law_is_one, od__law_is_one, .func (PySem.W.fnOf "_law_is_one" "_law_is_one" (defArgs s__law_is_one) (defBody s__law_is_one) (defScope s__law_is_one) .none kV__law_is_one dc__law_is_one pm__law_is_one an__law_is_one cd__law_is_one ct__law_is_one), sl__law_is_one⟩)
    (c__law_is_one : PySem.W.codeIn K cd__law_is_one "_law_is_one" = true)
    (k__law_is_one : PySem.W.keepIn K (.ref f__law_is_one) = true)
    (a__law_turned : PySem.W.nsIn K mainGlobals "_law_turned" = some (some (.ref f__law_turned)))
    (l__law_turned : K.lookup f__law_turned = some ⟨oc__law_turned, od__law_turned, .func (PySem.W.fnOf "_law_turned" "_law_turned" (defArgs s__law_turned) (defBody s__law_turned) (defScope s__law_turned) .none kV__law_turned dc__law_turned pm__law_turned an__law_turned cd__law_turned ct__law_turned), sl__law_turned⟩)
    (c__law_turned : PySem.W.codeIn K cd__law_turned "_law_turned" = true)
    (k__law_turned : PySem.W.keepIn K (.ref f__law_turned) = true)
    (a__law_lot : PySem.W.nsIn K mainGlobals "_law_lot" = some (some (.ref f__law_lot)))
    (l__law_lot : K.lookup f__law_lot = some ⟨oc__law_lot, od__law_lot, .func (PySem.W.fnOf "_law_lot" "_law_lot" (defArgs s__law_lot) (defBody s__law_lot) (defScope s__law_lot) .none kV__law_lot dc__law_lot pm__law_lot an__law_lot cd__law_lot ct__law_lot), sl__law_lot⟩)
    (c__law_lot : PySem.W.codeIn K cd__law_lot "_law_lot" = true)
    (k__law_lot : PySem.W.keepIn K (.ref f__law_lot) = true)
    (a__law_flips_right : PySem.W.nsIn K mainGlobals "_law_flips_right" = some (some (.ref f__law_flips_right)))
    (l__law_flips_right : K.lookup f__law_flips_right = some ⟨oc__law_flips_right, od__law_flips_right, .func (PySem.W.fnOf "_law_flips_right" "_law_flips_right" (defArgs s__law_flips_right) (defBody s__law_flips_right) (defScope s__law_flips_right) .none kV__law_flips_right dc__law_flips_right pm__law_flips_right an__law_flips_right cd__law_flips_right ct__law_flips_right), sl__law_flips_right⟩)
    (c__law_flips_right : PySem.W.codeIn K cd__law_flips_right "_law_flips_right" = true)
    (k__law_flips_right : PySem.W.keepIn K (.ref f__law_flips_right) = true)
    (a__law_apart_right : PySem.W.nsIn K mainGlobals "_law_apart_right" = some (some (.ref f__law_apart_right)))
    (l__law_apart_right : K.lookup f__law_apart_right = some ⟨oc__law_apart_right, od__law_apart_right, .func (PySem.W.fnOf "_law_apart_right" "_law_apart_right" (defArgs s__law_apart_right) (defBody s__law_apart_right) (defScope s__law_apart_right) .none kV__law_apart_right dc__law_apart_right pm__law_apart_right an__law_apart_right cd__law_apart_right ct__law_apart_right), sl__law_apart_right⟩)
    (c__law_apart_right : PySem.W.codeIn K cd__law_apart_right "_law_apart_right" = true)
    (k__law_apart_right : PySem.W.keepIn K (.ref f__law_apart_right) = true)
    (a__law_near_right : PySem.W.nsIn K mainGlobals "_law_near_right" = some (some (.ref f__law_near_right)))
    (l__law_near_right : K.lookup f__law_near_right = some ⟨oc__law_near_right, od__law_near_right, .func (PySem.W.fnOf "_law_near_right" "_law_near_right" (defArgs s__law_near_right) (defBody s__law_near_right) (defScope s__law_near_right) .none kV__law_near_right dc__law_near_right pm__law_near_right an__law_near_right cd__law_near_right ct__law_near_right), sl__law_near_right⟩)
    (c__law_near_right : PySem.W.codeIn K cd__law_near_right "_law_near_right" = true)
    (k__law_near_right : PySem.W.keepIn K (.ref f__law_near_right) = true)
    (a__law_heard : PySem.W.nsIn K mainGlobals "_law_heard" = some (some (.ref f__law_heard)))
    (l__law_heard : K.lookup f__law_heard = some ⟨oc__law_heard, od__law_heard, .func (PySem.W.fnOf "_law_heard" "_law_heard" (defArgs s__law_heard) (defBody s__law_heard) (defScope s__law_heard) .none kV__law_heard dc__law_heard pm__law_heard an__law_heard cd__law_heard ct__law_heard), sl__law_heard⟩)
    (c__law_heard : PySem.W.codeIn K cd__law_heard "_law_heard" = true)
    (k__law_heard : PySem.W.keepIn K (.ref f__law_heard) = true)
    (a__law_refused_right : PySem.W.nsIn K mainGlobals "_law_refused_right" = some (some (.ref f__law_refused_right)))
    (l__law_refused_right : K.lookup f__law_refused_right = some ⟨oc__law_refused_right, od__law_refused_right, .func (PySem.W.fnOf "_law_refused_right" "_law_refused_right" (defArgs s__law_refused_right) (defBody s__law_refused_right) (defScope s__law_refused_right) .none kV__law_refused_right dc__law_refused_right pm__law_refused_right an__law_refused_right (.ref c) ct__law_refused_right), sl__law_refused_right⟩)
    (c__law_refused_right : PySem.W.codeIn K (.ref c) "_law_refused_right" = true)
    (k__law_refused_right : PySem.W.keepIn K (.ref f__law_refused_right) = true)
    (a_law : PySem.W.nsIn K mainGlobals "law" = some (some (.ref f_law)))
    (l_law : K.lookup f_law = some ⟨oc_law, od_law, .func (PySem.W.fnOf "law" "law" (defArgs s_law) (defBody s_law) (defScope s_law) .none kV_law dc_law pm_law an_law cd_law ct_law), sl_law⟩)
    (c_law : PySem.W.codeIn K cd_law "law" = true)
    (k_law : PySem.W.keepIn K (.ref f_law) = true)
    (aF : PySem.W.nsIn K mainGlobals "FlipError" = some (some (.ref CF)))
    (eF : PySem.W.subIn K (.ref CF) (.type "BaseException") = some true)
    (dF : PySem.W.hasDictIn K CF = true)
    (tF : PySem.W.typeIn K (.ref CF) = some (.type "type"))
    (a_BadNumber : PySem.W.nsIn K mainGlobals "BadNumber" = some (some (.ref C_BadNumber)))
    (x_BadNumber : K.lookup C_BadNumber = some (excClassObj nm_BadNumber q_BadNumber C_BadNumber N_BadNumber bs_BadNumber [.ref CF, .type "ValueError", .type "Exception", .type "BaseException", .type "object"] true sn_BadNumber sub_BadNumber ab_BadNumber col_BadNumber dd_BadNumber m0_BadNumber m1_BadNumber m2_BadNumber m3_BadNumber m5_BadNumber "ValueError.__new__"))
    (sa_BadNumber : PySem.W.findIn K (.ref C_BadNumber) "__setattr__" = some (some (.builtin "object.__setattr__")))
    (e_BadNumber : PySem.W.subIn K (.ref C_BadNumber) (.type "BaseException") = some true)
    (t_BadNumber : PySem.W.typeIn K (.ref C_BadNumber) = some (.type "type"))
    (k_BadNumber : PySem.W.keepIn K (.ref C_BadNumber) = true)
    (i_BadNumber : PySem.W.findIn K (.ref C_BadNumber) "__init__" = some (some (.ref fi_BadNumber)))
    (ti_BadNumber : PySem.W.typeIn K (.ref fi_BadNumber) = some (.type "function"))
    (li_BadNumber : K.lookup fi_BadNumber = some ⟨oi_BadNumber, odi_BadNumber, .func (PySem.W.fnOf "__init__" "BadNumber.__init__" (defArgs s_initN) (defBody s_initN) (defScope s_initN) .none kVi_BadNumber dci_BadNumber pmi_BadNumber ani_BadNumber cdi_BadNumber cti_BadNumber), sli_BadNumber⟩)
    (ci_BadNumber : PySem.W.codeIn K cdi_BadNumber "BadNumber.__init__" = true)
    (ki_BadNumber : PySem.W.keepIn K (.ref fi_BadNumber) = true)
    (no_BadNumber_part : PySem.W.findIn K (.ref C_BadNumber) "part" = some none)
    (ga_BadNumber : PySem.W.findIn K (.ref C_BadNumber) "__getattribute__" = some (some (.builtin "BaseException.__getattribute__")))
    (gg_BadNumber : PySem.W.findIn K (.ref C_BadNumber) "__getattr__" = some none)
    (hd_BadNumber : PySem.W.hasDictIn K C_BadNumber = true)
    (ha_BadNumber : PySem.W.findIn K (.ref C_BadNumber) "__class__" = some (some (.builtin "object.__class__")))
    (hm_BadNumber : PySem.W.mroIn K C_BadNumber (.type "object") = some true)
    (sf_BadNumber : PySem.W.subIn K (.ref C_BadNumber) (.ref CF) = some true)
    (is_BadNumber : PySem.W.isClsIn K C_BadNumber = true)
    (z_BadNumber : PySem.W.subIn K (.type "NoneType") (.ref C_BadNumber) = some false)
    (a_BadWord : PySem.W.nsIn K mainGlobals "BadWord" = some (some (.ref C_BadWord)))
    (x_BadWord : K.lookup C_BadWord = some (excClassObj nm_BadWord q_BadWord C_BadWord N_BadWord bs_BadWord [.ref CF, .type "ValueError", .type "Exception", .type "BaseException", .type "object"] true sn_BadWord sub_BadWord ab_BadWord col_BadWord dd_BadWord m0_BadWord m1_BadWord m2_BadWord m3_BadWord m5_BadWord "ValueError.__new__"))
    (sa_BadWord : PySem.W.findIn K (.ref C_BadWord) "__setattr__" = some (some (.builtin "object.__setattr__")))
    (e_BadWord : PySem.W.subIn K (.ref C_BadWord) (.type "BaseException") = some true)
    (t_BadWord : PySem.W.typeIn K (.ref C_BadWord) = some (.type "type"))
    (k_BadWord : PySem.W.keepIn K (.ref C_BadWord) = true)
    (i_BadWord : PySem.W.findIn K (.ref C_BadWord) "__init__" = some (some (.ref fi_BadWord)))
    (ti_BadWord : PySem.W.typeIn K (.ref fi_BadWord) = some (.type "function"))
    (li_BadWord : K.lookup fi_BadWord = some ⟨oi_BadWord, odi_BadWord, .func (PySem.W.fnOf "__init__" "BadWord.__init__" (defArgs s_initW) (defBody s_initW) (defScope s_initW) .none kVi_BadWord dci_BadWord pmi_BadWord ani_BadWord cdi_BadWord cti_BadWord), sli_BadWord⟩)
    (ci_BadWord : PySem.W.codeIn K cdi_BadWord "BadWord.__init__" = true)
    (ki_BadWord : PySem.W.keepIn K (.ref fi_BadWord) = true)
    (no_BadWord_part : PySem.W.findIn K (.ref C_BadWord) "part" = some none)
    (ga_BadWord : PySem.W.findIn K (.ref C_BadWord) "__getattribute__" = some (some (.builtin "BaseException.__getattribute__")))
    (gg_BadWord : PySem.W.findIn K (.ref C_BadWord) "__getattr__" = some none)
    (hd_BadWord : PySem.W.hasDictIn K C_BadWord = true)
    (ha_BadWord : PySem.W.findIn K (.ref C_BadWord) "__class__" = some (some (.builtin "object.__class__")))
    (hm_BadWord : PySem.W.mroIn K C_BadWord (.type "object") = some true)
    (sf_BadWord : PySem.W.subIn K (.ref C_BadWord) (.ref CF) = some true)
    (is_BadWord : PySem.W.isClsIn K C_BadWord = true)
    (z_BadWord : PySem.W.subIn K (.type "NoneType") (.ref C_BadWord) = some false)
    (a_BadBits : PySem.W.nsIn K mainGlobals "BadBits" = some (some (.ref C_BadBits)))
    (x_BadBits : K.lookup C_BadBits = some (excClassObj nm_BadBits q_BadBits C_BadBits N_BadBits bs_BadBits [.ref CF, .type "ValueError", .type "Exception", .type "BaseException", .type "object"] true sn_BadBits sub_BadBits ab_BadBits col_BadBits dd_BadBits m0_BadBits m1_BadBits m2_BadBits m3_BadBits m5_BadBits "ValueError.__new__"))
    (sa_BadBits : PySem.W.findIn K (.ref C_BadBits) "__setattr__" = some (some (.builtin "object.__setattr__")))
    (e_BadBits : PySem.W.subIn K (.ref C_BadBits) (.type "BaseException") = some true)
    (t_BadBits : PySem.W.typeIn K (.ref C_BadBits) = some (.type "type"))
    (k_BadBits : PySem.W.keepIn K (.ref C_BadBits) = true)
    (i_BadBits : PySem.W.findIn K (.ref C_BadBits) "__init__" = some (some (.ref fi_BadBits)))
    (ti_BadBits : PySem.W.typeIn K (.ref fi_BadBits) = some (.type "function"))
    (li_BadBits : K.lookup fi_BadBits = some ⟨oi_BadBits, odi_BadBits, .func (PySem.W.fnOf "__init__" "BadBits.__init__" (defArgs s_initB) (defBody s_initB) (defScope s_initB) .none kVi_BadBits dci_BadBits pmi_BadBits ani_BadBits cdi_BadBits cti_BadBits), sli_BadBits⟩)
    (ci_BadBits : PySem.W.codeIn K cdi_BadBits "BadBits.__init__" = true)
    (ki_BadBits : PySem.W.keepIn K (.ref fi_BadBits) = true)
    (no_BadBits_part : PySem.W.findIn K (.ref C_BadBits) "part" = some none)
    (ga_BadBits : PySem.W.findIn K (.ref C_BadBits) "__getattribute__" = some (some (.builtin "BaseException.__getattribute__")))
    (gg_BadBits : PySem.W.findIn K (.ref C_BadBits) "__getattr__" = some none)
    (hd_BadBits : PySem.W.hasDictIn K C_BadBits = true)
    (ha_BadBits : PySem.W.findIn K (.ref C_BadBits) "__class__" = some (some (.builtin "object.__class__")))
    (hm_BadBits : PySem.W.mroIn K C_BadBits (.type "object") = some true)
    (sf_BadBits : PySem.W.subIn K (.ref C_BadBits) (.ref CF) = some true)
    (is_BadBits : PySem.W.isClsIn K C_BadBits = true)
    (z_BadBits : PySem.W.subIn K (.type "NoneType") (.ref C_BadBits) = some false)
    (a_Misfit : PySem.W.nsIn K mainGlobals "Misfit" = some (some (.ref C_Misfit)))
    (x_Misfit : K.lookup C_Misfit = some (excClassObj nm_Misfit q_Misfit C_Misfit N_Misfit bs_Misfit [.ref CF, .type "ValueError", .type "Exception", .type "BaseException", .type "object"] true sn_Misfit sub_Misfit ab_Misfit col_Misfit dd_Misfit m0_Misfit m1_Misfit m2_Misfit m3_Misfit m5_Misfit "ValueError.__new__"))
    (sa_Misfit : PySem.W.findIn K (.ref C_Misfit) "__setattr__" = some (some (.builtin "object.__setattr__")))
    (e_Misfit : PySem.W.subIn K (.ref C_Misfit) (.type "BaseException") = some true)
    (t_Misfit : PySem.W.typeIn K (.ref C_Misfit) = some (.type "type"))
    (k_Misfit : PySem.W.keepIn K (.ref C_Misfit) = true)
    (i_Misfit : PySem.W.findIn K (.ref C_Misfit) "__init__" = some (some (.ref fi_Misfit)))
    (ti_Misfit : PySem.W.typeIn K (.ref fi_Misfit) = some (.type "function"))
    (li_Misfit : K.lookup fi_Misfit = some ⟨oi_Misfit, odi_Misfit, .func (PySem.W.fnOf "__init__" "Misfit.__init__" (defArgs s_initM) (defBody s_initM) (defScope s_initM) .none kVi_Misfit dci_Misfit pmi_Misfit ani_Misfit cdi_Misfit cti_Misfit), sli_Misfit⟩)
    (ci_Misfit : PySem.W.codeIn K cdi_Misfit "Misfit.__init__" = true)
    (ki_Misfit : PySem.W.keepIn K (.ref fi_Misfit) = true)
    (no_Misfit_part : PySem.W.findIn K (.ref C_Misfit) "part" = some none)
    (ga_Misfit : PySem.W.findIn K (.ref C_Misfit) "__getattribute__" = some (some (.builtin "BaseException.__getattribute__")))
    (gg_Misfit : PySem.W.findIn K (.ref C_Misfit) "__getattr__" = some none)
    (hd_Misfit : PySem.W.hasDictIn K C_Misfit = true)
    (ha_Misfit : PySem.W.findIn K (.ref C_Misfit) "__class__" = some (some (.builtin "object.__class__")))
    (hm_Misfit : PySem.W.mroIn K C_Misfit (.type "object") = some true)
    (sf_Misfit : PySem.W.subIn K (.ref C_Misfit) (.ref CF) = some true)
    (is_Misfit : PySem.W.isClsIn K C_Misfit = true)
    (z_Misfit : PySem.W.subIn K (.type "NoneType") (.ref C_Misfit) = some false)
    (sub_BadNumber_BadNumber : PySem.W.subIn K (.ref C_BadNumber) (.ref C_BadNumber) = some true)
    (sub_BadNumber_BadWord : PySem.W.subIn K (.ref C_BadNumber) (.ref C_BadWord) = some false)
    (sub_BadNumber_BadBits : PySem.W.subIn K (.ref C_BadNumber) (.ref C_BadBits) = some false)
    (sub_BadNumber_Misfit : PySem.W.subIn K (.ref C_BadNumber) (.ref C_Misfit) = some false)
    (sub_BadWord_BadNumber : PySem.W.subIn K (.ref C_BadWord) (.ref C_BadNumber) = some false)
    (sub_BadWord_BadWord : PySem.W.subIn K (.ref C_BadWord) (.ref C_BadWord) = some true)
    (sub_BadWord_BadBits : PySem.W.subIn K (.ref C_BadWord) (.ref C_BadBits) = some false)
    (sub_BadWord_Misfit : PySem.W.subIn K (.ref C_BadWord) (.ref C_Misfit) = some false)
    (sub_BadBits_BadNumber : PySem.W.subIn K (.ref C_BadBits) (.ref C_BadNumber) = some false)
    (sub_BadBits_BadWord : PySem.W.subIn K (.ref C_BadBits) (.ref C_BadWord) = some false)
    (sub_BadBits_BadBits : PySem.W.subIn K (.ref C_BadBits) (.ref C_BadBits) = some true)
    (sub_BadBits_Misfit : PySem.W.subIn K (.ref C_BadBits) (.ref C_Misfit) = some false)
    (sub_Misfit_BadNumber : PySem.W.subIn K (.ref C_Misfit) (.ref C_BadNumber) = some false)
    (sub_Misfit_BadWord : PySem.W.subIn K (.ref C_Misfit) (.ref C_BadWord) = some false)
    (sub_Misfit_BadBits : PySem.W.subIn K (.ref C_Misfit) (.ref C_BadBits) = some false)
    (sub_Misfit_Misfit : PySem.W.subIn K (.ref C_Misfit) (.ref C_Misfit) = some true)
    (spn : PySem.W.specialIn K (.builtin "object.__class__") "__get__" = some (some (.builtin "getset_descriptor.__get__")))
    (tkn : PySem.W.takesIn K (.builtin "object.__class__") = some true)
    (a_MOST_BIT : PySem.W.nsIn K mainGlobals "MOST_BIT" = some (some (.int 20000 t_MOST_BIT)))
    (a_MOST_MANY : PySem.W.nsIn K mainGlobals "MOST_MANY" = some (some (.int 400 t_MOST_MANY)))
    (n_isinstance : PySem.W.nsIn K mainGlobals "isinstance" = some none)
    (n_int : PySem.W.nsIn K mainGlobals "int" = some none)
    (n_bool : PySem.W.nsIn K mainGlobals "bool" = some none)
    (n_len : PySem.W.nsIn K mainGlobals "len" = some none)
    (n_abs : PySem.W.nsIn K mainGlobals "abs" = some none)
    (n_range : PySem.W.nsIn K mainGlobals "range" = some none)
    (n_list : PySem.W.nsIn K mainGlobals "list" = some none)
    (n_tuple : PySem.W.nsIn K mainGlobals "tuple" = some none)
    (n_enumerate : PySem.W.nsIn K mainGlobals "enumerate" = some none)
    (n_all : PySem.W.nsIn K mainGlobals "all" = some none)
    (n_set : PySem.W.nsIn K mainGlobals "set" = some none)
    (n_sorted : PySem.W.nsIn K mainGlobals "sorted" = some none)
    (n_repr : PySem.W.nsIn K mainGlobals "repr" = some none)
    (n_min : PySem.W.nsIn K mainGlobals "min" = some none)
    (l_code : K.lookup c = some ⟨.type "code", odC, .fields vsC, slC⟩)
    (v11 : vsC[11]? = some (.ref Pt))
    (hdc : PySem.W.codeHdIn K c Pt = true)
    (kPt : K.lookup Pt = none)
    (hPt : h.get? Pt = some { cls := .none, data := .fields #[] }) :
    OB.LawG l w K CX0 16 63 "script" mg fa h := by
  have efa := hfa.symm.trans (PySem.W.mg_of X G a_law)
  cases efa
  have D_is_integer : Df K mg "is_integer" s_is_integer ["value"] f_is_integer _ := ⟨fun_mk (st := s_is_integer) l_is_integer c_is_integer k_is_integer, PySem.W.mg_of X G a_is_integer, (fun_mk (st := s_is_integer) l_is_integer c_is_integer k_is_integer).binds (ps := ["value"]) fun _ _ _ _ _ _ us hl => match us, hl with | [_], _ => rfl⟩
  have D_is_within : Df K mg "is_within" s_is_within ["value", "least", "most"] f_is_within _ := ⟨fun_mk (st := s_is_within) l_is_within c_is_within k_is_within, PySem.W.mg_of X G a_is_within, (fun_mk (st := s_is_within) l_is_within c_is_within k_is_within).binds (ps := ["value", "least", "most"]) fun _ _ _ _ _ _ us hl => match us, hl with | [_, _, _], _ => rfl⟩
  have D_is_list : Df K mg "is_list" s_is_list ["value"] f_is_list _ := ⟨fun_mk (st := s_is_list) l_is_list c_is_list k_is_list, PySem.W.mg_of X G a_is_list, (fun_mk (st := s_is_list) l_is_list c_is_list k_is_list).binds (ps := ["value"]) fun _ _ _ _ _ _ us hl => match us, hl with | [_], _ => rfl⟩
  have D_are_unlike : Df K mg "are_unlike" s_are_unlike ["value", "least", "most"] f_are_unlike _ := ⟨fun_mk (st := s_are_unlike) l_are_unlike c_are_unlike k_are_unlike, PySem.W.mg_of X G a_are_unlike, (fun_mk (st := s_are_unlike) l_are_unlike c_are_unlike k_are_unlike).binds (ps := ["value", "least", "most"]) fun _ _ _ _ _ _ us hl => match us, hl with | [_, _, _], _ => rfl⟩
  have D_is_lot : Df K mg "is_lot" s_is_lot ["value"] f_is_lot _ := ⟨fun_mk (st := s_is_lot) l_is_lot c_is_lot k_is_lot, PySem.W.mg_of X G a_is_lot, (fun_mk (st := s_is_lot) l_is_lot c_is_lot k_is_lot).binds (ps := ["value"]) fun _ _ _ _ _ _ us hl => match us, hl with | [_], _ => rfl⟩
  have D_lot_of : Df K mg "lot_of" s_lot_of ["bits"] f_lot_of _ := ⟨fun_mk (st := s_lot_of) l_lot_of c_lot_of k_lot_of, PySem.W.mg_of X G a_lot_of, (fun_mk (st := s_lot_of) l_lot_of c_lot_of k_lot_of).binds (ps := ["bits"]) fun _ _ _ _ _ _ us hl => match us, hl with | [_], _ => rfl⟩
  have D_need_number : Df K mg "need_number" s_need_number ["value", "part", "least", "most"] f_need_number _ := ⟨fun_mk (st := s_need_number) l_need_number c_need_number k_need_number, PySem.W.mg_of X G a_need_number, (fun_mk (st := s_need_number) l_need_number c_need_number k_need_number).binds (ps := ["value", "part", "least", "most"]) fun _ _ _ _ _ _ us hl => match us, hl with | [_, _, _, _], _ => rfl⟩
  have D_need_word : Df K mg "need_word" s_need_word ["value", "part"] f_need_word _ := ⟨fun_mk (st := s_need_word) l_need_word c_need_word k_need_word, PySem.W.mg_of X G a_need_word, (fun_mk (st := s_need_word) l_need_word c_need_word k_need_word).binds (ps := ["value", "part"]) fun _ _ _ _ _ _ us hl => match us, hl with | [_, _], _ => rfl⟩
  have D_need_lot : Df K mg "need_lot" s_need_lot ["value", "part"] f_need_lot _ := ⟨fun_mk (st := s_need_lot) l_need_lot c_need_lot k_need_lot, PySem.W.mg_of X G a_need_lot, (fun_mk (st := s_need_lot) l_need_lot c_need_lot k_need_lot).binds (ps := ["value", "part"]) fun _ _ _ _ _ _ us hl => match us, hl with | [_, _], _ => rfl⟩
  have D_flipped : Df K mg "flipped" s_flipped ["word", "bits"] f_flipped _ := ⟨fun_mk (st := s_flipped) l_flipped c_flipped k_flipped, PySem.W.mg_of X G a_flipped, (fun_mk (st := s_flipped) l_flipped c_flipped k_flipped).binds (ps := ["word", "bits"]) fun _ _ _ _ _ _ us hl => match us, hl with | [_, _], _ => rfl⟩
  have D_flipped_often : Df K mg "flipped_often" s_flipped_often ["word", "bits"] f_flipped_often _ := ⟨fun_mk (st := s_flipped_often) l_flipped_often c_flipped_often k_flipped_often, PySem.W.mg_of X G a_flipped_often, (fun_mk (st := s_flipped_often) l_flipped_often c_flipped_often k_flipped_often).binds (ps := ["word", "bits"]) fun _ _ _ _ _ _ us hl => match us, hl with | [_, _], _ => rfl⟩
  have D_differing : Df K mg "differing" s_differing ["one", "other"] f_differing _ := ⟨fun_mk (st := s_differing) l_differing c_differing k_differing, PySem.W.mg_of X G a_differing, (fun_mk (st := s_differing) l_differing c_differing k_differing).binds (ps := ["one", "other"]) fun _ _ _ _ _ _ us hl => match us, hl with | [_, _], _ => rfl⟩
  have D__bits_of : Df K mg "_bits_of" s__bits_of ["word"] f__bits_of _ := ⟨fun_mk (st := s__bits_of) l__bits_of c__bits_of k__bits_of, PySem.W.mg_of X G a__bits_of, (fun_mk (st := s__bits_of) l__bits_of c__bits_of k__bits_of).binds (ps := ["word"]) fun _ _ _ _ _ _ us hl => match us, hl with | [_], _ => rfl⟩
  have D_neighbours_of : Df K mg "neighbours_of" s_neighbours_of ["word", "many"] f_neighbours_of _ := ⟨fun_mk (st := s_neighbours_of) l_neighbours_of c_neighbours_of k_neighbours_of, PySem.W.mg_of X G a_neighbours_of, (fun_mk (st := s_neighbours_of) l_neighbours_of c_neighbours_of k_neighbours_of).binds (ps := ["word", "many"]) fun _ _ _ _ _ _ us hl => match us, hl with | [_, _], _ => rfl⟩
  have D__law_kennel : Df K mg "_law_kennel" s__law_kennel ["script"] f__law_kennel _ := ⟨fun_mk (st := s__law_kennel) l__law_kennel c__law_kennel k__law_kennel, PySem.W.mg_of X G a__law_kennel, (fun_mk (st := s__law_kennel) l__law_kennel c__law_kennel k__law_kennel).binds (ps := ["script"]) fun _ _ _ _ _ _ us hl => match us, hl with | [_], _ => rfl⟩
  have D__law_bark : Df K mg "_law_bark" s__law_bark ["kennel", "many"] f__law_bark _ := ⟨fun_mk (st := s__law_bark) l__law_bark c__law_bark k__law_bark, PySem.W.mg_of X G a__law_bark, (fun_mk (st := s__law_bark) l__law_bark c__law_bark k__law_bark).binds (ps := ["kennel", "many"]) fun _ _ _ _ _ _ us hl => match us, hl with | [_, _], _ => rfl⟩
  have D__law_one : Df K mg "_law_one" s__law_one ["kennel", "some"] f__law_one _ := ⟨fun_mk (st := s__law_one) l__law_one c__law_one k__law_one, PySem.W.mg_of X G a__law_one, (fun_mk (st := s__law_one) l__law_one c__law_one k__law_one).binds (ps := ["kennel", "some"]) fun _ _ _ _ _ _ us hl => match us, hl with | [_, _], _ => rfl⟩
  have D__law_word : Df K mg "_law_word" s__law_word ["kennel"] f__law_word _ := ⟨fun_mk (st := s__law_word) l__law_word c__law_word k__law_word, PySem.W.mg_of X G a__law_word, (fun_mk (st := s__law_word) l__law_word c__law_word k__law_word).binds (ps := ["kennel"]) fun _ _ _ _ _ _ us hl => match us, hl with | [_], _ => rfl⟩
  have D__law_is_one : Df K mg "_law_is_one" s__law_is_one ["word", "bit"] f__law_is_one _ := ⟨fun_mk (st := s__law_is_one) l__law_is_one c__law_is_one k__law_is_one, PySem.W.mg_of X G a__law_is_one, (fun_mk (st := s__law_is_one) l__law_is_one c__law_is_one k__law_is_one).binds (ps := ["word", "bit"]) fun _ _ _ _ _ _ us hl => match us, hl with | [_, _], _ => rfl⟩
  have D__law_turned : Df K mg "_law_turned" s__law_turned ["word", "bit"] f__law_turned _ := ⟨fun_mk (st := s__law_turned) l__law_turned c__law_turned k__law_turned, PySem.W.mg_of X G a__law_turned, (fun_mk (st := s__law_turned) l__law_turned c__law_turned k__law_turned).binds (ps := ["word", "bit"]) fun _ _ _ _ _ _ us hl => match us, hl with | [_, _], _ => rfl⟩
  have D__law_lot : Df K mg "_law_lot" s__law_lot ["kennel"] f__law_lot _ := ⟨fun_mk (st := s__law_lot) l__law_lot c__law_lot k__law_lot, PySem.W.mg_of X G a__law_lot, (fun_mk (st := s__law_lot) l__law_lot c__law_lot k__law_lot).binds (ps := ["kennel"]) fun _ _ _ _ _ _ us hl => match us, hl with | [_], _ => rfl⟩
  have D__law_flips_right : Df K mg "_law_flips_right" s__law_flips_right ["kennel"] f__law_flips_right _ := ⟨fun_mk (st := s__law_flips_right) l__law_flips_right c__law_flips_right k__law_flips_right, PySem.W.mg_of X G a__law_flips_right, (fun_mk (st := s__law_flips_right) l__law_flips_right c__law_flips_right k__law_flips_right).binds (ps := ["kennel"]) fun _ _ _ _ _ _ us hl => match us, hl with | [_], _ => rfl⟩
  have D__law_apart_right : Df K mg "_law_apart_right" s__law_apart_right ["kennel"] f__law_apart_right _ := ⟨fun_mk (st := s__law_apart_right) l__law_apart_right c__law_apart_right k__law_apart_right, PySem.W.mg_of X G a__law_apart_right, (fun_mk (st := s__law_apart_right) l__law_apart_right c__law_apart_right k__law_apart_right).binds (ps := ["kennel"]) fun _ _ _ _ _ _ us hl => match us, hl with | [_], _ => rfl⟩
  have D__law_near_right : Df K mg "_law_near_right" s__law_near_right ["kennel"] f__law_near_right _ := ⟨fun_mk (st := s__law_near_right) l__law_near_right c__law_near_right k__law_near_right, PySem.W.mg_of X G a__law_near_right, (fun_mk (st := s__law_near_right) l__law_near_right c__law_near_right k__law_near_right).binds (ps := ["kennel"]) fun _ _ _ _ _ _ us hl => match us, hl with | [_], _ => rfl⟩
  have D__law_heard : Df K mg "_law_heard" s__law_heard ["ask"] f__law_heard _ := ⟨fun_mk (st := s__law_heard) l__law_heard c__law_heard k__law_heard, PySem.W.mg_of X G a__law_heard, (fun_mk (st := s__law_heard) l__law_heard c__law_heard k__law_heard).binds (ps := ["ask"]) fun _ _ _ _ _ _ us hl => match us, hl with | [_], _ => rfl⟩
  have D__law_refused_right : Df K mg "_law_refused_right" s__law_refused_right ["kennel"] f__law_refused_right _ := ⟨fun_mk (st := s__law_refused_right) l__law_refused_right c__law_refused_right k__law_refused_right, PySem.W.mg_of X G a__law_refused_right, (fun_mk (st := s__law_refused_right) l__law_refused_right c__law_refused_right k__law_refused_right).binds (ps := ["kennel"]) fun _ _ _ _ _ _ us hl => match us, hl with | [_], _ => rfl⟩
  have FI_BadNumber := fun_mk (st := s_initN) li_BadNumber ci_BadNumber ki_BadNumber
  have BI_BadNumber := FI_BadNumber.binds (ps := ["self", "part"]) fun _ _ _ _ _ _ us hl => match us, hl with | [_, _], _ => rfl
  have O_BadNumber : OexC K C_BadNumber := ⟨⟨_, _, _, _, _, _, _, _, _, _, _, _, _, _, _, x_BadNumber, by rfl⟩, sa_BadNumber, e_BadNumber, t_BadNumber, k_BadNumber⟩
  have XF_BadNumber : XfC K C_BadNumber := ⟨ga_BadNumber, gg_BadNumber, e_BadNumber, hd_BadNumber⟩
  have EC_BadNumber : ExcC K C_BadNumber := ⟨ga_BadNumber, gg_BadNumber, e_BadNumber, hd_BadNumber, ha_BadNumber, spn, tkn, hm_BadNumber⟩
  have EX_BadNumber : PySem.W.exmOne K (.ref C_BadNumber) (.ref CF) = some true := PySem.W.exm_ref eF dF tF sf_BadNumber
  have kit_BadNumber_BadNumber : PySem.W.kitOne K (.ref C_BadNumber) (.ref C_BadNumber) = some true := kit_sub is_BadNumber t_BadNumber sub_BadNumber_BadNumber sub_BadNumber_BadNumber
  have kit_BadWord_BadNumber : PySem.W.kitOne K (.ref C_BadWord) (.ref C_BadNumber) = some false := kit_sub is_BadNumber t_BadNumber sub_BadNumber_BadNumber sub_BadWord_BadNumber
  have kit_BadBits_BadNumber : PySem.W.kitOne K (.ref C_BadBits) (.ref C_BadNumber) = some false := kit_sub is_BadNumber t_BadNumber sub_BadNumber_BadNumber sub_BadBits_BadNumber
  have kit_Misfit_BadNumber : PySem.W.kitOne K (.ref C_Misfit) (.ref C_BadNumber) = some false := kit_sub is_BadNumber t_BadNumber sub_BadNumber_BadNumber sub_Misfit_BadNumber
  have kz_BadNumber : PySem.W.kitOne K (.type "NoneType") (.ref C_BadNumber) = some false := kit_sub is_BadNumber t_BadNumber sub_BadNumber_BadNumber z_BadNumber
  have g_BadNumber : mg "BadNumber" = some (.ref C_BadNumber) := PySem.W.mg_of X G a_BadNumber
  have FI_BadWord := fun_mk (st := s_initW) li_BadWord ci_BadWord ki_BadWord
  have BI_BadWord := FI_BadWord.binds (ps := ["self", "part"]) fun _ _ _ _ _ _ us hl => match us, hl with | [_, _], _ => rfl
  have O_BadWord : OexC K C_BadWord := ⟨⟨_, _, _, _, _, _, _, _, _, _, _, _, _, _, _, x_BadWord, by rfl⟩, sa_BadWord, e_BadWord, t_BadWord, k_BadWord⟩
  have XF_BadWord : XfC K C_BadWord := ⟨ga_BadWord, gg_BadWord, e_BadWord, hd_BadWord⟩
  have EC_BadWord : ExcC K C_BadWord := ⟨ga_BadWord, gg_BadWord, e_BadWord, hd_BadWord, ha_BadWord, spn, tkn, hm_BadWord⟩
  have EX_BadWord : PySem.W.exmOne K (.ref C_BadWord) (.ref CF) = some true := PySem.W.exm_ref eF dF tF sf_BadWord
  have kit_BadNumber_BadWord : PySem.W.kitOne K (.ref C_BadNumber) (.ref C_BadWord) = some false := kit_sub is_BadWord t_BadWord sub_BadWord_BadWord sub_BadNumber_BadWord
  have kit_BadWord_BadWord : PySem.W.kitOne K (.ref C_BadWord) (.ref C_BadWord) = some true := kit_sub is_BadWord t_BadWord sub_BadWord_BadWord sub_BadWord_BadWord
  have kit_BadBits_BadWord : PySem.W.kitOne K (.ref C_BadBits) (.ref C_BadWord) = some false := kit_sub is_BadWord t_BadWord sub_BadWord_BadWord sub_BadBits_BadWord
  have kit_Misfit_BadWord : PySem.W.kitOne K (.ref C_Misfit) (.ref C_BadWord) = some false := kit_sub is_BadWord t_BadWord sub_BadWord_BadWord sub_Misfit_BadWord
  have kz_BadWord : PySem.W.kitOne K (.type "NoneType") (.ref C_BadWord) = some false := kit_sub is_BadWord t_BadWord sub_BadWord_BadWord z_BadWord
  have g_BadWord : mg "BadWord" = some (.ref C_BadWord) := PySem.W.mg_of X G a_BadWord
  have FI_BadBits := fun_mk (st := s_initB) li_BadBits ci_BadBits ki_BadBits
  have BI_BadBits := FI_BadBits.binds (ps := ["self", "part"]) fun _ _ _ _ _ _ us hl => match us, hl with | [_, _], _ => rfl
  have O_BadBits : OexC K C_BadBits := ⟨⟨_, _, _, _, _, _, _, _, _, _, _, _, _, _, _, x_BadBits, by rfl⟩, sa_BadBits, e_BadBits, t_BadBits, k_BadBits⟩
  have XF_BadBits : XfC K C_BadBits := ⟨ga_BadBits, gg_BadBits, e_BadBits, hd_BadBits⟩
  have EC_BadBits : ExcC K C_BadBits := ⟨ga_BadBits, gg_BadBits, e_BadBits, hd_BadBits, ha_BadBits, spn, tkn, hm_BadBits⟩
  have EX_BadBits : PySem.W.exmOne K (.ref C_BadBits) (.ref CF) = some true := PySem.W.exm_ref eF dF tF sf_BadBits
  have kit_BadNumber_BadBits : PySem.W.kitOne K (.ref C_BadNumber) (.ref C_BadBits) = some false := kit_sub is_BadBits t_BadBits sub_BadBits_BadBits sub_BadNumber_BadBits
  have kit_BadWord_BadBits : PySem.W.kitOne K (.ref C_BadWord) (.ref C_BadBits) = some false := kit_sub is_BadBits t_BadBits sub_BadBits_BadBits sub_BadWord_BadBits
  have kit_BadBits_BadBits : PySem.W.kitOne K (.ref C_BadBits) (.ref C_BadBits) = some true := kit_sub is_BadBits t_BadBits sub_BadBits_BadBits sub_BadBits_BadBits
  have kit_Misfit_BadBits : PySem.W.kitOne K (.ref C_Misfit) (.ref C_BadBits) = some false := kit_sub is_BadBits t_BadBits sub_BadBits_BadBits sub_Misfit_BadBits
  have kz_BadBits : PySem.W.kitOne K (.type "NoneType") (.ref C_BadBits) = some false := kit_sub is_BadBits t_BadBits sub_BadBits_BadBits z_BadBits
  have g_BadBits : mg "BadBits" = some (.ref C_BadBits) := PySem.W.mg_of X G a_BadBits
  have FI_Misfit := fun_mk (st := s_initM) li_Misfit ci_Misfit ki_Misfit
  have BI_Misfit := FI_Misfit.binds (ps := ["self", "part"]) fun _ _ _ _ _ _ us hl => match us, hl with | [_, _], _ => rfl
  have O_Misfit : OexC K C_Misfit := ⟨⟨_, _, _, _, _, _, _, _, _, _, _, _, _, _, _, x_Misfit, by rfl⟩, sa_Misfit, e_Misfit, t_Misfit, k_Misfit⟩
  have XF_Misfit : XfC K C_Misfit := ⟨ga_Misfit, gg_Misfit, e_Misfit, hd_Misfit⟩
  have EC_Misfit : ExcC K C_Misfit := ⟨ga_Misfit, gg_Misfit, e_Misfit, hd_Misfit, ha_Misfit, spn, tkn, hm_Misfit⟩
  have EX_Misfit : PySem.W.exmOne K (.ref C_Misfit) (.ref CF) = some true := PySem.W.exm_ref eF dF tF sf_Misfit
  have kit_BadNumber_Misfit : PySem.W.kitOne K (.ref C_BadNumber) (.ref C_Misfit) = some false := kit_sub is_Misfit t_Misfit sub_Misfit_Misfit sub_BadNumber_Misfit
  have kit_BadWord_Misfit : PySem.W.kitOne K (.ref C_BadWord) (.ref C_Misfit) = some false := kit_sub is_Misfit t_Misfit sub_Misfit_Misfit sub_BadWord_Misfit
  have kit_BadBits_Misfit : PySem.W.kitOne K (.ref C_BadBits) (.ref C_Misfit) = some false := kit_sub is_Misfit t_Misfit sub_Misfit_Misfit sub_BadBits_Misfit
  have kit_Misfit_Misfit : PySem.W.kitOne K (.ref C_Misfit) (.ref C_Misfit) = some true := kit_sub is_Misfit t_Misfit sub_Misfit_Misfit sub_Misfit_Misfit
  have kz_Misfit : PySem.W.kitOne K (.type "NoneType") (.ref C_Misfit) = some false := kit_sub is_Misfit t_Misfit sub_Misfit_Misfit z_Misfit
  have g_Misfit : mg "Misfit" = some (.ref C_Misfit) := PySem.W.mg_of X G a_Misfit
  have T : Blt mg := ⟨⟨_, PySem.W.mg_of X G a_MOST_BIT⟩, ⟨_, PySem.W.mg_of X G a_MOST_MANY⟩, PySem.W.mg_none_of X G n_isinstance, PySem.W.mg_none_of X G n_int, PySem.W.mg_none_of X G n_bool, PySem.W.mg_none_of X G n_len, PySem.W.mg_none_of X G n_abs, PySem.W.mg_none_of X G n_range, PySem.W.mg_none_of X G n_list, PySem.W.mg_none_of X G n_tuple, PySem.W.mg_none_of X G n_enumerate, PySem.W.mg_none_of X G n_all, PySem.W.mg_none_of X G n_set, PySem.W.mg_none_of X G n_sorted, PySem.W.mg_none_of X G n_repr, PySem.W.mg_none_of X G n_min⟩
  refine ⟨PySem.W.fnOf "law" "law" (defArgs s_law) (defBody s_law) (defScope s_law) .none kV_law dc_law pm_law an_law cd_law ct_law, [(c, Pt)], spLaw K Pt, ⟨fun p hp => ?_, fun p hp => ?_, fun p hp => ?_⟩, fun s u => .of_eq rfl, fun H a ns hl _ hP hS => ⟨a, ns, rfl, hS, hl, hP _ List.mem_cons_self, fun _ => rfl⟩, fun base hK hG hTB => ?_⟩
  · rw [List.mem_singleton.mp hp]
    exact hPt
  · rw [List.mem_singleton.mp hp]
    exact kPt
  · rw [List.mem_singleton.mp hp]
    exact PySem.W.codeHd_of_K X hdc
  · have R_BadNumber : Err l.prog w K mg base "BadNumber" "part" C_BadNumber fi_BadNumber _ := ⟨O_BadNumber, i_BadNumber, ti_BadNumber, ok_init1 FI_BadNumber sc_initN rfl (.inl rfl) (.inl rfl), BI_BadNumber, g_BadNumber, no_BadNumber_part⟩
    have R_BadWord : Err l.prog w K mg base "BadWord" "part" C_BadWord fi_BadWord _ := ⟨O_BadWord, i_BadWord, ti_BadWord, ok_init1 FI_BadWord sc_initW rfl (.inl rfl) (.inl rfl), BI_BadWord, g_BadWord, no_BadWord_part⟩
    have R_BadBits : Err l.prog w K mg base "BadBits" "part" C_BadBits fi_BadBits _ := ⟨O_BadBits, i_BadBits, ti_BadBits, ok_init1 FI_BadBits sc_initB rfl (.inl rfl) (.inl rfl), BI_BadBits, g_BadBits, no_BadBits_part⟩
    have R_Misfit : Err l.prog w K mg base "Misfit" "part" C_Misfit fi_Misfit _ := ⟨O_Misfit, i_Misfit, ti_Misfit, ok_init1 FI_Misfit sc_initM rfl (.inl rfl) (.inl rfl), BI_Misfit, g_Misfit, no_Misfit_part⟩
    have Z : Kinds K mg CF C_BadWord C_BadBits C_BadNumber C_Misfit := ⟨PySem.W.mg_of X G aF, g_BadWord, g_BadBits, g_BadNumber, g_Misfit, ⟨XF_BadWord, EC_BadWord, EX_BadWord, no_BadWord_part⟩, ⟨XF_BadBits, EC_BadBits, EX_BadBits, no_BadBits_part⟩, ⟨XF_BadNumber, EC_BadNumber, EX_BadNumber, no_BadNumber_part⟩, ⟨XF_Misfit, EC_Misfit, EX_Misfit, no_Misfit_part⟩, kit_BadWord_BadWord, kit_BadBits_BadWord, kit_BadBits_BadBits, kit_BadNumber_BadWord, kit_BadNumber_BadBits, kit_BadNumber_BadNumber, kit_Misfit_BadWord, kit_Misfit_BadBits, kit_Misfit_BadNumber, kit_Misfit_Misfit, kz_BadWord, kz_BadBits, kz_BadNumber, kz_Misfit⟩
    have G_need_number := ok_need_number D_need_number.F D_is_within D_is_integer T R_BadNumber
    have G_need_word := ok_need_word D_need_word.F D_is_within D_is_integer T R_BadWord
    have G_are_unlike := ok_are_unlike (P := l.prog) (w := w) (base := base) D_are_unlike.F T D_is_list D_is_within D_is_integer
    have G_is_lot := ok_is_lot D_is_lot.F T D_are_unlike G_are_unlike
    have G_need_lot := ok_need_lot D_need_lot.F D_is_lot G_is_lot R_BadBits
    have G_lot_of := ok_lot_of D_lot_of.F T D_need_lot G_need_lot
    have GX_flipped := ok_flipped D_flipped.F D_need_word G_need_word D_flipped_often D_lot_of G_lot_of
    have GX_differing := ok_differing D_differing.F T D_need_word D__bits_of G_need_word
    have GE_differing := ok_differingE D_differing.F T D_need_word D__bits_of G_need_word
    have GX_neighbours_of := ok_neighbours_of D_neighbours_of.F T D_need_word G_need_word D_need_number G_need_number R_Misfit
    have G__law_kennel : FnOk l.prog w K mg base CX0 1 f__law_kennel _ ["script"] (spLot K) := ok__law_kennel D__law_kennel.F T
    have G__law_bark : FnOk l.prog w K mg base CX0 1 f__law_bark _ ["kennel", "many"] spDraw := ok__law_bark D__law_bark.F T
    have G__law_one := ok__law_one (P := l.prog) (w := w) (K := K) (base := base) D__law_one.F T D__law_bark
    have G__law_word := ok__law_word (P := l.prog) (w := w) (K := K) (base := base) D__law_word.F T D__law_bark D__law_one
    have G__law_lot := ok__law_lot (P := l.prog) (w := w) (K := K) (base := base) D__law_lot.F T D__law_bark D__law_one
    have G__law_is_one : FnOk l.prog w K mg base CX0 1 f__law_is_one _ ["word", "bit"] spIsOne := ok__law_is_one D__law_is_one.F T
    have G__law_turned := ok__law_turned (P := l.prog) (w := w) (K := K) (base := base) D__law_turned.F T D__law_is_one
    have G__law_flips_right := ok__law_flips_right D__law_flips_right.F T D__law_one G__law_one D__law_word G__law_word D__law_lot G__law_lot D__law_turned G__law_turned D_flipped GX_flipped D_differing GX_differing
    have G__law_apart_right := ok__law_apart_right (CW := C_BadWord) D__law_apart_right.F T D__law_one G__law_one D__law_word G__law_word D__law_bark G__law_bark D__law_turned G__law_turned D__law_is_one G__law_is_one D_differing GX_differing
    have G__law_near_right := ok__law_near_right D__law_near_right.F T D__law_one G__law_one D__law_word G__law_word D__law_bark G__law_bark D__law_turned G__law_turned D_neighbours_of GX_neighbours_of
    have G__law_refused_right := ok__law_refused_right (P := l.prog) (w := w) T l__law_refused_right c__law_refused_right (hTB _ List.mem_cons_self) Z D__law_bark D__law_one D__law_heard D_flipped GX_flipped D_differing GE_differing D_neighbours_of GX_neighbours_of
    exact ok_law T l_law c_law D__law_kennel G__law_kennel D__law_flips_right G__law_flips_right D__law_apart_right G__law_apart_right D__law_near_right G__law_near_right D__law_refused_right G__law_refused_right D_flipped GX_flipped D_differing GX_differing
end K03
open PySem PySem.W PyProof.Rows
set_option maxRecDepth 100000 in
set_option maxHeartbeats 0 in
theorem PySem.Challenge.cw_oneflip_k03_flips_and_neighbours_holds : PySem.Challenge.rw_oneflip_k03_flips_and_neighbours.Holds := by
  w_on; o_law; k_head; (case hw => w_witness2)
  k_fill
  refine OB.walk_G (l := PySem.Challenge.rw_oneflip_k03_flips_and_neighbours) (n := 63) (k := 16) (x := "script") (CX := fun _ => L2.CX0) rfl (by decide) rfl ⟨rfl, by decide, by decide⟩ (fun w h Y => PySem.W.km_in_of Y) ?F (fun _ _ _ _ _ z => z)
  case F =>
    intro w mg fa h Y KX G hmg
    refine' K03.all_mk KX G hmg ?a_is_integer ?l_is_integer ?c_is_integer ?k_is_integer ?a_is_within ?l_is_within ?c_is_within ?k_is_within ?a_is_list ?l_is_list ?c_is_list ?k_is_list ?a_are_unlike ?l_are_unlike ?c_are_unlike ?k_are_unlike ?a_is_lot ?l_is_lot ?c_is_lot ?k_is_lot ?a_lot_of ?l_lot_of ?c_lot_of ?k_lot_of ?a_need_number ?l_need_number ?c_need_number ?k_need_number ?a_need_word ?l_need_word ?c_need_word ?k_need_word ?a_need_lot ?l_need_lot ?c_need_lot ?k_need_lot ?a_flipped ?l_flipped ?c_flipped ?k_flipped ?a_flipped_often ?l_flipped_often ?c_flipped_often ?k_flipped_often ?a_differing ?l_differing ?c_differing ?k_differing ?a__bits_of ?l__bits_of ?c__bits_of ?k__bits_of ?a_neighbours_of ?l_neighbours_of ?c_neighbours_of ?k_neighbours_of ?a__law_kennel ?l__law_kennel ?c__law_kennel ?k__law_kennel ?a__law_bark ?l__law_bark ?c__law_bark ?k__law_bark ?a__law_one ?l__law_one ?c__law_one ?k__law_one ?a__law_word ?l__law_word ?c__law_word ?k__law_word ?a__law_is_one ?l__law_is_one ?c__law_is_one ?k__law_is_one ?a__law_turned ?l__law_turned ?c__law_turned ?k__law_turned ?a__law_lot ?l__law_lot ?c__law_lot ?k__law_lot ?a__law_flips_right ?l__law_flips_right ?c__law_flips_right ?k__law_flips_right ?a__law_apart_right ?l__law_apart_right ?c__law_apart_right ?k__law_apart_right ?a__law_near_right ?l__law_near_right ?c__law_near_right ?k__law_near_right ?a__law_heard ?l__law_heard ?c__law_heard ?k__law_heard ?a__law_refused_right ?l__law_refused_right ?c__law_refused_right ?k__law_refused_right ?a_law ?l_law ?c_law ?k_law ?aF ?eF ?dF ?tF ?a_BadNumber ?x_BadNumber ?sa_BadNumber ?e_BadNumber ?t_BadNumber ?k_BadNumber ?i_BadNumber ?ti_BadNumber ?li_BadNumber ?ci_BadNumber ?ki_BadNumber ?no_BadNumber_part ?ga_BadNumber ?gg_BadNumber ?hd_BadNumber ?ha_BadNumber ?hm_BadNumber ?sf_BadNumber ?is_BadNumber ?z_BadNumber ?a_BadWord ?x_BadWord ?sa_BadWord ?e_BadWord ?t_BadWord ?k_BadWord ?i_BadWord ?ti_BadWord ?li_BadWord ?ci_BadWord ?ki_BadWord ?no_BadWord_part ?ga_BadWord ?gg_BadWord ?hd_BadWord ?ha_BadWord ?hm_BadWord ?sf_BadWord ?is_BadWord ?z_BadWord ?a_BadBits ?x_BadBits ?sa_BadBits ?e_BadBits ?t_BadBits ?k_BadBits ?i_BadBits ?ti_BadBits ?li_BadBits ?ci_BadBits ?ki_BadBits ?no_BadBits_part ?ga_BadBits ?gg_BadBits ?hd_BadBits ?ha_BadBits ?hm_BadBits ?sf_BadBits ?is_BadBits ?z_BadBits ?a_Misfit ?x_Misfit ?sa_Misfit ?e_Misfit ?t_Misfit ?k_Misfit ?i_Misfit ?ti_Misfit ?li_Misfit ?ci_Misfit ?ki_Misfit ?no_Misfit_part ?ga_Misfit ?gg_Misfit ?hd_Misfit ?ha_Misfit ?hm_Misfit ?sf_Misfit ?is_Misfit ?z_Misfit ?sub_BadNumber_BadNumber ?sub_BadNumber_BadWord ?sub_BadNumber_BadBits ?sub_BadNumber_Misfit ?sub_BadWord_BadNumber ?sub_BadWord_BadWord ?sub_BadWord_BadBits ?sub_BadWord_Misfit ?sub_BadBits_BadNumber ?sub_BadBits_BadWord ?sub_BadBits_BadBits ?sub_BadBits_Misfit ?sub_Misfit_BadNumber ?sub_Misfit_BadWord ?sub_Misfit_BadBits ?sub_Misfit_Misfit ?spn ?tkn ?a_MOST_BIT ?a_MOST_MANY ?n_isinstance ?n_int ?n_bool ?n_len ?n_abs ?n_range ?n_list ?n_tuple ?n_enumerate ?n_all ?n_set ?n_sorted ?n_repr ?n_min ?l_code ?v11 ?hdc ?kPt ?hPt
    (case a_is_integer => k_is)
    (case l_is_integer => k_is)
    (case c_is_integer => k_is)
    (case k_is_integer => k_is)
    (case a_is_within => k_is)
    (case l_is_within => k_is)
    (case c_is_within => k_is)
    (case k_is_within => k_is)
    (case a_is_list => k_is)
    (case l_is_list => k_is)
    (case c_is_list => k_is)
    (case k_is_list => k_is)
    (case a_are_unlike => k_is)
    (case l_are_unlike => k_is)
    (case c_are_unlike => k_is)
    (case k_are_unlike => k_is)
    (case a_is_lot => k_is)
    (case l_is_lot => k_is)
    (case c_is_lot => k_is)
    (case k_is_lot => k_is)
    (case a_lot_of => k_is)
    (case l_lot_of => k_is)
    (case c_lot_of => k_is)
    (case k_lot_of => k_is)
    (case a_need_number => k_is)
    (case l_need_number => k_is)
    (case c_need_number => k_is)
    (case k_need_number => k_is)
    (case a_need_word => k_is)
    (case l_need_word => k_is)
    (case c_need_word => k_is)
    (case k_need_word => k_is)
    (case a_need_lot => k_is)
    (case l_need_lot => k_is)
    (case c_need_lot => k_is)
    (case k_need_lot => k_is)
    (case a_flipped => k_is)
    (case l_flipped => k_is)
    (case c_flipped => k_is)
    (case k_flipped => k_is)
    (case a_flipped_often => k_is)
    (case l_flipped_often => k_is)
    (case c_flipped_often => k_is)
    (case k_flipped_often => k_is)
    (case a_differing => k_is)
    (case l_differing => k_is)
    (case c_differing => k_is)
    (case k_differing => k_is)
    (case a__bits_of => k_is)
    (case l__bits_of => k_is)
    (case c__bits_of => k_is)
    (case k__bits_of => k_is)
    (case a_neighbours_of => k_is)
    (case l_neighbours_of => k_is)
    (case c_neighbours_of => k_is)
    (case k_neighbours_of => k_is)
    (case a__law_kennel => k_is)
    (case l__law_kennel => k_is)
    (case c__law_kennel => k_is)
    (case k__law_kennel => k_is)
    (case a__law_bark => k_is)
    (case l__law_bark => k_is)
    (case c__law_bark => k_is)
    (case k__law_bark => k_is)
    (case a__law_one => k_is)
    (case l__law_one => k_is)
    (case c__law_one => k_is)
    (case k__law_one => k_is)
    (case a__law_word => k_is)
    (case l__law_word => k_is)
    (case c__law_word => k_is)
    (case k__law_word => k_is)
    (case a__law_is_one => k_is)
    (case l__law_is_one => k_is)
    (case c__law_is_one => k_is)
    (case k__law_is_one => k_is)
    (case a__law_turned => k_is)
    (case l__law_turned => k_is)
    (case c__law_turned => k_is)
    (case k__law_turned => k_is)
    (case a__law_lot => k_is)
    (case l__law_lot => k_is)
    (case c__law_lot => k_is)
    (case k__law_lot => k_is)
    (case a__law_flips_right => k_is)
    (case l__law_flips_right => k_is)
    (case c__law_flips_right => k_is)
    (case k__law_flips_right => k_is)
    (case a__law_apart_right => k_is)
    (case l__law_apart_right => k_is)
    (case c__law_apart_right => k_is)
    (case k__law_apart_right => k_is)
    (case a__law_near_right => k_is)
    (case l__law_near_right => k_is)
    (case c__law_near_right => k_is)
    (case k__law_near_right => k_is)
    (case a__law_heard => k_is)
    (case l__law_heard => k_is)
    (case c__law_heard => k_is)
    (case k__law_heard => k_is)
    (case a__law_refused_right => k_is)
    (case l__law_refused_right => k_is)
    (case c__law_refused_right => k_is)
    (case k__law_refused_right => k_is)
    (case a_law => k_is)
    (case l_law => k_is)
    (case c_law => k_is)
    (case k_law => k_is)
    (case aF => k_is)
    (case eF => k_is)
    (case dF => k_is)
    (case tF => k_is)
    (case a_BadNumber => k_is)
    (case x_BadNumber => k_is)
    (case sa_BadNumber => k_is)
    (case e_BadNumber => k_is)
    (case t_BadNumber => k_is)
    (case k_BadNumber => k_is)
    (case i_BadNumber => k_is)
    (case ti_BadNumber => k_is)
    (case li_BadNumber => k_is)
    (case ci_BadNumber => k_is)
    (case ki_BadNumber => k_is)
    (case no_BadNumber_part => k_is)
    (case ga_BadNumber => k_is)
    (case gg_BadNumber => k_is)
    (case hd_BadNumber => k_is)
    (case ha_BadNumber => k_is)
    (case hm_BadNumber => k_is)
    (case sf_BadNumber => k_is)
    (case is_BadNumber => k_is)
    (case z_BadNumber => k_is)
    (case a_BadWord => k_is)
    (case x_BadWord => k_is)
    (case sa_BadWord => k_is)
    (case e_BadWord => k_is)
    (case t_BadWord => k_is)
    (case k_BadWord => k_is)
    (case i_BadWord => k_is)
    (case ti_BadWord => k_is)
    (case li_BadWord => k_is)
    (case ci_BadWord => k_is)
    (case ki_BadWord => k_is)
    (case no_BadWord_part => k_is)
    (case ga_BadWord => k_is)
    (case gg_BadWord => k_is)
    (case hd_BadWord => k_is)
    (case ha_BadWord => k_is)
    (case hm_BadWord => k_is)
    (case sf_BadWord => k_is)
    (case is_BadWord => k_is)
    (case z_BadWord => k_is)
    (case a_BadBits => k_is)
    (case x_BadBits => k_is)
    (case sa_BadBits => k_is)
    (case e_BadBits => k_is)
    (case t_BadBits => k_is)
    (case k_BadBits => k_is)
    (case i_BadBits => k_is)
    (case ti_BadBits => k_is)
    (case li_BadBits => k_is)
    (case ci_BadBits => k_is)
    (case ki_BadBits => k_is)
    (case no_BadBits_part => k_is)
    (case ga_BadBits => k_is)
    (case gg_BadBits => k_is)
    (case hd_BadBits => k_is)
    (case ha_BadBits => k_is)
    (case hm_BadBits => k_is)
    (case sf_BadBits => k_is)
    (case is_BadBits => k_is)
    (case z_BadBits => k_is)
    (case a_Misfit => k_is)
    (case x_Misfit => k_is)
    (case sa_Misfit => k_is)
    (case e_Misfit => k_is)
    (case t_Misfit => k_is)
    (case k_Misfit => k_is)
    (case i_Misfit => k_is)
    (case ti_Misfit => k_is)
    (case li_Misfit => k_is)
    (case ci_Misfit => k_is)
    (case ki_Misfit => k_is)
    (case no_Misfit_part => k_is)
    (case ga_Misfit => k_is)
    (case gg_Misfit => k_is)
    (case hd_Misfit => k_is)
    (case ha_Misfit => k_is)
    (case hm_Misfit => k_is)
    (case sf_Misfit => k_is)
    (case is_Misfit => k_is)
    (case z_Misfit => k_is)
    (case sub_BadNumber_BadNumber => k_is)
    (case sub_BadNumber_BadWord => k_is)
    (case sub_BadNumber_BadBits => k_is)
    (case sub_BadNumber_Misfit => k_is)
    (case sub_BadWord_BadNumber => k_is)
    (case sub_BadWord_BadWord => k_is)
    (case sub_BadWord_BadBits => k_is)
    (case sub_BadWord_Misfit => k_is)
    (case sub_BadBits_BadNumber => k_is)
    (case sub_BadBits_BadWord => k_is)
    (case sub_BadBits_BadBits => k_is)
    (case sub_BadBits_Misfit => k_is)
    (case sub_Misfit_BadNumber => k_is)
    (case sub_Misfit_BadWord => k_is)
    (case sub_Misfit_BadBits => k_is)
    (case sub_Misfit_Misfit => k_is)
    (case spn => k_is)
    (case tkn => k_is)
    (case a_MOST_BIT => k_is)
    (case a_MOST_MANY => k_is)
    (case n_isinstance => k_is)
    (case n_int => k_is)
    (case n_bool => k_is)
    (case n_len => k_is)
    (case n_abs => k_is)
    (case n_range => k_is)
    (case n_list => k_is)
    (case n_tuple => k_is)
    (case n_enumerate => k_is)
    (case n_all => k_is)
    (case n_set => k_is)
    (case n_sorted => k_is)
    (case n_repr => k_is)
    (case n_min => k_is)
    (case l_code => k_is)
    (case v11 => rfl)
    (case hdc => kernel_rfl)
    (case kPt => kernel_rfl)
    (case hPt => exact PySem.W.km_tabs_of Y _ (by k_mem))
