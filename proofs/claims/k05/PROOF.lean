import PyProof.Rows.All
import Wide.All
import OpenK.AllK
import Wide.FinOn
import HandS.ForMost
import HandS.Exc
import HandS.ExcValue
import HandS.ExcField
import HandS.ExcIs
import HandS.IsInst
import HandS.Lambda
import HandS.EndTab
import HandS.Wide
import HandS.WideBits
import HandS.RaiseMore
import HandS.WordsList
import HandS.WordsExc
import HandS.ExcInit
import PyProof.FString3
import HandS.FStr
import PyProof.EnumMake
import PyProof.Draws
import HandS.Walk
import HandS.Style
import HandS.Text
import KE.KRevIter
import PyProof.Rows.StrRev
import PyProof.Rows.SetFrom
import HandS.SetFor
import HandS.Zip
import HandS.SortInts
import PyProof.ReprRoads
import HandS.EndBits
import HandS.FStrTup
import HandS.Dict
import HandS.BoundDict
import PyProof.Rows.RegReprOcc
import HandS.Conv
import HandS.Codes
import KE.KNestM
import PySem.Challenge.RW_oneflip_k05_whole_no_words_have_more_pai
set_option Elab.async false
set_option linter.all false
set_option maxRecDepth 100000
set_option maxHeartbeats 2000000
/-! Errors that are caught and kept: an exception object behind its suite. -/
namespace OB
open PySem PySem.Spec PyProof.Rows L2

section kit
open PySem.W PySem.Calls
variable {prog : Program} {w : World} {A : Around} {E : Value → Shared → Prop} {s : Shared} {K : Frag} {x D : Addr} {ox : Obj} {od : Option Obj}
theorem cls_data (hc : (clsIn K D).isSome = true) {nm : Str} {a g : Value} (ha : findIn K (.ref D) nm = some (some a)) (hg : specialIn K a "__get__" = some (some g)) (ht : takesIn K a = some true) :
    findObj K D od nm = some (.bind g a) := by
  cases e : clsIn K D with
  | none => rw [e] at hc; cases hc
  | some cd =>
    unfold findObj
    simp [e, ha, hg, ht]
/-- the class of an exception with or without a dict of its own -/
theorem exc_class {Q : Option Value → Shared → Prop} (C : ExcC K D) (X : K.In s.heap) (I : InstAt s.heap x ox D od) (k : Q (some (.ref D)) { s with toks := s.toks + 1 }) :
    wpAny (model prog w) A (getAttr? (.ref x) "__class__") Q E s := by
  have found : findObj K D od "__class__" = some (.bind (.builtin "getset_descriptor.__get__") (.builtin "object.__class__")) :=
    cls_data (by obtain ⟨cd, e, _⟩ := any_some C.hd; simp [e]) C.ha C.hn C.ht
  obtain ⟨h0, g0, d0, t0, o0⟩ := s
  have ty0 := I.type (M := model prog w)
  have own := looks_findIn (M := model prog w) X C.hg
  have gat := looks_findIn (M := model prog w) X C.hk
  have fnd := looks_find (M := model prog w) X I found
  have isE : Looks (model prog w) h0 (isInstance (.ref x) (.type "BaseException")) true := ty0.andThen (looks_subIn X C.hs)
  have q2 : (Value.builtin "BaseException.__getattribute__" == Value.builtin "object.__getattribute__") = false := by decide +kernel
  have q1 : (onTheHeap (Value.ref D) && Value.builtin "BaseException.__getattribute__" == Value.builtin "object.__getattribute__") = false := by
    rw [q2, Bool.and_false]
  unfold getAttr? getAttrBy? getAttrBy
  refine wpAny_bind (wpAny_mkText (wpAny_bind (wpAny_attempt (wpAny_holding (wpAny_bind (ty0.at (wpAny_bind (own.at ?_))))))))
  dsimp only
  rw [q1]
  unfold getAttrByItsOwn hookBefore
  simp only [Bool.false_eq_true, if_false]
  refine wpAny_bind ?_
  rw [if_pos (show onTheHeap (Value.ref D) = true from rfl)]
  refine gat.at ?_
  refine wpAny_bind (wpAny_attempt (wpAny_holding ?_))
  unfold callGetattribute
  rw [if_neg (by decide)]
  unfold boundAndCalled
  rw [PySem.F.excAttr_ValueError.ga.bind (.ref x)]
  refine wpAny_bind (wpAny_pure ?_)
  refine wpAny_call (codeAny_call_builtin PySem.F.excAttr_ValueError.ga.plain PySem.F.entry_bexc_ga ?_)
  refine @check_slot (model prog w) _ _ ⟨h0, g0, d0, t0 + 1, o0⟩ "BaseException.__getattribute__" "BaseException" "__getattribute__" (.ref x) [.str "__class__" t0] [] _ (by decide +kernel) (by decide +kernel) isE
    (PySem.F.args_bexc_ga (.ref x) (.str "__class__" t0)) ?_
  unfold Builtin.«object.__getattribute__»
  refine wpAny_bind (wpAny_of_eq (a := ((Value.ref x : Value), [Value.str "__class__" t0])) (by first | rfl | (simp only [slotArgs]; rfl)) ?_)
  refine wpAny_bind (wpAny_pure (wpAny_bind (ty0.at (wpAny_bind (fnd.at ?_)))))
  dsimp only
  refine wpAny_bind (wpAny_holding (wpAny_call (class_get (s := ⟨h0, g0, d0, t0 + 1, o0⟩) (ox := ox) (od := od) X I C.hm ?_)))
  refine wpAny_pure ?_
  show wpAny _ _ (handedOut (.ref D)) _ _ _
  rw [handedOut_of (v := .ref D) rfl]
  first
    | exact wpAny_pure (wpAny_pure k)
    | exact wpAny_pure k
    | exact wpAny_pure (wpAny_bind (wpAny_pure (wpAny_pure k)))
theorem exc_kit (C : ExcC K D) : KitX K (.ref x) (.ref D) (fun h => InstAt h x ox D od) := by
  obtain ⟨cd, hcd, _⟩ := any_some C.hd
  unfold clsIn at hcd
  split at hcd
  · rename_i c1 d1 cd1 sl1 look
    refine ⟨fun _ _ _ I => I.type, fun M h X _ A' Q' E' s' keep q => ?_, fun h tp dd its n sl X htp => ?_, fun X I k => exc_class C X I k⟩
    · unfold isType loadHead
      exact wpAny_bind (wpAny_loadPart (keep _ _ (X _ _ look)) (wpAny_pure q))
    · cases e : (Value.ref D == Value.ref tp) with
      | false => rfl
      | true =>
        have e2 : D = tp := Value.ref.inj (beq_iff_eq.mp e)
        rw [← e2] at htp
        have z := (X _ _ look).symm.trans htp
        cases z
  · cases hcd
end kit

/-- an exception object that is kept: its class, its own dict -/
def ExA (cls : Value) (d : Option Addr) (a : Addr) : HO := .ext fun h => ∃ (oe : Obj) (vs : Array Value), h.get? a = some oe ∧ Zc cls d oe ∧ oe.data = .fields vs
theorem exA_ok {P : Program} {w : World} {H : Hp} {h : Heap} {a : Addr} {cls : Value} {d : Option Addr} {oe : Obj} {vs : Array Value} (e : h.get? a = some oe) (z : Zc cls d oe) (f : oe.data = .fields vs) : ObjOk P w H h a (ExA cls d a) :=
  ⟨⟨oe, vs, e, z, f⟩, ⟨oe, e⟩, fun _ _ ⟨o, v, q, r⟩ k => ⟨o, v, k o q, r⟩⟩
theorem exA_at {P : Program} {w : World} {H : Hp} {h : Heap} {a : Addr} {cls : Value} {d : Option Addr} (ok : HOk P w H h) (e : H a = some (ExA cls d a)) : ∃ (oe : Obj) (vs : Array Value), h.get? a = some oe ∧ Zc cls d oe ∧ oe.data = .fields vs := by
  have z : ObjOk P w H h a (ExA cls d a) := ok a _ e
  exact z.1

section
variable {X : Cx} {pins : List (Addr × Obj)} {σ : L2.St} {H : Hp} {s : Shared}
/-- an object that came behind the entry is tracked from now on -/
theorem track {a : Addr} {o : HO} (I : Inv X pins σ H s) (hn : H a = none) (h0 : X.s_0.heap.get? a = none) (nL : a ≠ X.env.locals) (nC : ∀ x c, X.env.cells.lookup x = some c → c ≠ a)
    (nP : ∀ p ∈ X.pn ++ pins, p.1 ≠ a) (new : ObjOk X.prog X.w (upd H a o) s.heap a o) : Inv X pins σ (upd H a o) s := by
  have ne : ∀ {b u}, X.s_0.heap.get? b = some u → b ≠ a := fun {b u} e z => by
    rw [z, h0] at e
    cases e
  refine ⟨I.ok, I.os, I.bare, ⟨I.base.keep, I.base.slot, fun b u e n hx => ?_, I.base.there, fun b xs e => ?_, fun b u v e => ?_, fun b ps e => ?_⟩, I.loc, I.cell, ?_, fun x c e => ?_, fun p hp => ?_, ?_, I.len⟩
  · rw [upd_ne (ne e)]
    exact I.base.free b u e n hx
  · have q := I.base.tups b xs e
    rw [upd_ne (ne_of_none q hn)]
    exact q
  · have q := I.base.frzs b u v e
    rw [upd_ne (ne_of_none q hn)]
    exact q
  · obtain ⟨m, q⟩ := I.base.tbls b ps e
    exact ⟨m, by rw [upd_ne (ne_of_none q hn)]; exact q⟩
  · rw [upd_ne (Ne.symm nL)]
    exact I.free
  · rw [upd_ne (nC x c e)]
    exact I.freeC x c e
  · obtain ⟨e, n, r1, r2, r3⟩ := I.pin p hp
    exact ⟨e, by rw [upd_ne (nP p hp)]; exact n, r1, r2, r3⟩
  · exact I.hok.laidN (fun _ _ e => e) hn new
end

/-- what 'except x as n: kept = n' wishes: behind it slot j holds the exception, which is tracked -/
def wKeep (K : PySem.W.Frag) (c : Value) (i j : Nat) (Wout : WX) (D : Ends) : WX := fun cls d σ H =>
  ∃ b, PySem.W.exmOne K cls c = some b ∧
    (b = true → ∀ a, H a = none → D.nx (((σ.set i (some (.ref a))).set j (some (.ref a))).set i none) (upd H a (ExA cls d a))) ∧ (b = false → Wout cls d σ H)

section
variable {X : Cx} {x n m : Str} {c : Value} {i j : Nat} {body : List Stmt} {np pos pos' p1 p2 p3 : Pos} {tb : WX → TS} {Wout : WX}
theorem ps_try_keep (hs : X.stack = X.env :: X.outer) (hf : X.env.frame = some X.env.locals) (hx : X.ex = []) (hN : X.N.Nodup) (hi : X.N[i]? = some n) (hln : X.env.kindOf n = some .local)
    (hj : X.N[j]? = some m) (hlm : X.env.scope.names.lookup m = some .local) (hc : Names X x c) (tk : Takes X Wout)
    (hb : ∀ (W : WX) (pn : List (Addr × Obj)) (xe : Value → Shared → Prop), Takes (X.tr pn xe) W → PassesOwn (model X.prog X.w) X.A X.env xe → PSs (X.tr pn xe) body (tb W))
    (hdn : (n == ("__debug__" : Str)) = false := by decide) (hcn : (n == ("__classdict__" : Str)) = false := by decide)
    (hsw : ∀ env : Env, swapsWith (.Name n p2) (some (.Name m p1)) p3.line env = pure false := by intro _; rfl) :
    PS X (.Try body [.ExceptHandler (some (.Name x np)) (some n) [.Assign [.Name m p1] (.Name n p2) p3] pos'] [] [] pos) (fun D σ H => tb (wKeep X.K c i j Wout D) D σ H) := by
  refine ⟨fun pins s σ H D I h => ?_⟩
  have okX := I.ok
  have frames : X.A.frames = some (X.env :: X.outer) := by rw [okX.frames, hs]
  have lj : Loc X.env.scope m := .inl hlm
  refine wpAny_Try_except ?_
  have run := (hb (wKeep X.K c i j Wout D) (X.pn ++ pins) (fun e s₁ => wpAny (model X.prog X.w) X.A (noteFrame e X.env)
    (fun _ s₂ => wpAny (model X.prog X.w) X.A (setFlight e none)
      (fun _ s₃ => wpAny (model X.prog X.w) X.A (handleBy e X.env [.ExceptHandler (some (.Name x np)) (some n) [.Assign [.Name m p1] (.Name n p2) p3] pos']) (SP X pins D) X.xe s₃) X.xe s₂) X.xe s₁)
    (fun u s' air => ?_) PassesOwn.looking).run [] s σ H D (I.toTry _) h
  · refine wpAny_mono run (fun f s1 end1 => ?_) (fun _ _ z => z)
    cases f with
    | next =>
      obtain ⟨σ1, H1, J1, q⟩ := end1
      exact wpAny_execs_nil ⟨σ1, H1, J1.ofTry okX, q⟩
    | ret u =>
      obtain ⟨v, σ1, H1, J1, r, q⟩ := end1
      exact ⟨v, σ1, H1, J1.ofTry okX, r, q⟩
    | brk =>
      obtain ⟨σ1, H1, J1, q⟩ := end1
      exact ⟨σ1, H1, J1.ofTry okX, q⟩
    | cont =>
      obtain ⟨σ1, H1, J1, q⟩ := end1
      exact ⟨σ1, H1, J1.ofTry okX, q⟩
  · obtain ⟨a, B, sI, pins1, σ1, H1, cls, d, rfl, J0, ground, up0, sky, na, os1, bare1, b, hb1, yes, no⟩ := air
    have J : Inv X pins σ1 H1 sI := J0.ofTry okX
    have skyX : Sky B (X.env :: X.outer) a (Zc cls d) X.env.locals s'.heap := by
      rw [← hs]
      exact sky
    have Ba : B.get? a = none := by
      rcases skyX with ⟨_, z, _⟩ | ⟨_, z, _⟩ | ⟨_, z, _⟩ <;> exact z
    show wpAny (model X.prog X.w) X.A (noteFrame (.ref a) X.env) _ _ _
    refine Sky.land Zc.steady frames hf skyX fun h3 fl3 up3 => ?_
    have J3 : Inv X pins σ1 H1 { s' with heap := h3 } := J.landed ground fl3.1 (up0.trans up3) os1 bare1
    obtain ⟨oe3, vs3, he3, hz3, hd3⟩ := fl3.there
    have off : a ∉ frs (X.env :: X.outer) := fun hm => by
      obtain ⟨_, o', e', hnf⟩ := fl3.2.2.1.mem hm
      rw [he3] at e'
      cases e'
      exact hnf _ hd3
    have sIa : sI.heap.get? a = none := by
      cases e : sI.heap.get? a with
      | none => rfl
      | some o =>
        have z := ground a o e (by rw [hs]; exact off)
        rw [Ba] at z
        cases z
    have s0a : X.s_0.heap.get? a = none := by
      cases e : X.s_0.heap.get? a with
      | none => rfl
      | some o =>
        obtain ⟨o', z⟩ := J.base.there a o e (by rw [hx]; exact fun z => nomatch z)
        rw [sIa] at z
        cases z
    have nL : a ≠ X.env.locals := fun z => off (List.mem_filterMap.mpr ⟨X.env, List.mem_cons_self, by rw [hf, z]⟩)
    have nF : a ∉ X.fs := fun hm => by
      obtain ⟨e, he, q⟩ := List.mem_filterMap.mp hm
      exact off (List.mem_filterMap.mpr ⟨e, List.mem_cons_of_mem _ he, q⟩)
    have nC : ∀ y k, X.env.cells.lookup y = some k → k ≠ a := fun y k e z => by
      obtain ⟨v, o, ho, _⟩ := J.cell y k e
      rw [z, sIa] at ho
      cases ho
    have nP : ∀ p ∈ X.pn ++ pins, p.1 ≠ a := fun p hp z => by
      have q := (J.pin p hp).1
      rw [z, sIa] at q
      cases q
    have S3 := J3.suite he3 hd3 na nL nF
    refine wpAny_handleBy_cons (codeAny_handlers_test ?_) (by intro q; cases q)
    have LT : PySem.W.Looks (model X.prog X.w) h3 (typeOf (.ref a)) cls := fun A Q E s k q => wpAny_typeOf_ref (k _ _ he3) (by rw [hz3.1]; exact q)
    have LM := PySem.W.exm_one (M := model X.prog X.w) (J3.kIn) LT hb1
    have named : ∀ {Q : Value → Shared → Prop} {E : Value → Shared → Prop}, Q c { s' with heap := h3 } →
        wpAny (model X.prog X.w) (X.A.mark (some (.ref a))) (eval (.Name x np) X.env) Q E { s' with heap := h3 } := fun {Q E} q => by
      obtain ⟨hg, hdbg, hm | ⟨hm, hv, hnn⟩⟩ := hc
      · exact ld_glob (X := X.suite a ((a, oe3) :: (X.pn ++ pins))) S3 hg hm q hdbg
      · exact ld_blt (X := X.suite a ((a, oe3) :: (X.pn ++ pins))) S3 hg hm hv q hnn hdbg
    refine named (LM.here ?_)
    cases b with
    | true =>
      refine codeAny_handlers_suite_as ?_
      refine HandSPX.lands_againZ fl3 fun h4 fl4 up4 => ?_
      have J4 : Inv X pins σ1 H1 { s' with heap := h4 } := J.landed ground fl4.1 ((up0.trans up3).trans up4) os1 bare1
      obtain ⟨oe4, vs4, he4, hz4, hd4⟩ := fl4.there
      have S4 := J4.suite he4 hd4 na nL nF
      refine store_ok (X := X.suite a ((a, oe4) :: (X.pn ++ pins))) (v := .ref a) S4 hN hi (.inl hln) rfl (fun s5 S5 => ?_) (.inr hln)
      have hiσ : i < σ1.length := by
        rw [J.len]
        exact (List.getElem?_eq_some_iff.mp hi).1
      have kept := pss_one (ps_set (X := X.suite a ((a, oe4) :: (X.pn ++ pins))) (pos := p3) (pos' := p1) hN hj lj (pe_var (X := X.suite a ((a, oe4) :: (X.pn ++ pins))) (pos := p2) hi (.inl hln) hdn hcn) (hsw _) (.inr hlm))
      refine wpAny_mono (kept.run [] s5 _ H1 { nx := fun σ' H' => H' = H1 ∧ σ' = (σ1.set i (some (.ref a))).set j (some (.ref a)), rt := fun _ _ => False, bk := fun _ _ => False, ct := fun _ _ => False } S5
        ⟨.ref a, by rw [List.getElem?_set_self hiσ], rfl, rfl⟩) (fun f s6 end6 => ?_) (fun _ _ z => False.elim z)
      cases f with
      | next =>
        obtain ⟨σ6, H6, S6, e6, e7⟩ := end6
        subst e6 e7
        have at6 := (S6.pin (a, oe4) (List.mem_append_left _ List.mem_cons_self)).1
        have J6 : Inv X pins _ H6 s6 := S6.unsuite okX
        have J7 := track (o := ExA cls d a) J6 na s0a nL nC nP (exA_ok at6 hz4 hd4)
        exact gone_ok J7 hN hi hln fun s8 J8 => ⟨_, _, J8, yes rfl a na⟩
      | ret u =>
        obtain ⟨_, _, _, _, _, z⟩ := end6
        exact z.elim
      | brk =>
        obtain ⟨_, _, _, z⟩ := end6
        exact z.elim
      | cont =>
        obtain ⟨_, _, _, z⟩ := end6
        exact z.elim
    | false =>
      show wpAny _ X.A (handleBy (.ref a) X.env []) _ _ _
      refine wpAny_handleBy_nil ?_
      obtain ⟨k1, k2, k3, oe, vs, T, oT, ts', he, hz, hd, h1, hr⟩ := id fl3
      unfold PySem.passOn
      refine wpAny_bind (wpAny_field he hd h1 ?_)
      rw [if_neg (by simp)]
      have out : wpAny (model X.prog X.w) X.A (setFlight (.ref a) X.env.frame) (fun _ s4 => wpAny (model X.prog X.w) X.A (throw (.ref a) : Sem Flow) (SP X pins D) X.xe s4) X.xe { s' with heap := h3 } := by
        rw [hf]
        refine HandSPX.setFlight_upZ fl3 fun h4 hh4 up4 => wpAny_throw (tk _ _ ?_)
        exact ⟨a, B, sI, pins, σ1, H1, cls, d, rfl, J, ground, (up0.trans up3).trans up4, .inr (.inr (by rw [hs]; exact hh4)), na, os1, bare1, no rfl⟩
      first
        | exact wpAny_bind (wpAny_pure (wpAny_bind out))
        | exact wpAny_bind out
end

/-- isinstance(e, c), e an exception that is kept -/
def rIsX (K : PySem.W.Frag) : List V → Hp → VK → Prop := fun xs H Q => ∃ (a D : Addr) (d : Option Addr) (c : V) (u : Value) (b : Bool), xs = [.ref a, c] ∧ ExcC K D ∧ H a = some (ExA (.ref D) d a) ∧ (∀ dd, d = some dd → ∃ fs, H dd = some (.xd fs)) ∧ ClsV c u ∧ PySem.W.kitOne K (.ref D) u = some b ∧ Q (.bl b) H
theorem inst_at {X : Cx} {pins : List (Addr × Obj)} {σ : L2.St} {H : Hp} {s : Shared} {a D : Addr} {d : Option Addr} (I : Inv X pins σ H s) (ha : H a = some (ExA (.ref D) d a)) (hd : ∀ dd, d = some dd → ∃ fs, H dd = some (.xd fs)) :
    ∃ oe od, PySem.W.InstAt s.heap a oe D od := by
  obtain ⟨oe, vs, e, ⟨z1, z2⟩, f⟩ := exA_at I.hok ha
  obtain ⟨oc, odd, oda, osl⟩ := oe
  dsimp only at z1 z2 f
  subst z1 z2 f
  cases odd with
  | none => exact ⟨_, none, e, rfl, rfl, trivial⟩
  | some dd =>
    obtain ⟨fs, hfs⟩ := hd dd rfl
    obtain ⟨mA, hns, _⟩ := (show ObjOk X.prog X.w H s.heap dd (.xd fs) from I.hok dd _ hfs)
    obtain ⟨od, ho, _⟩ := lookIn_ns hns
    exact ⟨_, some od, e, rfl, rfl, ho⟩
theorem call_isX {X : Cx} : CallR X (.builtin "isinstance") (rIsX X.K) := by
  intro pins s σ H xs us Q I r h
  obtain ⟨a, D, d, c, u, b, rfl, C, ha, hd, hc, e, q⟩ := h
  obtain ⟨u1, u2, rfl, r1, r2⟩ := vals2 r
  have e2 := hc.eq r2
  subst e2
  obtain rfl : u1 = Value.ref a := r1
  obtain ⟨oe, od, J⟩ := inst_at I ha hd
  exact PySem.W.kia_one (exc_kit C) I.kIn J e (fun z => nomatch z) fun tk => ⟨.bl b, H, I.tok tk, rfl, q⟩
theorem call_or {X : Cx} {f : Value} {r1 r2 : List V → Hp → VK → Prop} (h1 : CallR X f r1) (h2 : CallR X f r2) : CallR X f (fun xs H Q => r1 xs H Q ∨ r2 xs H Q) := by
  intro pins s σ H xs us Q I r h
  rcases h with h | h
  · exact h1 pins s σ H xs us Q I r h
  · exact h2 pins s σ H xs us Q I r h
/-- e.f of an exception that is kept -/
def tXa (K : PySem.W.Frag) (f : Str) (te : TE) : TE := fun σ H Q => te σ H fun x H1 => ∃ (a D dd : Addr) (fs : List (Str × V)) (v : V), x = .ref a ∧ XfC K D ∧ PySem.W.findIn K (.ref D) f = some none ∧ H1 a = some (ExA (.ref D) (some dd) a) ∧ H1 dd = some (.xd fs) ∧ fs.lookup f = some v ∧ Q v H1
theorem pe_xa {X : Cx} {e : Expr} {te : TE} {pos : Pos} {n : Str} (he : PE X e te) (hb : attributeBase e n X.env (eval e X.env) = eval e X.env := by rfl) : PE X (.Attribute e n pos) (tXa X.K n te) := by
  refine ⟨fun pins s σ H Q I h => ?_⟩
  refine attr_of hb (thn (he.run pins s σ H _ I h) fun u s1 got => ?_)
  obtain ⟨y, H1, I1, ry, a, D, dd, fs, v, rfl, T, hno, ha, hdd, hl, q⟩ := got
  obtain rfl : u = Value.ref a := ry
  obtain ⟨oe, vs, eo, ⟨z1, z2⟩, hd⟩ := exA_at I1.hok ha
  obtain ⟨mA, hns, hr⟩ := (show ObjOk X.prog X.w H1 s1.heap dd (.xd fs) from I1.hok dd _ hdd)
  obtain ⟨od, ho, lk⟩ := lookIn_ns hns
  obtain ⟨u, hu, ru⟩ := RelO.some_of (v := v) (o := mA n) (by rw [← hl]; exact hr n)
  have J : PySem.W.InstAt s1.heap a oe D (some od) := ⟨eo, z1, by unfold PySem.W.notCls; rw [hd] <;> rfl, by rw [z2]; exact ho⟩
  exact HandSPX.exc_get I1.kIn J T.ga T.gg T.exC (PySem.W.findObj_own T.hdC hno rfl (by rw [lk, hu])) (handed_of ru) ⟨v, H1, I1.tok _, ru, q⟩
end OB
/-! Lambdas handed to a def: with no parameter, or with one that has a written int as its default. -/
namespace OB
open PySem PySem.Spec PyProof.Rows L2 LamX

section kit
open PySem.W PySem.Calls
abbrev lFn (qual : Str) (params : Arguments) (body : Expr) (scope : Scope) (cl : List (Str × Addr)) (dV pm cdv ct : Value) : FuncData :=
  { name := "<lambda>", qualname := qual, params := params, body := .expr body, scope := scope, globals := mainGlobals, closure := cl, defaults := dV, kwdefaults := .none, doc := .none, pyModule := pm, annotations := none, code := cdv, closureTuple := ct, builtins := builtinsNs }
abbrev lObj (qual : Str) (params : Arguments) (body : Expr) (scope : Scope) (cl : List (Str × Addr)) (dV pm cdv ct : Value) : Obj :=
  { cls := .type "function", data := .func (lFn qual params body scope cl dV pm cdv ct) }
variable {M : Model} {A : Around} {E : Value → Shared → Prop} {s : Shared} {qual : Str} {params : Arguments} {body : Expr} {scope : Scope} {env : Env} {c P : Addr} {ps : Array Value} {pos : Pos} {firstLine : Nat} {mg : Str → Option Value}
  {clos : List (Str × Addr)} {Q : Value → Shared → Prop} {dV : Value}
/-- a lambda's object is made: the code object comes by hcode1 -/
theorem tail_by (hcl : closureFor scope env = pure clos) (hge0 : env.globals = mainGlobals) (hg : s.heap.Ns mainGlobals mg) (hgP : mainGlobals ≠ P) (hb : s.heap.BuiltinsAt mg P)
    {G : Value → Heap → Heap → Prop}
    (hG : ∀ cv h1 h2, G cv h1 h2 → Heap.ExtBut P h1 h2 ∧ h1.objs.size ≤ h2.objs.size)
    (code : ∀ (h1 : Heap) (tk1 : Tok) (Q1 : Value → Shared → Prop), (∀ b o, s.heap.get? b = some o → h1.get? b = some o) → s.heap.objs.size ≤ h1.objs.size →
      (∀ cv h2 tk, G cv h1 h2 → Q1 cv { s with heap := h2, toks := tk }) → wpAny M A (functionCode env pos firstLine "<lambda>" qual params scope (.expr body)) Q1 E { s with heap := h1, toks := tk1 })
    (h : ∀ cv ctv h1 h2 tk, (∀ b o, s.heap.get? b = some o → h1.get? b = some o) → s.heap.objs.size ≤ h1.objs.size → G cv h1 h2 →
      Q (.ref h2.objs.size) { s with heap := h2.push (lObj qual params body scope clos dV ((mg "__name__").getD .none) cv ctv), toks := tk }) :
    wpAny M A (makeTail "<lambda>" qual params (.expr body) scope env dV .none none pos firstLine) Q E s := by
  obtain ⟨bm, ob, hbm, hne0, _, hneP, hbo, hcls, hdict, hdata⟩ := hb
  have go : ∀ (ctv : Value) (h1 : Heap) (tk1 : Tok), (∀ b o, s.heap.get? b = some o → h1.get? b = some o) → s.heap.objs.size ≤ h1.objs.size →
      wpAny M A (functionCode env pos firstLine "<lambda>" qual params scope (.expr body) >>= fun cv => builtinsFor mainGlobals env.builtins >>= fun bi => nsGet mainGlobals "__name__" >>= fun nm => pure Value.none >>= fun doc =>
        newObj (.type "function") (.func { name := "<lambda>", qualname := qual, params := params, body := .expr body, scope := scope, globals := mainGlobals, closure := clos, closureTuple := ctv, code := cv, builtins := bi, defaults := dV, kwdefaults := .none, annotations := none, pyModule := nm.getD .none, doc := doc })) Q E { s with heap := h1, toks := tk1 } := by
    intro ctv h1 tk1 k1 z1
    refine wpAny_bind (code h1 tk1 _ k1 z1 fun cv h2 tk g => ?_)
    obtain ⟨x2, z2⟩ := hG cv h1 h2 g
    have hg2 := (hg.keeps k1).extBut x2 hgP
    refine wpAny_bind (wpAny_builtinsFor hg2 hbm hne0 (x2 _ _ hneP (k1 _ _ hbo)) hcls hdict hdata ?_)
    refine wpAny_bind (wpAny_nsGet hg2 ?_)
    exact wpAny_bind (wpAny_pure (wpAny_newObj_type (h cv ctv h1 h2 tk k1 z1 g) (by size_fits)))
  unfold makeTail
  rw [hcl, hge0]
  refine wpAny_bind (wpAny_pure ?_)
  cases clos with
  | nil => exact wpAny_bind (wpAny_pure (go .none s.heap s.toks (fun _ _ e => e) (Nat.le_refl _)))
  | cons q r =>
    refine wpAny_bind (wpAny_newTextTuple ?_)
    exact go _ _ s.toks (fun b o e => Heap.get?_push_of_some _ e) (by rw [Heap.size_push]; omega)
end kit

section
variable {X : Cx} {pins : List (Addr × Obj)} {σ : L2.St} {H : Hp} {s : Shared}
/-- what stands of a lambda's defaults: none, or a tuple of ints that nobody tracks -/
def DflAt (h : Heap) (H : Hp) (fs : List Addr) (dV : Value) : List Value → Prop
  | [] => dV = .none
  | ds => ∃ (T : Addr) (o : Obj) (n : Nat), dV = .ref T ∧ h.get? T = some o ∧ o.data = .seq ds.toArray n ∧ H T = none ∧ T ∉ fs
/-- a lambda is made from makeTail on -/
theorem lam_tail {T : List (Addr × Str)} {c P : Addr} {params : Arguments} {body : Expr} {scope : Scope} {pos : Pos} {dV : Value} {ds : List Value} {E : Value → Shared → Prop} {Q : Value → Shared → Prop} (I : Inv X pins σ H s) (TB : TabB X.base X.mg c P) (hcode : X.env.code = .ref c)
    (hm : (P, X.env.qual ++ "<lambda>") ∈ T) (hu : ∀ p ∈ T, p.1 = P → p.2 = X.env.qual ++ "<lambda>") (hT : Tabs T H) (hfree : ∀ y ∈ scope.names, y.2 = .free → ∃ c, X.env.cells.lookup y.1 = some c)
    (hd : DflAt s.heap H (X.env.locals :: X.fs) dV ds)
    (h : ∀ (f c' : Addr) (pm ctv : Value) (H1 : Hp) (s' : Shared), Inv X pins σ H1 s' → ExtN H H1 → Tabs T H1 → DflAt s'.heap H1 (X.env.locals :: X.fs) dV ds →
      s'.heap.get? f = some (lObj (X.env.qual ++ "<lambda>") params body scope (cloFrom X.env.cells scope.names []) dV pm (.ref c') ctv) → H1 f = none → f ≠ X.env.locals → f ∉ X.fs → H1 c' = some (CodeO c' (X.env.qual ++ "<lambda>")) → Q (.ref f) s') :
    wpAny (model X.prog X.w) X.A (makeTail "<lambda>" (X.env.qual ++ "<lambda>") params (.expr body) scope X.env dV .none none pos pos.line) Q E s := by
  obtain ⟨ps, hP, ht, ha⟩ := hT _ hm
  have bP : s.heap.BuiltinsAt X.mg P := TB.bm.keeps I.bk
  have hP' : s.heap.get? P = some { cls := .none, data := .fields ps } := I.hok P _ hP
  have nLoc : ∀ f, s.heap.objs.size ≤ f → f ≠ X.env.locals := fun f hf z => by
    have h1 := I.lt
    rw [← z] at h1
    exact Nat.lt_irrefl _ (Nat.lt_of_lt_of_le h1 hf)
  have CH := TB.code.keeps I.bk
  have later : ∀ {h1 : Heap} {H1 : Hp}, (∀ b o, s.heap.get? b = some o → H b = none → b ≠ P → h1.get? b = some o) → (∀ b o, s.heap.get? b = some o → H b = none → H1 b = none) → DflAt h1 H1 (X.env.locals :: X.fs) dV ds := fun {h1 H1} k1 k2 => by
    cases ds with
    | nil => exact hd
    | cons d r =>
      obtain ⟨Td, o, n, e1, e2, e3, e4, e5⟩ := hd
      refine ⟨Td, o, n, e1, k1 _ _ e2 e4 (fun z => ?_), e3, k2 _ _ e2 e4, e5⟩
      rw [z, hP] at e4
      cases e4
  cases hc : codeAmong pos ps.toList with
  | none =>
    refine tail_by (mg := X.mg) (P := P) (closure_ok hfree) I.ok.glob (I.mod.glob.keeps I.bk) TB.gP bP
      (G := fun cv h1 h2 => ∃ c', cv = .ref c' ∧ Heap.ExtBut P h1 h2 ∧ h1.objs.size ≤ c' ∧ c' < h2.objs.size ∧ h2.CodeRec (.ref c') (X.env.qual ++ "<lambda>") ∧ h2.get? P = some (PySem.W.tabObj (ps ++ #[rawInt pos.line, rawInt pos.col, .ref c'])))
      (fun cv h1 h2 ⟨c', _, x, l1, l2, _⟩ => ⟨x, Nat.le_trans l1 (Nat.le_of_lt l2)⟩) (fun h1 tk1 Q1 k1 z1 q1 => ?_) (fun cv ctv h1 h2 tk k1 z1 g => ?_)
    · exact wpAny_functionCodeX hcode ((CH.keeps k1).code (k1 _ _ hP') ht) ((CH.keeps k1).tab (k1 _ _ hP')) hc fun c' h2 tk hx hge hlt _ hrec htb _ => q1 (.ref c') h2 tk ⟨c', rfl, hx, hge, hlt, hrec, htb.2⟩
    · obtain ⟨c', rfl, hx, hge, hlt, hrec, htb⟩ := g
      obtain ⟨c2, oc, vs, t, e2, hoc, hdc, hv⟩ := hrec
      cases e2
      have hge' : s.heap.objs.size ≤ c' := Nat.le_trans z1 hge
      have hsz : s.heap.objs.size ≤ h2.objs.size := Nat.le_trans hge' (Nat.le_of_lt hlt)
      have nC : H c' = none := I.hok.fresh hge'
      have I1 := inv_table (t' := tk) (more := #[rawInt pos.line, rawInt pos.col, .ref c']) (h' := h2.push (lObj (X.env.qual ++ "<lambda>") params body scope (cloFrom X.env.cells scope.names []) dV ((X.mg "__name__").getD .none) (.ref c') ctv)) I hP
        (fun b o hb e => Heap.get?_push_of_some _ (hx b o hb (k1 _ _ e))) (Heap.get?_push_of_some _ htb) hge' ⟨oc, vs, t, Heap.get?_push_of_some _ hoc, hdc, hv⟩
      have hE : ExtN H (upd (upd H P (.tbl (ps ++ #[rawInt pos.line, rawInt pos.col, .ref c']))) c' (CodeO c' (X.env.qual ++ "<lambda>"))) := fun b o e n => by
        rw [upd_ne (ne_of_none e nC), upd_ne (fun z => n ps (Option.some.inj (e.symm.trans (by rw [z]; exact hP))))]
        exact e
      have eL : (ps ++ #[rawInt pos.line, rawInt pos.col, .ref c']).toList = ps.toList ++ [rawInt pos.line, rawInt pos.col, .ref c'] := by simp
      refine h h2.objs.size c' _ ctv _ _ I1 hE (fun p hp => ?_) (later (fun b o e n hb => Heap.get?_push_of_some _ (hx b o hb (k1 _ _ e))) fun b o e n => ?_) (Heap.get?_push_size _ rfl) ?_ (nLoc _ hsz) (I.nofs hsz) upd_same
      · by_cases hb : p.1 = P
        · rw [hu p hp hb, hb]
          refine ⟨_, by rw [upd_ne (ne_of_none hP nC), upd_same], by rw [eL]; exact PySem.TriplesOk_snoc _ _ _ _ ht, fun p' cv hcv => ?_⟩
          rw [eL] at hcv
          rcases among_app _ ht hcv with z | z
          · obtain ⟨c0, e1, e2⟩ := ha p' cv z
            exact ⟨c0, e1, hE _ _ e2 codeO_ne⟩
          · exact ⟨c', z, upd_same⟩
        · obtain ⟨ps', a1, a2, a3⟩ := hT p hp
          refine ⟨ps', by rw [upd_ne (ne_of_none a1 nC), upd_ne hb]; exact a1, a2, fun p' cv hcv => ?_⟩
          obtain ⟨c0, e1, e2⟩ := a3 p' cv hcv
          exact ⟨c0, e1, hE _ _ e2 codeO_ne⟩
      · rw [upd_ne (Nat.ne_of_lt (Nat.lt_of_lt_of_le (Heap.lt_size e) hge')), upd_ne (fun z => by rw [z, hP] at n; cases n)]
        exact n
      · rw [upd_ne (Nat.ne_of_gt hlt), upd_ne (Nat.ne_of_gt (Nat.lt_of_lt_of_le (Heap.lt_size hP') hsz))]
        exact I.hok.fresh hsz
  | some cv0 =>
    obtain ⟨c', e, hco⟩ := ha pos cv0 hc
    subst e
    refine tail_by (mg := X.mg) (P := P) (closure_ok hfree) I.ok.glob (I.mod.glob.keeps I.bk) TB.gP bP
      (G := fun cv h1 h2 => cv = .ref c' ∧ h2 = h1) (fun cv h1 h2 ⟨_, e⟩ => by rw [e]; exact ⟨fun _ _ _ e => e, Nat.le_refl _⟩) (fun h1 tk1 Q1 k1 z1 q1 => ?_) (fun cv ctv h1 h2 tk k1 z1 g => ?_)
    · exact wpAny_functionCode_hit hcode ((CH.keeps k1).code (k1 _ _ hP') ht) hc (q1 (.ref c') h1 tk1 ⟨rfl, rfl⟩)
    · obtain ⟨rfl, rfl⟩ := g
      have kk : ∀ b o, s.heap.get? b = some o → (h2.push (lObj (X.env.qual ++ "<lambda>") params body scope (cloFrom X.env.cells scope.names []) dV ((X.mg "__name__").getD .none) (.ref c') ctv)).get? b = some o := fun b o e => Heap.get?_push_of_some _ (k1 _ _ e)
      exact h h2.objs.size c' _ ctv H _ (I.kept (t' := tk) kk) (ExtN.refl H) hT (later (fun b o e _ _ => kk b o e) fun _ _ _ n => n) (Heap.get?_push_size _ rfl) (I.hok.fresh z1) (nLoc _ z1) (I.nofs z1) hco
end
end OB
namespace OB
open PySem PySem.Spec PyProof.Rows L2 LamX

/-- a lambda's names: captured ones, globals, and its parameters nm, which are no names of the def around -/
structure LamN (sc scope : Scope) (N nm : List Str) : Prop where
  kind : scope.kind = .function
  co : scope.isCoroutine = false
  gen : scope.isGenerator = false
  own : ∀ y ∈ scope.names, y.2 ≠ .cell ∧ (y.2 = .local → y.1 ∉ N)
  par : ∀ x ∈ nm, scope.names.lookup x = some .local
  free : ∀ y ∈ scope.names, y.2 = .free → sc.names.lookup y.1 = some .cell ∨ sc.names.lookup y.1 = some .free
def lamNB (sc scope : Scope) (N nm : List Str) : Bool :=
  decide (scope.kind = .function) && !scope.isCoroutine && !scope.isGenerator &&
    (scope.names.all fun y => !decide (y.2 = .cell) && (!decide (y.2 = .local) || decide (y.1 ∉ N)) && (!decide (y.2 = .free) || decide (sc.names.lookup y.1 = some .cell) || decide (sc.names.lookup y.1 = some .free))) &&
    nm.all fun x => decide (scope.names.lookup x = some .local)
theorem lamN_by {sc scope : Scope} {N nm : List Str} (h : lamNB sc scope N nm = true) : LamN sc scope N nm := by
  unfold lamNB at h
  simp only [Bool.and_eq_true, Bool.or_eq_true, Bool.not_eq_true', decide_eq_true_eq, decide_eq_false_iff_not, List.all_eq_true] at h
  obtain ⟨⟨⟨⟨h1, h2⟩, h3⟩, h4⟩, h5⟩ := h
  refine ⟨h1, h2, h3, fun y hy => ⟨(h4 y hy).1.1, fun e => ?_⟩, fun x hx => h5 x hx, fun y hy e => ?_⟩
  · rcases (h4 y hy).1.2 with z | z
    · exact absurd e z
    · exact z
  · rcases (h4 y hy).2 with (z | z) | z
    · exact absurd e z
    · exact .inl z
    · exact .inr z
theorem LamN.has {X : Cx} {scope : Scope} {N nm : List Str} (L : LamN X.env.scope scope N nm) (ok : X.Ok) : ∀ y ∈ scope.names, y.2 = .free → ∃ c, X.env.cells.lookup y.1 = some c := fun y hy e => by
  rcases L.free y hy e with k | k
  · exact ok.has _ (.inl k)
  · exact ok.has _ (.inr k)
section
variable {X : Cx} {pins : List (Addr × Obj)} {σ : L2.St} {H HZ : Hp} {s s1 : Shared}
theorem lam_start {A : Around} {outer : List Env} {E : XK} {scope : Scope} {f c' : Addr} {h₁ : Heap} {tk : Nat} {nm : List Str} {m1 : Str → Option Value} (I : Inv X pins σ H s) (L : LamN X.env.scope scope X.N nm) (e0 : Env0 X.prog X.w X.K X.mg X.base A outer s1 HZ) (hd : A.handled = none)
    (un : Un (frs X.stack) [] H HZ s.heap s1.heap) (hns : h₁.Ns s1.heap.objs.size m1) (kp : ∀ b o, s1.heap.get? b = some o → h₁.get? b = some o) :
    Inv (lamCx X A outer s1 HZ E scope f c') [] σ HZ { s1 with heap := h₁, toks := tk } := by
  have hfree := L.has I.ok
  have up : ∀ {y c}, (cloFrom X.env.cells scope.names []).lookup y = some c → X.env.cells.lookup y = some c := fun {y c} e => by
    rcases cloFrom_mem (PySem.mem_of_lookup e) with hm | ⟨h1, h2⟩
    · cases hm
    · obtain ⟨c1, hc⟩ := hfree _ h1 rfl
      have hc : X.env.cells.lookup y = some c1 := hc
      rw [hc] at h2
      have h3 : c = c1 := h2
      rw [h3]
      exact hc
  have down : ∀ {y}, scope.names.lookup y = some .free → ∃ c, (cloFrom X.env.cells scope.names []).lookup y = some c := fun {y} hl =>
    mem_lookup (cloFrom_has (cells := X.env.cells) (acc := []) (PySem.mem_of_lookup hl))
  have cellK : ∀ {c : Addr} {v : Option Value}, H c = none → s.heap.IsCell c v → h₁.IsCell c v := fun {c v} n ⟨o, ho, hd⟩ => by
    obtain ⟨sl, q⟩ := un.any ho n (by simp)
    exact ⟨_, kp _ _ q, hd⟩
  have noX : ∀ b : Addr, b ∉ (lamCx X A outer s1 HZ E scope f c').ex := fun b z => absurd (show b ∈ ([] : List Addr) from z) (by simp)
  refine ⟨⟨e0.mod, L.kind, rfl, rfl, Nat.le_refl _, fun y z c e1 e2 => I.ok.inj y z c (up e1) (up e2), fun y hy => ?_, fun y c z _ => ?_, fun _ => hd, Around.frames_deeper e0.frames, .inr ⟨rfl, rfl⟩, fun b z => absurd z (noX b), e0.bs, e0.bsz, fun b _ _ => noX b,
      fun b z => absurd z (noX b), e0.funs, e0.frf⟩,
    rfl, e0.bare, Un.kept kp, ⟨_, hns, fun i y v e1 e2 e3 => ?_⟩, fun y c e => ?_, e0.hok.fresh (Nat.le_refl _), fun y c e => ?_, fun q hq => absurd (show q ∈ ([] : List (Addr × Obj)) ++ [] from hq) (by simp), e0.hok.kept kp, I.len⟩
  · have hy : scope.names.lookup y = some .cell ∨ scope.names.lookup y = some .free := hy
    rcases hy with hy | hy
    · exact absurd rfl (L.own _ (PySem.mem_of_lookup hy)).1
    · exact down hy
  · have z : false = true := z
    cases z
  · have e3 : Vis scope y := e3
    have e1 : X.N[i]? = some y := e1
    rcases e3 with k | k | k
    · exact absurd (List.mem_of_getElem? e1) ((L.own _ (PySem.mem_of_lookup k)).2 rfl)
    · exact absurd rfl (L.own _ (PySem.mem_of_lookup k)).1
    · obtain ⟨m, hn, hl⟩ := I.loc
      have vis : Vis X.env.scope y := (L.free _ (PySem.mem_of_lookup k) rfl).elim (fun k => .inr (.inl k)) (fun k => .inr (.inr k))
      obtain ⟨w', r, q⟩ := hl i y v e1 e2 vis
      obtain ⟨c2, h2⟩ := down k
      refine ⟨w', r, .inr ⟨.inr k, c2, h2, ?_⟩⟩
      have c1 := up h2
      rcases q with ⟨k', _⟩ | ⟨_, c3, e', z⟩
      · have k' : X.env.scope.names.lookup y = some .local := k'
        rcases L.free _ (PySem.mem_of_lookup k) rfl with k2 | k2 <;> rw [show X.env.scope.names.lookup y = _ from k2] at k' <;> cases k'
      · rw [c1] at e'
        cases e'
        exact cellK (I.freeC y _ c1) z
  · obtain ⟨w', z⟩ := I.cell y c (up e)
    exact ⟨w', cellK (I.freeC y c (up e)) z⟩
  · obtain ⟨v, o, ho, hd⟩ := I.cell y c (up e)
    exact un.free c o ho (I.freeC y c (up e)) (by simp)
/-- how a lambda called with nothing binds its parameters nm to their defaults ds -/
def LamB (params : Arguments) (nm : List Str) (ds : List Value) : Prop :=
  ∀ (q : Str) (body : Expr) (scope : Scope) (cl : List (Str × Addr)) (dV pm cv ctv : Value) (M : Model) (A : Around) (E : Value → Shared → Prop) (s : Shared) (H : Hp) (fs : List Addr) (Q : List (Str × Value) → Shared → Prop),
    DflAt s.heap H fs dV ds → Q (nm.zip ds) s → wpAny M A (bindArgs (lFn q params body scope cl dV pm cv ctv) ⟨[], []⟩) Q E s
theorem lamB0 {params : Arguments} (h : ∀ (q : Str) (body : Expr) (scope : Scope) (cl : List (Str × Addr)) (pm cv ctv : Value), bindArgs (lFn q params body scope cl .none pm cv ctv) ⟨[], []⟩ = pure []) : LamB params [] [] :=
  fun q body scope cl dV pm cv ctv M A E s H fs Q hd hq => by
    have hd : dV = .none := hd
    rw [hd, h]
    exact wpAny_pure hq
theorem lamB1 {params : Arguments} {a : Str} {d : Value} (h : ∀ (q : Str) (body : Expr) (scope : Scope) (cl : List (Str × Addr)) (T : Addr) (pm cv ctv : Value), ∃ k, bindArgs (lFn q params body scope cl (.ref T) pm cv ctv) ⟨[], []⟩ = seqItems? (.ref T) >>= k ∧ k (some #[d]) = pure [(a, d)]) : LamB params [a] [d] :=
  fun q body scope cl dV pm cv ctv M A E s H fs Q hd hq => by
    obtain ⟨T, o, n, rfl, e2, e3, _⟩ := hd
    obtain ⟨k, e, ek⟩ := h q body scope cl T pm cv ctv
    rw [e]
    refine wpAny_bind (wpAny_seqItems e2 e3 ?_)
    rw [show (some [d].toArray : Option (Array Value)) = some #[d] from rfl, ek]
    exact wpAny_pure hq
/-- x(), in the def that got the lambda: Z is that def's context, entered at s -/
theorem pe_act {CXg : CXT} {Eg : XK} {Ng : List Str} {qg : Str} {sg : Scope} {g f c' : Addr} {cdg pm ctv dV : Value} {ds : List Value} {nm : List Str} {params : Arguments} {body : Expr} {scope : Scope} {k i : Nat} {a : Str} {pn : List (Addr × Obj)} {xe : Value → Shared → Prop} {W : WX} {tb : XK → TE} {p1 p2 : Pos}
    (I : Inv X pins σ H s) (L : LamN X.env.scope scope X.N nm) (hf : s.heap.get? f = some (lObj (X.env.qual ++ "<lambda>") params body scope (cloFrom X.env.cells scope.names []) dV pm (.ref c') ctv)) (hfn : H f = none) (hfr : f ∉ X.env.locals :: X.fs)
    (hbind : LamB params nm ds) (hds : DflAt s.heap H (X.env.locals :: X.fs) dV ds)
    (tk : Takes ((cxOf CXg X.prog X.w X.K X.mg X.base Ng qg sg g cdg X.A X.stack s H Eg).tr pn xe) W) (hr : Room (k + 1) (X.A.deeper (envOfC qg sg s.heap.objs.size g cdg)))
    (hbody : ∀ (A : Around) (outer : List Env) (s : Shared) (H : Hp) (E : XK), Room k (A.deeper (lamEnv X scope s.heap.objs.size f c')) → PE (lamCx X A outer s H E scope f c') body (tb E))
    (hN : Ng[i]? = some a) (hv : Vis sg a) (hd : (a == ("__debug__" : Str)) = false := by decide) (hcd : (a == ("__classdict__" : Str)) = false := by decide) :
    PE ((cxOf CXg X.prog X.w X.K X.mg X.base Ng qg sg g cdg X.A X.stack s H Eg).tr pn xe) (.Call (.Name a p1) [] [] p2)
      (fun σZ HZ Q => σZ[i]? = some (some (.ref f)) ∧ HZ c' = some (CodeO c' (X.env.qual ++ "<lambda>")) ∧ tb (fun cls d H' => W cls d σZ H') σ HZ Q) := by
  have nst : ∀ {b : Addr}, b ∉ X.env.locals :: X.fs → b ∉ frs X.stack := fun {b} h z => h (I.stkSub b z)
  refine ⟨fun pinsZ sZ σZ HZ Q IZ h => ?_⟩
  obtain ⟨hs, hc, ht⟩ := h
  refine wpAny_Call_Name_kw (thn ((pe_var (pos := p1) (i := i) hN hv hd hcd).run pinsZ sZ σZ HZ (fun v H1 => v = .ref f ∧ H1 = HZ) IZ ⟨.ref f, hs, rfl, rfl⟩) fun u s1 ⟨v, H1, I1, r1, q1⟩ => ?_)
  obtain ⟨ev, eH⟩ := q1
  subst ev
  rw [eH] at I1
  obtain rfl : u = Value.ref f := r1
  have keep1 : ∀ {b : Addr} {o : Obj}, s.heap.get? b = some o → H b = none → b ∉ X.env.locals :: X.fs → s1.heap.get? b = some o ∧ HZ b = none := fun {b o} e n nf =>
    ⟨I1.base.keep b _ e n (nst nf) (fun z => nomatch (show b ∈ ([] : List Addr) from z)), I1.base.free b _ e n (fun z => nomatch (show b ∈ ([] : List Addr) from z))⟩
  have of1 := (keep1 hf hfn hfr).1
  have ds1 : DflAt s1.heap HZ (X.env.locals :: X.fs) dV ds := by
    cases ds with
    | nil => exact hds
    | cons d r =>
      obtain ⟨T, o, n, e1, e2, e3, e4, e5⟩ := hds
      exact ⟨T, o, n, e1, (keep1 e2 e4 e5).1, e3, (keep1 e2 e4 e5).2, e5⟩
  refine PySem.W.callWith_F0 ⟨_, _, _, _, of1⟩ ?_
  have un : Un (frs X.stack) [] H HZ s.heap s1.heap := I1.base
  obtain ⟨⟨oc, vs, t, hoc, hdc, hvc⟩, _, _⟩ := I1.hok c' _ hc
  have rc : codeAny (model X.prog X.w) (X.A.deeper (envOfC qg sg s.heap.objs.size g cdg)) (.call (.ref f) ⟨[], []⟩) (CR (L2.CX X.prog X.w) (envOfC qg sg s.heap.objs.size g cdg :: X.stack) X.prog X.w HZ s1 Q fun cls d H' => W cls d σZ H') s1 := by
    refine PySem.W.kla_callFunE hr.depth of1 rfl L.co L.gen rfl ⟨c', oc, vs, t, rfl, hoc, hdc, hvc⟩ ?_
    refine hbind _ _ _ _ _ _ _ _ _ _ _ s1 HZ _ _ ds1 ?_
    refine wpAny_newFunctionEnv (fun y hy => (L.own y hy).1) (fun y hy => L.par _ (List.of_mem_zip (by simpa using hy)).1) (fun h₁ hns hsb => ⟨I1.nolimit.fresh _ hsb, ?_⟩) L.kind
    show codeAny _ _ (.expr body (lamEnv X scope s1.heap.objs.size f c')) _ _
    have kp : ∀ b o, s1.heap.get? b = some o → h₁.get? b = some o := fun b o e => hsb.extBut b o (Nat.ne_of_lt (Heap.lt_size e)) (Heap.get?_push_of_some _ e)
    have J : Inv (lamCx X (X.A.deeper (envOfC qg sg s.heap.objs.size g cdg)) (envOfC qg sg s.heap.objs.size g cdg :: X.stack) s1 HZ (fun cls d H' => W cls d σZ H') scope f c') [] σ HZ { s1 with heap := h₁, toks := s1.toks + (nm.zip ds).length } :=
      lam_start I L I1.env0 hr.hd un hns kp
    refine PySem.W.kla_codeExpr (wpAny_mono ((hbody _ _ s1 HZ _ (hr.deeper _)).run [] _ _ HZ Q J ht) (fun v s' hq => ?_) fun e s' hq => hq)
    obtain ⟨w', H', J', rv, q⟩ := hq
    exact ⟨w', H', J'.os, J'.bare, J'.base, J'.hok, rv, q⟩
  refine wpAny_call (codeAny_mono rc fun r s' hq => ?_)
  cases r with
  | error e => exact tk e s' (XE.of_call I1 (fun _ _ _ h => h) hq)
  | ok fl =>
    cases fl with
    | ret u => exact I1.after hq
    | next => exact False.elim hq
    | brk => exact False.elim hq
    | cont => exact False.elim hq
end
/-- a reading that grows with what is wanted -/
def MonoL (tl : XK → Hp → VK → Prop) : Prop := ∀ (E1 E2 : XK) (H : Hp) (Q1 Q2 : VK), (∀ c d H', E1 c d H' → E2 c d H') → (∀ v H', Q1 v H' → Q2 v H') → tl E1 H Q1 → tl E2 H Q2
/-- the def that calls what it got, beside other values vs; TT: what it makes of the lambda's reading -/
def Gives (X : Cx) (Ng : List Str) (x : Str) (sg : Scope) (g : Addr) (cdg : Value) (bg : List Stmt) (a : Str) (q : Str) (k : Nat) (TT : List V → (XK → Hp → VK → Prop) → Hp → VK → Prop) : Prop :=
  ∀ (f c' : Addr) (vs : List V) (s : Shared) (H : Hp) (Q : VK) (tl : XK → Hp → VK → Prop), Room k (X.A.deeper (envOfC x sg s.heap.objs.size g cdg)) →
    (∀ (W : WX) (pn : List (Addr × Obj)) (xe : Value → Shared → Prop) (p1 p2 : Pos), Takes ((cxOf L2.CX0 X.prog X.w X.K X.mg X.base Ng x sg g cdg X.A X.stack s H fun _ _ _ => False).tr pn xe) W →
      PE ((cxOf L2.CX0 X.prog X.w X.K X.mg X.base Ng x sg g cdg X.A X.stack s H fun _ _ _ => False).tr pn xe) (.Call (.Name a p1) [] [] p2) (fun σZ HZ Q => σZ[0]? = some (some (.ref f)) ∧ HZ c' = some (CodeO c' q) ∧ tl (fun cls d H' => W cls d σZ H') HZ Q)) →
    H c' = some (CodeO c' q) → MonoL tl → TT vs tl H Q →
    ∃ t, PSs (cxOf L2.CX0 X.prog X.w X.K X.mg X.base Ng x sg g cdg X.A X.stack s H fun _ _ _ => False).nox bg t ∧ t { nx := fun _ H' => Q .non H', rt := Q } (L2.start Ng (.ref f :: vs)) H
def tLam2 (T : List (Addr × Str)) (vs : List V) (TT : List V → (XK → Hp → VK → Prop) → Hp → VK → Prop) (t : XK → TE) : TE := fun σ H Q => Tabs T H ∧ ∀ H1, ExtN H H1 → Tabs T H1 → TT vs (fun E H' Q' => t E σ H' Q') H1 Q
section
variable {X : Cx}
/-- x(lambda: body, rest ..), rest written constants -/
theorem pe_lam {T : List (Addr × Str)} {vs : List V} {TT : List V → (XK → Hp → VK → Prop) → Hp → VK → Prop} {x a : Str} {g c P : Addr} {k : Nat} {pg : Arguments} {bg : List Stmt} {sg : Scope} {dV kV doc pm cdv ct oc : Value} {an od : Option Addr} {osl : Array (Option Value)} {Ng ps nm : List Str}
    {params : Arguments} {body : Expr} {rest : List Expr} {tr : TA} {dts : List Int} {scope : Scope} {t : XK → TE} {p lpos pos : Pos} (hg : Gl X x) (hm : X.mg x = some (.ref g)) (hk : PySem.W.keepIn X.K (.ref g) = true)
    (lk : X.K.lookup g = some ⟨oc, od, .func (PySem.W.fnOf x x pg bg sg dV kV doc pm an cdv ct), osl⟩) (hcg : PySem.W.codeIn X.K cdv x = true) (hb : L2.Binds X.K (PySem.W.fnOf x x pg bg sg dV kV doc pm an cdv ct) (a :: ps) []) (Sg : FnScope Ng (a :: ps) sg) (hNg : Ng[0]? = some a) (hva : Vis sg a)
    (hG : Gives X Ng x sg g cdv bg a (X.env.qual ++ "<lambda>") (k + 1) TT)
    (TB : TabB X.base X.mg c P) (hcode : X.env.code = .ref c) (hmT : (P, X.env.qual ++ "<lambda>") ∈ T) (hu : ∀ p ∈ T, p.1 = P → p.2 = X.env.qual ++ "<lambda>") (hr : Room (k + 2) X.A) (L : LamN X.env.scope scope X.N nm)
    (hdef : (dts = [] ∧ defaultsOf params X.env = ([], [])) ∨ ∃ n j dp, dts = [n] ∧ defaultsOf params X.env = ([eval (.Constant (.int n) j dp) X.env], []))
    (hbind : ∀ ds : List Value, Vals (dts.map V.int) ds → LamB params nm ds)
    (hmono : ∀ σ : L2.St, MonoL fun E H' Q' => t E σ H' Q') (hrest : PA X rest tr) (htr : ∀ σ H Q, tr σ H Q = Q vs H) (hvl : vs.length = ps.length)
    (hbody : ∀ (A : Around) (outer : List Env) (s : Shared) (H : Hp) (E : XK) (f c' : Addr), Room k (A.deeper (lamEnv X scope s.heap.objs.size f c')) → PE (lamCx X A outer s H E scope f c') body (t E))
    (he : starEach (.Lambda params body scope lpos :: rest) X.env = (false, eval (.Lambda params body scope lpos) X.env) :: starEach rest X.env := by rfl) (hpl : (backTo pos (starEach rest X.env)).any (·.1) = false := by rfl)
    (hdb : (x == ("__debug__" : Str)) = false := by decide) (hd : (a == ("__debug__" : Str)) = false := by decide) (hcd : (a == ("__classdict__" : Str)) = false := by decide) :
    PE X (.Call (.Name x p) (.Lambda params body scope lpos :: rest) [] pos) (tLam2 T vs TT t) := by
  refine ⟨fun pins s σ H Q I h => ?_⟩
  obtain ⟨hT, h⟩ := h
  refine wpAny_Call_Name_kw (ld_glob I hg hm ?_ hdb)
  refine PySem.W.callWith_K (h₀ := X.base) I.ok.mod.kin hk ?_ he hpl
  rw [he]
  show wpAny _ _ (spliced ((false, eval (.Lambda params body scope lpos) X.env) :: backTo pos (starEach rest X.env))) _ _ s
  -- from the making of the object on
  have go : ∀ (s0 : Shared) (dV : Value) (ds : List Value), Inv X pins σ H s0 → Vals (dts.map V.int) ds → DflAt s0.heap H (X.env.locals :: X.fs) dV ds →
      wpAny (model X.prog X.w) X.A (PySem.makeTail "<lambda>" (X.env.qual ++ "<lambda>") params (.expr body) scope X.env dV .none none lpos lpos.line)
        (fun u s1 => wpAny (model X.prog X.w) X.A (spliced (backTo pos (starEach rest X.env))) (fun us s2 => X.K.In s2.heap ∧ wpAny (model X.prog X.w) X.A (call (.ref g) ([] ++ u :: us)) (EP X pins σ Q) X.xe s2) X.xe s1) X.xe s0 := by
    intro s0 dV ds I0 rd hd0
    refine lam_tail I0 TB hcode hmT hu hT (L.has I0.ok) hd0 fun f c' pm' ctv H1 s' I1 eN T1 hd1 hf hfn hfL hfF hco => ?_
    obtain ⟨pl, hpl1, hpl2⟩ : ∃ pl : List (Addr × Obj), (∀ p ∈ pl, s'.heap.get? p.1 = some p.2 ∧ H1 p.1 = none ∧ p.1 ≠ X.env.locals ∧ p.1 ∉ X.fs ∧ ∀ v, p.2.data ≠ .cell v) ∧ (∀ h2 : Heap, (∀ p ∈ pl, h2.get? p.1 = some p.2) → DflAt h2 H1 (X.env.locals :: X.fs) dV ds) := by
      cases ds with
      | nil => exact ⟨[], (fun p hp => nomatch hp), fun _ _ => hd1⟩
      | cons d r =>
        obtain ⟨Td, o, n, e1, e2, e3, e4, e5⟩ := hd1
        refine ⟨[(Td, o)], fun p hp => ?_, fun h2 k => ⟨Td, o, n, e1, k _ List.mem_cons_self, e3, e4, e5⟩⟩
        obtain rfl : p = (Td, o) := by simpa using hp
        exact ⟨e2, e4, fun z => e5 (by rw [show Td = X.env.locals from z]; exact List.mem_cons_self), fun z => e5 (List.mem_cons_of_mem _ z), fun v z => by
          have z' : o.data = .cell v := z
          rw [e3] at z'
          cases z'⟩
    have J : Inv X (pins ++ ((f, _) :: pl)) σ H1 s' := I1.pins_of (pins' := pins ++ ((f, lObj (X.env.qual ++ "<lambda>") params body scope (cloFrom X.env.cells scope.names []) dV pm' (.ref c') ctv) :: pl)) fun p hp => by
      rcases List.mem_append.mp hp with hp | hp
      · exact I1.pin p (List.mem_append_right _ hp)
      · rcases List.mem_cons.mp hp with e | hp
        · rw [e]
          exact ⟨hf, hfn, hfL, hfF, fun v z => nomatch z⟩
        · exact hpl1 p hp
    refine thn (hrest.run pos _ s' σ H1 (fun vs' H' => vs' = vs ∧ H' = H1) J (by rw [htr]; exact ⟨rfl, rfl⟩)) fun us s2 ⟨vs', H2, I2, r2, e1, e2⟩ => ?_
    subst e1
    rw [e2] at I2
    have hf2 := (I2.pin (f, _) (List.mem_append_right _ (List.mem_append_right _ List.mem_cons_self))).1
    have hd2 : DflAt s2.heap H1 (X.env.locals :: X.fs) dV ds := hpl2 _ fun p hp => (I2.pin p (List.mem_append_right _ (List.mem_append_right _ (List.mem_cons_of_mem _ hp)))).1
    have I3 : Inv X pins σ H1 s2 := I2.unpinned
    refine ⟨I3.kIn, ?_⟩
    have rv : Vals (V.ref f :: vs') (Value.ref f :: us) := .cons rfl r2
    have hlen : (Value.ref f :: us).length = (a :: ps).length := by
      rw [← rv.length, List.length_cons, List.length_cons, hvl]
    have rc : codeAny (model X.prog X.w) X.A (.call (.ref g) ⟨.ref f :: us, []⟩) (CR L2.CX0 X.stack X.prog X.w H1 s2 Q fun _ _ _ => False) s2 := by
      refine run_ofS (N := Ng) (ps := a :: ps) (us := .ref f :: us) (vs := .ref f :: vs') lk hcg Sg hr I3.env0 (by have z := hb s2 (Value.ref f :: us) I3.kIn (by rw [List.append_nil]; exact hlen); rw [List.append_nil] at z; exact z) rv (by rw [List.length_cons, List.length_cons, hvl]) fun hr' => ?_
      obtain ⟨t', ht', hq'⟩ := hG f c' vs' s2 H1 Q (fun E H' Q' => t E σ H' Q') hr' (fun W pn xe p1 p2 tk => pe_act (i := 0) I3 L hf2 hfn (fun z => (List.mem_cons.mp z).elim hfL hfF) (hbind ds rd) hd2 tk hr' (fun A outer s H E hr2 => hbody A outer s H E f c' hr2) hNg hva hd hcd) hco (hmono σ) (h H1 eN T1)
      exact ⟨t', ht'.nox, hq'⟩
    refine wpAny_call (codeAny_mono rc fun r s3 hq => ?_)
    cases r with
    | error e => exact (show False from hq).elim
    | ok fl =>
      cases fl with
      | ret u => exact I3.after hq
      | next => exact False.elim hq
      | brk => exact False.elim hq
      | cont => exact False.elim hq
  refine Calls.spliced_cons ?_
  rw [PySem.arm_eval_Lambda]
  rcases hdef with ⟨rfl, hdef⟩ | ⟨n, j, dp, rfl, hdef⟩
  · rw [hdef]
    refine wpAny_bind (wpAny_pure (wpAny_bind (wpAny_holding (wpAny_pure ?_))))
    rw [PySem.makeFunction_eq]
    simp only [List.zip_nil_right, List.filterMap_nil, List.isEmpty_nil, if_true, pure_bind]
    exact go s .none [] I .nil rfl
  · rw [hdef]
    refine wpAny_bind (m := evalAll [eval (.Constant (.int n) j dp) X.env]) ?_
    unfold evalAll evalAll
    refine wpAny_bind (thn ((pe_int (X := X) (i := n) (j := j) (pos := dp)).run pins s σ H (fun v H' => v = .int n ∧ H' = H) I ⟨rfl, rfl⟩) fun u s1 ⟨v, H1, I1, r1, e1, e2⟩ => ?_)
    subst e1
    rw [e2] at I1
    refine wpAny_bind (wpAny_holding (wpAny_pure (wpAny_pure ?_)))
    refine wpAny_bind (wpAny_holding (wpAny_pure ?_))
    rw [PySem.makeFunction_eq]
    simp only [List.zip_nil_right, List.filterMap_nil, List.isEmpty_nil, List.isEmpty_cons, Bool.false_eq_true, if_true, if_false, pure_bind]
    refine wpAny_bind (wpAny_newTextTuple ?_)
    have sz : s1.heap.objs.size ≤ s1.heap.objs.size := Nat.le_refl _
    refine go _ (.ref s1.heap.objs.size) [u] (I1.kept (t' := s1.toks) fun b o e => Heap.get?_push_of_some _ e) (.cons r1 .nil) ⟨_, _, _, rfl, Heap.get?_push_size _ rfl, rfl, I1.hok.fresh sz, fun z => ?_⟩
    rcases List.mem_cons.mp z with z | z
    · exact Nat.lt_irrefl _ (show s1.heap.objs.size < s1.heap.objs.size by
        have q := I1.lt
        rw [← z] at q
        exact q)
    · exact I1.nofs sz z
end
end OB
/-! What a law draws from: a list of a list of ints, how many draws were made, what is left of a great one. -/
namespace OB
open PySem PySem.Spec PyProof.Rows L2
/-- the lot stands at p, its ints at b; at most n draws were made -/
def Orch (H : Hp) (p b : Addr) (n : Nat) : Prop := ∃ (ns : List Int) (t l : Int), H p = some (.lst [.ref b, .int t, .int l]) ∧ H b = some (.lst (ns.map V.int)) ∧ 0 ≤ t ∧ t ≤ n
theorem Orch.ne {H : Hp} {p b : Addr} {n : Nat} (o : Orch H p b n) : p ≠ b := by
  obtain ⟨ns, t, l, h1, h2, _⟩ := o
  refine ne_of h1 h2 fun z => ?_
  injection z with z
  cases ns with
  | nil => cases z
  | cons a r =>
    injection z with z _
    cases z
theorem Orch.keep {H H' : Hp} {p b : Addr} {n : Nat} (o : Orch H p b n) (hp : ∀ u, H p = some u → H' p = some u) (hb : ∀ u, H b = some u → H' b = some u) : Orch H' p b n := by
  obtain ⟨ns, t, l, h1, h2, h3⟩ := o
  exact ⟨ns, t, l, hp _ h1, hb _ h2, h3⟩
theorem Orch.same {H H' : Hp} {p b : Addr} {n : Nat} (o : Orch H p b n) (s : Same H H') : Orch H' p b n := o.keep (fun u => s p u) fun u => s b u
theorem Orch.mono {H : Hp} {p b : Addr} {n m : Nat} (o : Orch H p b n) (h : n ≤ m) : Orch H p b m := by
  obtain ⟨ns, t, l, h1, h2, h3, h4⟩ := o
  exact ⟨ns, t, l, h1, h2, h3, by omega⟩
theorem Orch.pn {H : Hp} {p b : Addr} {n : Nat} (o : Orch H p b n) : ∃ u, H p = some u := by
  obtain ⟨ns, t, l, h1, h2, h3, h4⟩ := o
  exact ⟨_, h1⟩
theorem Orch.bn {H : Hp} {p b : Addr} {n : Nat} (o : Orch H p b n) : ∃ u, H b = some u := by
  obtain ⟨ns, t, l, h1, h2, h3, h4⟩ := o
  exact ⟨_, h2⟩
/-- all that was tracked is as it was, but what stands at p -/
def But (p : Addr) (H H' : Hp) : Prop := ∀ q o, H q = some o → q ≠ p → H' q = some o
theorem But.refl {p : Addr} {H : Hp} : But p H H := fun _ _ h _ => h
theorem But.of {p : Addr} {H H' : Hp} (s : Same H H') : But p H H' := fun q o h _ => s q o h
theorem But.trans {p : Addr} {H H1 H2 : Hp} (a : But p H H1) (b : But p H1 H2) : But p H H2 := fun q o h n => b q o (a q o h n) n
theorem same_new {H : Hp} {l : Addr} {o : HO} (h : H l = none) : Same H (upd H l o) := fun b u e => by
  rw [upd_ne (ne_of_none e h)]
  exact e
theorem but_at {H : Hp} {p : Addr} {o : HO} : But p H (upd H p o) := fun q u e n => by
  rw [upd_ne n]
  exact e
/-- a draw from many: some number below many; the lot goes on -/
def spDraw : Sp := fun vs H Q _ => ∃ (p b : Addr) (n : Nat) (many : Int), vs = [.ref p, .int many] ∧ Orch H p b n ∧ n < 1000000 ∧ 0 < many ∧ many.natAbs < 2 ^ 9000 ∧
  ∀ (r : Int) (H' : Hp), 0 ≤ r → r < many → Orch H' p b (n + 1) → But p H H' → Q (.int r) H'
/-- the lot is made of a list of ints -/
def spLot (K : PySem.W.Frag) : Sp := fun vs H Q _ => ∃ (a : Addr) (ns : List Int), vs = [.ref a] ∧ SqL K H a (ns.map V.int) ∧ ns.length ≤ 63 ∧
  ∀ (p b : Addr) (H' : Hp), H p = none → H b = none → Orch H' p b 0 → Same H H' → Q (.ref p) H'
theorem mix1 {x t A B m : Int} (hm : 0 < m) (hm2 : m < 2 ^ 31) (ht : 0 ≤ t) (ht2 : t ≤ 1000000) (hA : 0 ≤ A) (hA2 : A ≤ 1000000) (hB : 0 ≤ B) (hB2 : B ≤ 1000000) : (x % m + A * t + B).natAbs < 2 ^ 64 := by
  have h1 := Int.emod_nonneg x (by omega : m ≠ 0)
  have h2 := Int.emod_lt_of_pos x hm
  have h3 : A * t ≤ 1000000 * 1000000 := Int.mul_le_mul hA2 ht2 ht (by decide)
  have h4 : 0 ≤ A * t := Int.mul_nonneg hA ht
  omega
theorem mix2 {x t A B C m : Int} (hm : 0 < m) (hm2 : m < 2 ^ 31) (ht : 0 ≤ t) (ht2 : t ≤ 1000000) (hA : 0 ≤ A) (hA2 : A ≤ 1000000) (hB : 0 ≤ B) (hB2 : B ≤ 1000000) (hC : 0 ≤ C) (hC2 : C ≤ 1000000) : (x % m * (2 * t + C) + A * t * t + B).natAbs < 2 ^ 64 := by
  have h1 := Int.emod_nonneg x (by omega : m ≠ 0)
  have h2 := Int.emod_lt_of_pos x hm
  have h3 : A * t ≤ 1000000 * 1000000 := Int.mul_le_mul hA2 ht2 ht (by decide)
  have h4 : 0 ≤ A * t := Int.mul_nonneg hA ht
  have h5 : A * t * t ≤ 1000000 * 1000000 * 1000000 := Int.mul_le_mul h3 ht2 ht (by decide)
  have h6 : 0 ≤ A * t * t := Int.mul_nonneg h4 ht
  have h7 : x % m * (2 * t + C) ≤ 2 ^ 31 * 3000000 := Int.mul_le_mul (by omega) (by omega) (by omega) (by decide)
  have h8 : 0 ≤ x % m * (2 * t + C) := Int.mul_nonneg h1 (by omega)
  omega
theorem mod_lim {x m : Int} (hm : 0 < m) (hm2 : m < 2 ^ 31) : -(2 ^ 64) < x % m ∧ x % m < 2 ^ 64 := by
  have h1 := Int.emod_nonneg x (by omega : m ≠ 0)
  have h2 := Int.emod_lt_of_pos x hm
  omega
theorem dp_ints {K : PySem.W.Frag} {H : Hp} : ∀ ns : List Int, DpAll K H (ns.map V.int) (ns.map PyData.int)
  | [] => .nil
  | n :: r => .cons (.int n) (dp_ints r)
theorem lay_ints : ∀ ns : List Int, PyData.canLayAll0 (ns.map PyData.int) = true
  | [] => by simp [PyData.canLayAll0]
  | n :: r => by simp [PyData.canLayAll0, PyData.canLay0, lay_ints r]
theorem deep_ints : ∀ ns : List Int, PyData.depthAll (ns.map PyData.int) ≤ 1
  | [] => by simp [PyData.depthAll]
  | n :: r => by
    have h := deep_ints r
    simp [PyData.depthAll, PyData.depth]
    omega
theorem shaped_ints (ns : List Int) : SeqAt.shaped (.list (ns.map PyData.int)) = true := by
  have h := deep_ints ns
  unfold SeqAt.shaped
  rw [Bool.and_eq_true]
  refine ⟨by simp [PyData.canLay0, lay_ints], decide_eq_true ?_⟩
  simp [PyData.depth]
  omega
theorem eqv_nil (ns : List Int) : PyData.eqv (.list (ns.map PyData.int)) (.list []) = decide (ns = []) := by
  cases ns with
  | nil => simp [PyData.eqv, PyData.eqvAll]
  | cons n r => simp [PyData.eqv, PyData.eqvAll]

/-! ### kinds of values: is it an integer -/
/-- x is of a kind of which isinstance(x, int) and not isinstance(x, bool) is b -/
def IsI (K : PySem.W.Frag) (H : Hp) (x : V) (b : Bool) : Prop := ∃ (n : String) (b1 b2 : Bool), TyX K H x (.type n) ∧ kitB n "int" = some b1 ∧ kitB n "bool" = some b2 ∧ b = (b1 && !b2)
section
variable {K : PySem.W.Frag} {H : Hp}
theorem isI_int (i : Int) : IsI K H (.int i) true := ⟨"int", true, false, .base (.int i), by decide +kernel, by decide +kernel, rfl⟩
theorem isI_non : IsI K H .non false := ⟨"NoneType", false, false, .base .non, by decide +kernel, by decide +kernel, rfl⟩
theorem isI_bl (b : Bool) : IsI K H (.bl b) false := ⟨"bool", true, true, .base (.bl b), by decide +kernel, by decide +kernel, rfl⟩
theorem isI_str (x : Str) : IsI K H (.str x) false := ⟨"str", false, false, .base (.str x), by decide +kernel, by decide +kernel, rfl⟩
theorem isI_lst {a : Addr} {xs : List V} (e : H a = some (.lst xs)) : IsI K H (.ref a) false := ⟨"list", false, false, .base (.lst e), by decide +kernel, by decide +kernel, rfl⟩
theorem isI_tup {a : Addr} {xs : List V} (e : H a = some (.tup xs)) : IsI K H (.ref a) false := ⟨"tuple", false, false, .base (.tup e), by decide +kernel, by decide +kernel, rfl⟩
theorem isI_dK {a : Addr} {kvs : List (Key × V)} (e : H a = some (.dK kvs)) : IsI K H (.ref a) false := ⟨"dict", false, false, .base (.dK e), by decide +kernel, by decide +kernel, rfl⟩
theorem isI_true {x : V} (h : IsI K H x true) : ∃ i, x = .int i := by
  obtain ⟨n, b1, b2, ty, e1, e2, e3⟩ := h
  have c1 : b1 = true := by
    cases b1
    · simp at e3
    · rfl
  have c2 : b2 = false := by
    cases b2
    · rfl
    · simp [c1] at e3
  subst c1 c2
  have no : ∀ {m : String}, kitB m "int" ≠ some true ∨ kitB m "bool" ≠ some false → n = m → False := fun h e => by
    subst e
    exact h.elim (fun z => z e1) fun z => z e2
  cases ty with
  | base h =>
    cases h with
    | int i => exact ⟨i, rfl⟩
    | non => exact (no (m := "NoneType") (.inl (by decide +kernel)) rfl).elim
    | bl b => exact (no (m := "bool") (.inr (by decide +kernel)) rfl).elim
    | str b => exact (no (m := "str") (.inl (by decide +kernel)) rfl).elim
    | flt b => exact (no (m := "float") (.inl (by decide +kernel)) rfl).elim
    | lst e => exact (no (m := "list") (.inl (by decide +kernel)) rfl).elim
    | frz e => exact (no (m := "list") (.inl (by decide +kernel)) rfl).elim
    | tup e => exact (no (m := "tuple") (.inl (by decide +kernel)) rfl).elim
    | dK e => exact (no (m := "dict") (.inl (by decide +kernel)) rfl).elim
    | dT e => exact (no (m := "dict") (.inl (by decide +kernel)) rfl).elim
  | byt b => exact (no (m := "bytes") (.inl (by decide +kernel)) rfl).elim
  | set e => exact (no (m := "set") (.inl (by decide +kernel)) rfl).elim
  | kList e c => exact (no (m := "list") (.inl (by decide +kernel)) rfl).elim
  | kTuple e c => exact (no (m := "tuple") (.inl (by decide +kernel)) rfl).elim
  | kDict e c => exact (no (m := "dict") (.inl (by decide +kernel)) rfl).elim
  | fTuple e => exact (no (m := "tuple") (.inl (by decide +kernel)) rfl).elim
  | fDict e => exact (no (m := "dict") (.inl (by decide +kernel)) rfl).elim
end
/-- a bound: an int or none -/
def oV : Option Int → V
  | none => .non
  | some i => .int i
def loOk (lo : Option Int) (i : Int) : Bool := match lo with
  | none => true
  | some l => decide (l ≤ i)
def hiOk (hi : Option Int) (i : Int) : Bool := match hi with
  | none => true
  | some h => decide (i ≤ h)
/-- an int within bounds -/
def inB (lo hi : Option Int) : V → Bool
  | .int i => loOk lo i && hiOk hi i
  | _ => false
def spIsInt (K : PySem.W.Frag) : Sp := fun vs H Q _ => ∃ (x : V) (b : Bool), vs = [x] ∧ IsI K H x b ∧ Q (.bl b) H
def spWithin (K : PySem.W.Frag) : Sp := fun vs H Q _ => ∃ (x : V) (lo hi : Option Int) (b : Bool), vs = [x, oV lo, oV hi] ∧ IsI K H x b ∧ Q (.bl (b && inB lo hi x)) H
/-- what raises the error at C, with its part, else returns None -/
def RaisesP (C : Addr) (part : Str) (E : XK) (H : Hp) : Prop := ∀ d, H d = none → E (.ref C) (some d) (upd H d (.xd [(("part" : Str), .str part)]))
def spNeedNumber (K : PySem.W.Frag) (C : Addr) : Sp := fun vs H Q E => ∃ (x : V) (part : Str) (lo hi : Option Int) (b : Bool), vs = [x, .str part, oV lo, oV hi] ∧ IsI K H x b ∧
  ((b && inB lo hi x) = true → Q .non H) ∧ ((b && inB lo hi x) = false → RaisesP C part E H)
def spNeedWord (K : PySem.W.Frag) (C : Addr) : Sp := fun vs H Q E => ∃ (x : V) (part : Str) (b : Bool), vs = [x, .str part] ∧ IsI K H x b ∧
  ((b && inB (some 0) none x) = true → Q .non H) ∧ ((b && inB (some 0) none x) = false → RaisesP C part E H)
/-- where nothing is raised the promise holds among calm ones -/
theorem calm_of {P : Program} {w : World} {K : PySem.W.Frag} {mg : Str → Option Value} {base : Heap} {k : Nat} {f : Addr} {fd : FuncData} {ps : List Str} {sp : Sp} (F : FnOk P w K mg base (L2.CX P w) k f fd ps sp) :
    FnOk P w K mg base CX0 k f fd ps (fun vs H Q _ => sp vs H Q fun _ _ _ => False) :=
  ⟨fun vs H Q E h => F.len vs H Q _ h, fun A outer s H args us vs Q E hr he hb hv hs => codeAny_mono (F.run A outer s H args us vs Q _ hr he hb hv hs) fun r s' hq => by
    cases r with
    | error e =>
      obtain ⟨_, _, _, _, _, _, _, _, _, _, _, _, z⟩ := hq
      exact z.elim
    | ok fl => cases fl <;> exact hq⟩
theorem iteB {b : Bool} {A B : Prop} (h1 : b = true → A) (h2 : b = false → B) : if b = true then A else B := by
  cases b with
  | true => exact iteT (h1 rfl)
  | false => exact iteF (h2 rfl)
end OB
set_option exponentiation.threshold 100000
/-! Own errors with one field, raised. -/
namespace OB
open PySem PySem.Spec PyProof.Rows L2
/-- a def of the text, as it stands behind the top -/
structure Df (K : PySem.W.Frag) (mg : Str → Option Value) (x : Str) (st : Stmt) (ps : List Str) (f : Addr) (fd : FuncData) : Prop where
  F : Fun K x x st f fd
  g : mg x = some (.ref f)
  b : Binds K fd ps []
/-- __init__(self, f): self.f = f of an own error -/
def spInit1 (K : PySem.W.Frag) (f : Str) : Sp := fun vs H Q _ => ∃ (a C : Addr) (v : V), vs = [.ref a, v] ∧ OexC K C ∧ PySem.W.findIn K (.ref C) f = some none ∧ H a = some (exo a C none) ∧
  ∀ dx, H dx = none → dx ≠ a → Q .non (upd (upd H dx (exd dx [(f, v)])) a (exo a C (some dx)))
section
variable {P : Program} {w : World} {K : PySem.W.Frag} {mg : Str → Option Value} {base : Heap}
theorem ok_init1 {qual : Str} {st : Stmt} {fI : Addr} {fd : FuncData} {f : Str} {p1 p2 p3 p4 : Pos} (F : Fun K "__init__" qual st fI fd) (S : FnScope ["self", f] ["self", f] (defScope st))
    (hb : defBody st = [.Assign [.Attribute (.Name "self" p1) f p2] (.Name f p3) p4])
    (hv : Vis (defScope st) f) (hs : Vis (defScope st) "self") (hd : (f == ("__debug__" : Str)) = false := by decide) (hcd : (f == ("__classdict__" : Str)) = false := by decide)
    (hsw : ∀ env : Env, swapsWith (.Name f p3) (some (.Attribute (.Name "self" p1) f p2)) p4.line env = pure false := by intro _; rfl) :
    FnOk P w K mg base CX0 1 fI fd ["self", f] (spInit1 K f) := by
  refine F.ok S (fun vs H Q E h => ?_) (fun cdv A outer s H vs Q E hr h => ?_)
  · obtain ⟨a, C, v, rfl, _⟩ := h
    rfl
  · obtain ⟨a, C, v, rfl, T, no, ha, k⟩ := h
    rw [hb]
    refine ⟨_, pss_one (ps_ost (pe_var (i := 0) rfl hs) (pe_var (i := 1) rfl hv hd hcd) (hsw _)), ?_⟩
    exact ⟨v, rfl, .ref a, rfl, a, C, rfl, T, no, .inl ⟨ha, fun dx n ne => k dx n ne⟩⟩
/-- an own error class with one field, as the top leaves it -/
structure Err (P : Program) (w : World) (K : PySem.W.Frag) (mg : Str → Option Value) (base : Heap) (x f : Str) (C fI : Addr) (fd : FuncData) : Prop where
  T : OexC K C
  iC : PySem.W.findIn K (.ref C) "__init__" = some (some (.ref fI))
  tI : PySem.W.typeIn K (.ref fI) = some (.type "function")
  F : FnOk P w K mg base CX0 1 fI fd ["self", f] (spInit1 K f)
  b : Binds K fd ["self", f] []
  g : mg x = some (.ref C)
  no : PySem.W.findIn K (.ref C) f = some none
theorem del_back {H : Hp} {a d : Addr} {o1 o2 o3 o4 : HO} (ha : H a = none) (n : d ≠ a) : upd (del (upd (upd (upd H a o1) d o2) a o3) a) d o4 = upd H d o4 := by
  funext b
  by_cases e : b = d
  · rw [e, upd_same, upd_same]
  · rw [upd_ne e, upd_ne e]
    by_cases e2 : b = a
    · rw [e2, del_same, ha]
    · rw [del_ne e2, upd_ne e2, upd_ne e, upd_ne e2]
end
/-- raise X(e) -/
def tRaise1 (K : PySem.W.Frag) (C : Addr) (f : Str) (W : WX) (te : TE) : TS := fun _ σ H => tMkO C (spInit1 K f) [] (tCons te tNil) σ H fun cls d H' => W cls d σ H'
theorem raise1_of {K : PySem.W.Frag} {C : Addr} {f : Str} {W : WX} {σ : L2.St} {H1 : Hp} {v : V} (T : OexC K C) (no : PySem.W.findIn K (.ref C) f = some none) (h : ∀ d, H1 d = none → W (.ref C) (some d) σ (upd H1 d (.xd [(f, v)]))) :
    tNil σ H1 fun xs H2 => (v :: xs).length ≤ 1000 ∧ ∀ a, H2 a = none → spInit1 K f (.ref a :: ((v :: xs) ++ [])) (upd H2 a (exo a C none))
      (fun u H3 => u = .non ∧ ∃ (d : Addr) (fs : List (Str × V)), H3 a = some (exo a C (some d)) ∧ H3 d = some (exd d fs) ∧ H2 d = none ∧ W (.ref C) (some d) σ (upd (del H3 a) d (.xd fs))) (fun _ _ _ => False) := by
  refine ⟨by show 1 ≤ 1000; decide, fun a ha => ⟨a, C, v, rfl, T, no, upd_same, fun dx nd ne => ?_⟩⟩
  rw [upd_ne ne] at nd
  refine ⟨rfl, dx, [(f, v)], upd_same, ?_, nd, ?_⟩
  · rw [upd_ne ne, upd_same]
  · rw [del_back ha ne]
    exact h dx nd
theorem ps_raise1 {X : Cx} {W : WX} {x f : Str} {C fI : Addr} {fd : FuncData} {e : Expr} {te : TE} {p p2 pos : Pos} (hc : X.calm = true) (tk : Takes X W) (R : Err X.prog X.w X.K X.mg X.base x f C fI fd) (hr : Room 2 X.A) (hg : Gl X x) (he : PE X e te)
    (hx : Passes CX0 X (fun _ _ _ => False) := by exact pass0) (hs : starEach [e] X.env = [(false, eval e X.env)] := by rfl) (hdb : (x == ("__debug__" : Str)) = false := by decide) :
    PS X (.Raise (some (.Call (.Name x p) [e] [] p2)) none pos) (tRaise1 X.K C f W te) :=
  ps_raise (pos := pos) hc tk (pmk_oex (p := p) (pos := p2) R.T R.iC R.tI R.F hr R.b .nil hx hg R.g (pa_cons he pa_nil hs) hdb hs)
section
variable {X : Cx}
/-- 1 << k -/
theorem op_oneN : OpR X (binaryOp .LShift) (fun x y H Q => ∃ k : Nat, x = .int 1 ∧ y = .int (k : Int) ∧ k ≤ 1000000 ∧ Q (.int ((2 ^ k : Nat) : Int)) H) := by
  intro pins s σ H x y v u Q I rx ry h
  obtain ⟨k, rfl, rfl, c, q⟩ := h
  refine op_shl pins s σ H _ _ v u Q I rx ry ⟨_, _, rfl, rfl, ⟨Int.natCast_nonneg _, by omega, by decide⟩, ?_⟩
  have e : (1 : Int) * 2 ^ ((k : Int)).toNat = ((2 ^ k : Nat) : Int) := by
    rw [Int.one_mul, Int.toNat_natCast, Int.natCast_pow]
    rfl
  show Q (.int ((1 : Int) * 2 ^ ((k : Int)).toNat)) H
  rw [e]
  exact q
end
theorem pow_lt9 {i : Nat} (h : i ≤ 8000) : ((2 ^ i : Nat) : Int).natAbs < 2 ^ 9000 := by
  rw [Int.natAbs_natCast]
  exact Nat.pow_lt_pow_right (by decide) (by omega)
section
variable {X : Cx} {CX : CXT} {k : Nat} {f : Addr} {fd : FuncData} {ps ks : List Str} {sp : Sp} {E : XK} {x : Str} {p pos : Pos} {kws : List Keyword} {tk : TA} {g : List Value → List Value → List Value} {gV : List V → List V → List V}
/-- f(k = v, ..): keywords alone -/
theorem pe_callKo (F : FnOk X.prog X.w X.K X.mg X.base CX k f fd ps sp) (hr : Room k X.A) (hg : Gl X x) (hm : X.mg x = some (.ref f)) (hk : PySem.W.keepIn X.K (.ref f) = true) (hb : KBinds X.K fd ps ks g gV) (hx : Passes CX X E)
    (hkw : PK X kws tk) (hall : (backToKw pos (keywordEach kws X.env)).all (·.1.isSome) = true := by rfl) (hks : (backToKw pos (keywordEach kws X.env)).filterMap (·.1) = ks := by rfl)
    (hdb : (x == ("__debug__" : Str)) = false := by decide)
    (hpl : ((backTo pos (starEach [] X.env)).any (·.1) || (backToKw pos (keywordEach kws X.env)).any (·.1.isNone)) = false := by rfl) :
    PE X (.Call (.Name x p) [] kws pos) (tCallK sp gV E tNil tk) := by
  refine ⟨fun pins s σ H Q I h => ?_⟩
  refine wpAny_Call_Name_kw (ld_glob I hg hm ?_ hdb)
  refine PySem.W.callWith_KW0 (h₀ := X.base) I.ok.mod.kin hk hall ?_ hpl
  refine thn (hkw.run pos pins s σ H _ I h) fun ws s2 ⟨zs, H2, I2, rz, q2⟩ => ⟨I2.kIn, ?_⟩
  rw [hks]
  exact run_fnk (us := []) F hr hb hx I2 .nil rz q2
end
/-- how the keywords of a def without defaults bind -/
theorem kbinds {K : PySem.W.Frag} {x qual : Str} {st : Stmt} {f : Addr} {fd : FuncData} {ps ks : List Str} {g : List Value → List Value → List Value} {gV : List V → List V → List V} (F : Fun K x qual st f fd)
    (h : ∀ (kV doc pm : Value) (an : Option Addr) (cdv ct : Value) (us ws : List Value), (g us ws).length = ps.length → bindArgs (PySem.W.fnOf x qual (defArgs st) (defBody st) (defScope st) .none kV doc pm an cdv ct) ⟨us, ks.zip ws⟩ = pure (ps.zip (g us ws)))
    (r : ∀ {vs : List V} {us : List Value} {zs : List V} {ws : List Value}, Vals vs us → Vals zs ws → Vals (gV vs zs) (g us ws)) : KBinds K fd ps ks g gV := by
  obtain ⟨oc, od, kV, doc, pm, an, cdv, ct, osl, rfl, lk, hcd⟩ := F.ex
  exact ⟨fun s us ws _ hl => .of_eq (h kV doc pm an cdv ct us ws hl), r⟩
theorem inB_nat (m : Nat) : inB (some 0) none (.int (m : Int)) = true := by
  show (decide ((0 : Int) ≤ (m : Int)) && true) = true
  rw [decide_eq_true (Int.natCast_nonneg m)]
  rfl
/-- isinstance asks by the table of classes -/
theorem kit_sub {K : PySem.W.Frag} {t : Value} {C : Addr} {b : Bool} (h1 : PySem.W.isClsIn K C = true) (h2 : PySem.W.typeIn K (.ref C) = some (.type "type")) (self : PySem.W.subIn K (.ref C) (.ref C) = some true) (h : PySem.W.subIn K t (.ref C) = some b) :
    PySem.W.kitOne K t (.ref C) = some b := by
  unfold PySem.W.kitOne
  by_cases e : (t == Value.ref C) = true
  · rw [if_pos e]
    have e2 : t = Value.ref C := beq_iff_eq.mp e
    subst e2
    rw [self] at h
    exact h
  · rw [if_neg e]
    have h1' : (PySem.W.clsIn K C).isSome = true := h1
    show (if ((PySem.W.clsIn K C).isSome && PySem.W.typeIn K (.ref C) == some (.type "type")) = true then PySem.W.subIn K t (.ref C) else none) = some b
    rw [h1', h2]
    exact h
end OB
/-! f'{n:b}' of a number from 0 on. -/
namespace OB
open PySem PySem.Spec PyProof.Rows L2
def binT (n : Nat) : Str := ⟨((Nat.toDigits 2 n).map fun c => c.toNat).toArray⟩
def spB : Str := Str.ofString "b"
section
open PySem.Builtin PySem.Builtin.Str PySem.Builtin.Int PySem.Builtin.Float
def fsB : FormatSpec := { align := 62, type := some 98 }
theorem fsB_ok : parseFormatSpec spB.cps.toList "int" 62 = .ok fsB := by kernel_rfl
theorem fsB_is : fsB.type = some 98 ∧ fsB.precision = none ∧ fsB.noNeg0 = false ∧ fsB.alt = false ∧ fsB.width = none ∧ fsB.grouping = none ∧ fsB.sign = none ∧ fsB.align = 62 ∧ fsB.fill = 32 := by decide +kernel
variable {prog : Program} {w : World} {A : Around} {E : Value → Shared → Prop} {s : Shared}
theorem digits_ne (n : Nat) : (Nat.toDigits 2 n).map (fun c => c.toNat) ≠ [] := by
  intro z
  have z := List.map_eq_nil_iff.mp z
  have := @Nat.length_toDigits_pos 2 n
  rw [z] at this
  exact absurd this (by decide)
theorem formatField_b {n : Nat} {t : Tok} {Q : Value → Shared → Prop} (hlen : (binT n).length ≤ sizeLine)
    (h : Q (.str (binT n) (s.toks + 1)) { s with toks := s.toks + 1 + 1 }) : wpAny (model prog w) A (formatField (.int (n : Int) t) spB) Q E s := by
  obtain ⟨hty, hpr, hz, hal, hw, hgr, hsg, hali, hfi⟩ := fsB_is
  have hp := fsB_ok
  generalize fsB = f at hty hpr hz hal hw hgr hsg hali hfi hp
  have hne : (spB.length == 0) = false := by decide
  have hasc : ((spB.cps.toList.drop 1).any (· ≥ 128) || (spB.cps.getD 0 0 ≥ 128 && !([60, 62, 61, 94] : List Nat).contains (spB.cps.getD 1 0))) = false := by decide
  show wpAny _ _ (holding [.int (n : Int) t] (pyFormat (.int (n : Int) t) spB)) Q E s
  refine wpAny_holding ?_
  unfold pyFormat
  refine wpAny_bind (wpAny_mkStr ?_ (by decide))
  refine wpAny_bind (m := callSpecial? (.int (n : Int) t) (Str.ofString "__format__") [.str spB s.toks]) (wpAny_callSpecial?_slot (name := Str.ofString "__format__") (typeIs_int _ (n : Int) t) slot_int_format ?_)
  refine wpAny_call (codeAny_call_builtin slot_int_format.plain entry_int_format (slot_int_format.check _ _ _ _ _ _ _ _ (typeIs_int _ (n : Int) t) (args_int_format _ _) ?_))
  unfold Builtin.«int.__format__»
  simp only [selfAndOne, noKeywords, Int.intOfSelf, asInt?, asStr?, List.isEmpty_nil, if_true, pure_bind, bind_pure, bind_assoc, hne, hasc, Bool.false_eq_true, if_false,
    show (Value.str spB s.toks == Value.none) = false from rfl]
  refine wpAny_bind (wpAny_typeNameOf (T := "str") (typeIs_str _ _ _) (by decide) fun _ => ?_)
  first | refine wpAny_bind (wpAny_typeNameOfCut_int ?_) | refine wpAny_bind (wpAny_typeNameOf_int ?_)
  simp only [hp, hty, Option.getD_some]
  rw [if_pos (by decide)]
  show wpAny _ _ (if _ then _ else _) _ _ _
  rw [if_neg (by simp [hpr])]
  show wpAny _ _ (if _ then _ else _) _ _ _
  rw [if_neg (by simp [hz])]
  show wpAny _ _ (if _ then _ else _) _ _ _
  rw [if_neg (by decide)]
  show wpAny _ _ (if _ then _ else _) _ _ _
  rw [if_neg (by decide)]
  show wpAny _ _ (if _ then _ else _) _ _ _
  rw [if_neg (by rw [hw]; decide)]
  have hneg : decide ((n : Int) < 0) = false := decide_eq_false (by omega)
  have key : ∀ z : Str, z = binT n → ∀ {Q' : Value → Shared → Prop} {E'} {s'} {A'}, Q' (.str (binT n) s'.toks) { s' with toks := s'.toks + 1 } → wpAny (model prog w) A' (retStr z) (fun fin s'' => ∃ v, fin = .done (.ret v) ∧ Q' v s'') E' s' := by
    intro z hz Q' E' s' A' hq
    subst hz
    unfold retStr
    exact wpAny_bind (wpAny_mkStr (wpAny_pure ⟨_, rfl, hq⟩) hlen)
  refine wpAny_mono (key _ ?_ (Q' := fun v s'' => v = .str (binT n) (s.toks + 1) ∧ s'' = { s with toks := s.toks + 1 + 1 }) ⟨rfl, rfl⟩) (fun fin s'' hh => ?_) (fun _ _ x => x)
  · simp only [hneg, hal, Bool.false_eq_true, if_false, Int.natAbs_natCast, show ((98 : Nat) == 88) = false from rfl, show ((2 : Nat) == 10) = false from rfl]
    have hd : ((Nat.toDigits 2 n).map fun c => c.toNat).isEmpty = false := by
      cases e : (Nat.toDigits 2 n).map fun c => c.toNat with
      | nil => exact absurd e (digits_ne n)
      | cons a r => rfl
    have z : ∀ k : Nat, ((-1 : Int) - 0 - (k : Int)).toNat = 0 := fun k => by omega
    have z2 : ∀ k : Nat, (0 : Nat) - k = 0 := fun k => by omega
    have z3 : ∀ k : Nat, ((-1 : Int) - (k : Int)).toNat = 0 := fun k => by omega
    clear key h hlen hp hne hasc
    unfold binT
    generalize ((Nat.toDigits 2 n).map fun c => c.toNat) = ds at hd ⊢
    cases f with
    | mk fill align sign noNeg0 alt width grouping precision type =>
      simp only at hgr hw hsg hali hfi hal hty hpr hz
      subst hgr hw hsg hali hfi hal hty hpr hz
      conv => lhs; whnf
      simp [z, z2, z3, hd]
  · obtain ⟨v, rfl, rfl, rfl⟩ := hh
    exact wpAny_bind (wpAny_isInstance (typeIs_str _ _ _) isSubtype_str_str (wpAny_pure h))
end
section
variable {X : Cx}
/-- f'{e:b}' -/
def tFmtB (te : TE) : TE := fun σ H Q => te σ H fun x H1 => ∃ n : Nat, x = .int (n : Int) ∧ (binT n).length ≤ sizeLine ∧ Q (.str (binT n)) H1
theorem pe_fmtB {e : Expr} {te : TE} {k : Nat} {p1 p2 p3 p4 : Pos} (he : PE X e te) : PE X (.JoinedStr [.FormattedValue e (-1) (some (.JoinedStr [.Constant (.str "b") k p1] p2)) p3] p4) (tFmtB te) := by
  refine pe_joined1 ⟨fun pins s σ H Q I h => ?_⟩
  refine wpAny_FormattedValue_spec (thn (he.run pins s σ H _ I h) fun v s1 ⟨x, H1, I1, r1, n, ex, hz, q⟩ => ?_)
  subst ex
  obtain ⟨t, rfl⟩ := r1
  refine thn ((pe_joined1 (pos := p2) (pe_str (X := X) (x := Str.ofString "b") (j := k) (pos := p1))).run pins s1 σ H1 (fun v H' => v = .str spB ∧ H' = H1) I1 ⟨rfl, rfl⟩) fun u s2 ⟨y, H2, I2, r2, e1, e2⟩ => ?_
  subst e1
  rw [e2] at I2
  obtain ⟨t2, rfl⟩ := r2
  exact ⟨spB, t2, rfl, formatField_b hz ⟨.str (binT n), H1, I2.tok _, ⟨_, rfl⟩, q⟩⟩
end
end OB
/-! enumerate of a text, enumerate of a list from its end. -/
namespace OB
open PySem PySem.Spec PyProof.Rows L2
/-- enumerate(text): each sign in a new pair -/
def Ites (x : Str) : It :=
  ⟨fun i _ => i < x.cps.size, fun i H v H' => ∃ T c, v = .ref T ∧ H T = none ∧ x.cps[i]? = some c ∧ H' = upd H T (.tup [.int (i : Nat), .str ⟨#[c]⟩]), fun i _ => x.cps.size ≤ i⟩
theorem turn_enumS {P : Program} {w : World} {K : PySem.W.Frag} {elts : List Expr} {kk : Nat} {tpos : Pos} (x : Str) (t : Tok) (e it : Addr) :
    Turn P w K (.Tuple elts kk tpos) (Ites x) [e, it] e (fun i h => (∃ old, IsEnum h e it ((i : Nat) : Int) old) ∧ h.IsStrIter it (strIterType x) x t i ∧ e ≠ it ∧ i ≤ x.cps.size) where
  mem := by simp
  obj := fun i h st b hb => by
    obtain ⟨⟨old, he⟩, ⟨o, ho, hc, hd⟩, _⟩ := st
    have e' : b = e ∨ b = it := by simpa using hb
    rcases e' with z | z
    · rw [z]; exact ⟨_, he, fun v q => nomatch q⟩
    · rw [z]; exact ⟨o, ho, fun v q => by rw [hd] at q; cases q⟩
  keep := fun i h h' st k => let ⟨⟨old, he⟩, ⟨o, ho, r⟩, hne⟩ := st; ⟨⟨old, k e (by simp) _ he⟩, ⟨o, k it (by simp) o ho, r⟩, hne⟩
  item := by
    intro X hP hw hK hc i pins s σ H E I hf st hg
    subst hP hw hK
    obtain ⟨⟨old, he⟩, hit, hne, hle⟩ := st
    have hg : i < x.cps.size := hg
    have hel : e < s.heap.objs.size := Heap.lt_size he
    have hil : it < s.heap.objs.size := by obtain ⟨_, q, _⟩ := hit; exact Heap.lt_size q
    have D : Draws X.prog X.w X.A.in1 it [it] x.cps.size (fun i v => ∃ c u, x.cps[i]? = some c ∧ v = .str ⟨#[c]⟩ u) (fun i h => h.IsStrIter it (strIterType x) x t i) := by
      unfold strIterType
      split
      · exact Draws.strAscii (A := X.A.in1) (I.ok.hd hc) it x t
      · exact Draws.strWide (A := X.A.in1) (I.ok.hd hc) it x t
    refine wpAny_pyNext_enum_itemD D he hit hg hne (by simpa using hne) fun v h' tk hv ho hit' hT hsz hk => ?_
    obtain ⟨c, u, hcx, rfl⟩ := hv
    refine ⟨_, rfl, wpAny_letOwnedTupleGo_enum (s := { s with heap := h', toks := tk + 1 }) ho fun h'' he' sb => ?_⟩
    have hT2 : h''.get? s.heap.objs.size = some { cls := .type "tuple", data := .seq #[.int i tk, .str ⟨#[c]⟩ u] } := (sb.2 _ (Nat.ne_of_gt hel)).trans hT
    have new : ObjOk X.prog X.w (upd H s.heap.objs.size (.tup [.int (i : Nat), .str ⟨#[c]⟩])) h'' s.heap.objs.size (.tup [.int (i : Nat), .str ⟨#[c]⟩]) :=
      ⟨by show 2 ≤ sizeLine; decide, [.int i tk, .str ⟨#[c]⟩ u], .cons ⟨_, rfl⟩ (.cons ⟨_, rfl⟩ .nil), ⟨_, hT2, rfl, _, rfl⟩⟩
    have I1 : Inv X pins σ (upd H s.heap.objs.size (.tup [.int (i : Nat), .str ⟨#[c]⟩])) { s with heap := h'', toks := tk + 1 } :=
      I.turnedNew (ch := [e, it]) (fun b ob hb q => (sb.2 b (fun z => hb (by simp [z]))).trans (hk b ob (fun z => hb (by simp [z])) (fun z => hb (by simp [z])) q)) hf (Nat.le_refl _) new
    refine ⟨.ref s.heap.objs.size, _, I1, rfl, ⟨_, c, rfl, I.hok.fresh (Nat.le_refl _), hcx, rfl⟩, ⟨⟨.str ⟨#[c]⟩ u, ?_⟩, ?_, hne, hg⟩, fun b hb => ?_⟩
    · have e1 : ((i + 1 : Nat) : Int) = (i : Int) + 1 := by omega
      rw [e1]; exact he'
    · obtain ⟨o, q, r⟩ := hit'
      exact ⟨o, (sb.2 it (Ne.symm hne)).trans q, r⟩
    · have hb' : b < s.heap.objs.size := by
        have e' : b = e ∨ b = it := by simpa using hb
        rcases e' with z | z
        · rw [z]; exact hel
        · rw [z]; exact hil
      rw [upd_ne (Nat.ne_of_lt hb')]
      exact (hf b hb).1
  done := by
    intro X hP hw hK hc i pins s σ H E I hf st hg
    subst hP hw hK
    obtain ⟨⟨old, he⟩, hit, hne, hle⟩ := st
    have hg : x.cps.size ≤ i := hg
    have ei : i = x.cps.size := Nat.le_antisymm hle hg
    subst ei
    obtain ⟨f0, f1, f2, f3, f4, f5⟩ := hf it (by simp)
    have D : Draws X.prog X.w X.A.in1 it [it] x.cps.size (fun i v => ∃ c u, x.cps[i]? = some c ∧ v = .str ⟨#[c]⟩ u) (fun i h => h.IsStrIter it (strIterType x) x t i) := by
      unfold strIterType
      split
      · exact Draws.strAscii (A := X.A.in1) (I.ok.hd hc) it x t
      · exact Draws.strWide (A := X.A.in1) (I.ok.hd hc) it x t
    exact wpAny_pyNext_enum_endD D he hit fun h' eb => ⟨rfl, I.turned (t' := s.toks) (fun b o hb q => eb b o hb q) f0 f1 f3 f4 f5⟩
  self := fun A i s Q E st h => let ⟨⟨_, he⟩, _⟩ := st; wpAny_pyIter_enum he h
def iEnumS (ta : TA) : TI := fun σ H R => ta σ H fun vs H1 => ∃ x, vs = [.str x] ∧ R (Ites x) H1
theorem pi_enumS {X : Cx} {e : Expr} {ta : TA} {p pos tpos : Pos} {elts : List Expr} {kk : Nat} (hg : Gl X "enumerate") (hm : X.mg "enumerate" = none) (ha : PA X [e] ta) (hs : starEach [e] X.env = [(false, eval e X.env)] := by rfl) :
    PI X (.Tuple elts kk tpos) (.Call (.Name "enumerate" p) [e] [] pos) (iEnumS ta) := by
  refine ⟨fun pins s σ H R I h => ?_⟩
  refine Call_ (ld_blt I hg hm boot_enumerate (PyProof.Rows.callWith_type1 (thn (ha.run pos pins s σ H _ I h) fun us s1 ⟨vs, H1, I1, r1, q1⟩ => ?_) hs rfl))
  obtain ⟨x, ex, q⟩ := q1
  subst ex
  cases r1 with
  | cons r rr =>
    cases rr
    obtain ⟨t, rfl⟩ := r
    refine call_enumerate_str fun h' he hit hsz hk => wpAny_pyIter_enum he ?_
    have I2 : Inv X pins σ H1 { s1 with heap := h' } := I1.kept (t' := s1.toks) hk
    refine ⟨s1.heap.objs.size + 1, [s1.heap.objs.size + 1, s1.heap.objs.size], _, _, H1, rfl, I2, turn_enumS x t (s1.heap.objs.size + 1) s1.heap.objs.size, ⟨⟨.none, he⟩, hit, Nat.succ_ne_self _, Nat.zero_le _⟩, fun b hb => ?_, q⟩
    have e' : b = s1.heap.objs.size + 1 ∨ b = s1.heap.objs.size := by simpa using hb
    have hle : s1.heap.objs.size ≤ b := by
      rcases e' with z | z
      · rw [z]; exact Nat.le_add_right _ _
      · rw [z]; exact Nat.le_refl _
    exact I1.fpOk hle (I1.hok.fresh hle)
theorem walk_enumS {x : Str} : Walk (Ites x) x.cps.size (fun _ => True) (YPair (fun i => some (.int (i : Nat))) (fun i => x.cps[i]?.map fun c => .str ⟨#[c]⟩)) := by
  refine ⟨fun i _ hi _ => hi, fun _ _ => Nat.le_refl _, fun i H v H' _ _ y => ?_⟩
  obtain ⟨T, c, h1, h2, h3, h4⟩ := y
  exact ⟨T, .int (i : Nat), .str ⟨#[c]⟩, h1, h2, h4, rfl, by show x.cps[i]?.map _ = _; rw [h3]; rfl⟩
end OB
namespace OB
open PySem PySem.Spec PyProof.Rows L2
open AutoSeq1 (wpAny_loadPart')
section
variable {prog : Program} {w : World} {A : Around} {E : Value → Shared → Prop} {s : Shared}
theorem nextOf_rev_item {it l : Addr} {i : Nat} {items : Array Value} {x : Value} {Q : Value → Shared → Prop} (hit : s.heap.IsRevIter it l (i : Int)) (hl : s.heap.IsList l items) (hx : items[i]? = some x)
    (hQ : ∀ h', h'.IsRevIter it l ((i : Int) - 1) → Heap.SameBut it s.heap h' → Q x { s with heap := h' }) : wpAny (model prog w) A (Builtin.SmallTypes.nextOf (.ref it)) Q E s := by
  obtain ⟨o, ho, hc, hd⟩ := id hit
  obtain ⟨ol, hol, _, nl, hdl⟩ := hl
  unfold Builtin.SmallTypes.nextOf
  refine wpAny_bind (wpAny_callSpecial?_slot (name := Str.ofString "__next__") hit.typeIs F.slot_lri_next
    (wpAny_call_entry F.slot_lri_next hit.typeIs F.entry_lri_next ?_ (F.args_lri_next_1 _)))
  unfold Builtin.«list_reverseiterator.__next__»
  refine wpAny_bind (wpAny_of_eq (a := (Value.ref it, [])) rfl ?_)
  try dsimp only
  refine wpAny_bind (wpAny_field ho hd (x := rawInt (i : Int)) rfl ?_)
  show wpAny _ _ (if (i : Int) < 0 then _ else _) _ _ s
  rw [if_neg (by omega)]
  show wpAny _ _ (field (.ref it) 0 >>= _) _ _ s
  refine wpAny_bind (wpAny_field ho hd (x := .ref l) rfl ?_)
  show wpAny _ _ (seqItems? (.ref l) >>= _) _ _ s
  refine wpAny_bind (wpAny_seqItems hol hdl ?_)
  simp only [Int.toNat_natCast, hx]
  refine wpAny_bind (wpAny_setField ho hd (by simp) ?_)
  first
  | refine wpAny_pure ⟨x, rfl, wpAny_pure (hQ _ ?_ (Heap.SameBut.update ..))⟩
  | refine wpAny_bind (wpAny_pure (wpAny_pure ⟨x, rfl, wpAny_pure (hQ _ ?_ (Heap.SameBut.update ..))⟩))
  exact ⟨_, Heap.get?_update_self _ ho (Obj.isFreed_of_fields (Obj.data_mapFields hd _)), (Obj.cls_mapFields ..).trans hc, by
    rw [Obj.data_mapFields hd]; simp⟩
theorem nextOf_rev_end {it l : Addr} {Q : Value → Shared → Prop} (hh : A.handled = none) (hit : s.heap.IsRevIter it l (-1))
    (hE : ∀ h' e, Heap.ExtBut it s.heap h' → (∃ o, h'.get? e = some o ∧ o.cls = .type "StopIteration") → E (.ref e) { s with heap := h' }) :
    wpAny (model prog w) A (Builtin.SmallTypes.nextOf (.ref it)) Q E s := by
  obtain ⟨o, ho, hc, hd⟩ := id hit
  unfold Builtin.SmallTypes.nextOf
  refine wpAny_bind (wpAny_callSpecial?_slot (name := Str.ofString "__next__") hit.typeIs F.slot_lri_next
    (wpAny_call_entry F.slot_lri_next hit.typeIs F.entry_lri_next ?_ (F.args_lri_next_1 _)))
  unfold Builtin.«list_reverseiterator.__next__»
  refine wpAny_bind (wpAny_of_eq (a := (Value.ref it, [])) rfl ?_)
  try dsimp only
  refine wpAny_bind (wpAny_field ho hd (x := rawInt (-1)) rfl ?_)
  show wpAny _ _ (if (-1 : Int) < 0 then _ else _) _ _ s
  rw [if_pos (by decide)]
  refine wpAny_bind (wpAny_rule ?_)
  first
  | show wpAny _ _ (newExc (.type "StopIteration") [] >>= _) _ _ _
  | (refine wpAny_bind ?_; show wpAny _ _ (newExc (.type "StopIteration") [] >>= _) _ _ _)
  refine wpAny_bind ?_
  simp only [newExc, newTuple]
  refine wpAny_bind (wpAny_newObj_type ?_ (by size_fits))
  refine wpAny_bind (m := firstArgMember _ _) (wpAny_of_eq (a := Value.none) (by first | rfl | (simp only [firstArgMember]; rfl)) ?_)
  refine wpAny_newObj_type ?_ (by size_fits)
  simp only [raiseNew]
  refine wpAny_bind (wpAny_handled ?_)
  first | rw [show A.in1.handled = none from hh] | rw [hh]
  refine wpAny_bind (wpAny_pure (wpAny_throw ?_))
  exact hE _ _ (((Heap.ExtBut.refl _ _).push _).push _) ⟨_, Heap.get?_push_size _ rfl, rfl⟩
end
theorem drawsRev {prog : Program} {w : World} {A : Around} (hh : A.handled = none) (it l : Addr) (hne : l ≠ it) (items : Array Value) :
    Draws prog w A it [it, l] items.size (fun i v => items[items.size - 1 - i]? = some v) (fun i h => i ≤ items.size ∧ h.IsRevIter it l ((items.size : Int) - 1 - (i : Int)) ∧ h.IsList l items) where
  live := fun _ _ st => let ⟨_, ⟨o, ho, _⟩, _⟩ := st; ⟨o, ho⟩
  frame := fun _ _ _ x hk => ⟨x.1, x.2.1.at fun o e => hk it (by simp) o e, x.2.2.at fun o e => hk l (by simp) o e⟩
  item := fun i s Q E hi x hQ => by
    have e : (items.size : Int) - 1 - (i : Int) = ((items.size - 1 - i : Nat) : Int) := by omega
    have hit := x.2.1
    rw [e] at hit
    have hx : items[items.size - 1 - i]? = some (items[items.size - 1 - i]'(by omega)) := Array.getElem?_eq_getElem (by omega)
    refine nextOf_rev_item hit x.2.2 hx fun h' hit' hs' => ?_
    have e2 : ((items.size - 1 - i : Nat) : Int) - 1 = (items.size : Int) - 1 - ((i + 1 : Nat) : Int) := by omega
    rw [e2] at hit'
    exact hQ _ h' s.toks hx ⟨hi, hit', x.2.2.at fun o eo => (hs'.2 l hne).trans eo⟩ hs'
  done := fun s Q E x hE => by
    have e : (items.size : Int) - 1 - (items.size : Int) = -1 := by omega
    have hit := x.2.1
    rw [e] at hit
    exact nextOf_rev_end hh hit hE
theorem meets_enumerate_newR (l it : Addr) (i : Int) :
    Meets (Builtin.«enumerate.__new__» ⟨[.type "enumerate", .ref it], []⟩) (fun _ R s => s.heap.get? it = some (revObj l i) ∧
      R (.ok (.ret (.ref s.heap.objs.size)))
        { s with heap := s.heap.push { cls := .type "enumerate", data := .fields #[.none, .bool false, .ref it, rawInt 0, .none, .none] } }) :=
  .of_wp fun prog w A R s h => by
    obtain ⟨hp, g, d, tk, os⟩ := s; obtain ⟨hl, h⟩ := h
    have hsub := sub_enumerate
    have hL : Heap.IsRevIter (Shared.heap ⟨hp, g, d, tk, os⟩) it l i := ⟨_, hl, rfl, rfl⟩
    wp_walk using wpAny_loadPart' hl
    refine wpAny_stack_any fun st => wpAny_pure ?_
    split
    · rename_i c _ _ _ _ _
      cases (c == Value.type "enumerate")
      · wp_walk using wpAny_loadPart' hl, wpAny_pyIter_revIter hL
        exact ⟨_, rfl, h⟩
      · wp_walk using wpAny_loadPart' hl, wpAny_pyIter_revIter hL
        exact ⟨_, rfl, h⟩
    · wp_walk using wpAny_loadPart' hl, wpAny_pyIter_revIter hL
      exact ⟨_, rfl, h⟩
end OB
namespace OB
open PySem PySem.Spec PyProof.Rows L2
/-- enumerate(reversed(list)): the list at a keeps its n items -/
def Iter (K : PySem.W.Frag) (a : Addr) (n : Nat) : It :=
  ⟨fun i H => ∃ (xs : List V) (x : V), SqL K H a xs ∧ xs.length = n ∧ i < n ∧ xs[n - 1 - i]? = some x, fun i H v H' => ∃ T x, v = .ref T ∧ H T = none ∧ H' = upd H T (.tup [.int (i : Nat), x]) ∧ ∀ xs, SqL K H a xs → xs[n - 1 - i]? = some x,
    fun i H => ∃ xs : List V, SqL K H a xs ∧ xs.length = n ∧ n ≤ i⟩
theorem turn_enumR {P : Program} {w : World} {K : PySem.W.Frag} {elts : List Expr} {kk : Nat} {tpos : Pos} (a e it : Addr) (n : Nat) (hae : a ≠ e) (hai : a ≠ it) :
    Turn P w K (.Tuple elts kk tpos) (Iter K a n) [e, it] e (fun i h => (∃ old, IsEnum h e it ((i : Nat) : Int) old) ∧ h.IsRevIter it a ((n : Int) - 1 - (i : Nat)) ∧ e ≠ it ∧ i ≤ n) where
  mem := by simp
  obj := fun i h st b hb => by
    obtain ⟨⟨old, he⟩, ⟨o, ho, hc, hd⟩, _⟩ := st
    have e' : b = e ∨ b = it := by simpa using hb
    rcases e' with z | z
    · rw [z]; exact ⟨_, he, fun v q => nomatch q⟩
    · rw [z]; exact ⟨o, ho, fun v q => by rw [hd] at q; cases q⟩
  keep := fun i h h' st k => let ⟨⟨old, he⟩, hi, hne⟩ := st; ⟨⟨old, k e (by simp) _ he⟩, hi.at fun o q => k it (by simp) o q, hne⟩
  item := by
    intro X hP hw hK hc i pins s σ H E I hf st hg
    subst hP hw hK
    obtain ⟨⟨old, he⟩, hit, hne, hle⟩ := st
    obtain ⟨xs, x, hq, hn, hin, hx⟩ := hg
    subst hn
    obtain ⟨its, rv, p, hz⟩ := I.list hq
    have hlen := rv.length
    obtain ⟨u, hu, ru⟩ := rv.get hx
    have hel : e < s.heap.objs.size := Heap.lt_size he
    have hil : it < s.heap.objs.size := by obtain ⟨_, q, _⟩ := hit; exact Heap.lt_size q
    have hsz : its.toArray.size = xs.length := by rw [List.size_toArray, hlen]
    have D := drawsRev (prog := X.prog) (w := X.w) (A := X.A.in1) (I.ok.hd hc) it a hai its.toArray
    refine wpAny_pyNext_enum_itemD D he ⟨by omega, by rw [hsz]; exact hit, p.isList⟩ (by omega) hne (by simp [hne, hae.symm]) fun v h' tk hv ho hit' hT hsz' hk => ?_
    have ev : v = u := by
      rw [hsz] at hv
      have h2 : its.toArray[xs.length - 1 - i]? = some u := by simpa using hu
      exact Option.some.inj (hv.symm.trans h2)
    subst ev
    refine ⟨_, rfl, wpAny_letOwnedTupleGo_enum (s := { s with heap := h', toks := tk + 1 }) ho fun h'' he' sb => ?_⟩
    have hT2 : h''.get? s.heap.objs.size = some { cls := .type "tuple", data := .seq #[.int i tk, v] } := (sb.2 _ (Nat.ne_of_gt hel)).trans hT
    have new : ObjOk X.prog X.w (upd H s.heap.objs.size (.tup [.int (i : Nat), x])) h'' s.heap.objs.size (.tup [.int (i : Nat), x]) :=
      ⟨by show 2 ≤ sizeLine; decide, [.int i tk, v], .cons ⟨_, rfl⟩ (.cons ru .nil), ⟨_, hT2, rfl, _, rfl⟩⟩
    have I1 : Inv X pins σ (upd H s.heap.objs.size (.tup [.int (i : Nat), x])) { s with heap := h'', toks := tk + 1 } :=
      I.turnedNew (ch := [e, it]) (fun b ob hb q => (sb.2 b (fun z => hb (by simp [z]))).trans (hk b ob (fun z => hb (by simp [z])) (fun z => hb (by simp [z])) q)) hf (Nat.le_refl _) new
    refine ⟨.ref s.heap.objs.size, _, I1, rfl, ⟨_, x, rfl, I.hok.fresh (Nat.le_refl _), rfl, fun ys hy => by rw [I.list_inj hy hq]; exact hx⟩, ⟨⟨v, ?_⟩, ?_, hne, hin⟩, fun b hb => ?_⟩
    · have e1 : ((i + 1 : Nat) : Int) = (i : Int) + 1 := by omega
      rw [e1]; exact he'
    · have h3 := hit'.2.1
      rw [hsz] at h3
      exact h3.at fun o q => (sb.2 it (Ne.symm hne)).trans q
    · have hb' : b < s.heap.objs.size := by
        have e' : b = e ∨ b = it := by simpa using hb
        rcases e' with z | z
        · rw [z]; exact hel
        · rw [z]; exact hil
      rw [upd_ne (Nat.ne_of_lt hb')]
      exact (hf b hb).1
  done := by
    intro X hP hw hK hc i pins s σ H E I hf st hg
    subst hP hw hK
    obtain ⟨⟨old, he⟩, hit, hne, hle⟩ := st
    obtain ⟨xs, hq, hn, hge⟩ := hg
    subst hn
    obtain ⟨its, rv, p, hz⟩ := I.list hq
    have hlen := rv.length
    have ei : i = xs.length := Nat.le_antisymm hle hge
    subst ei
    have hsz : its.toArray.size = xs.length := by rw [List.size_toArray, hlen]
    obtain ⟨f0, f1, f2, f3, f4, f5⟩ := hf it (by simp)
    have D := drawsRev (prog := X.prog) (w := X.w) (A := X.A.in1) (I.ok.hd hc) it a hai its.toArray
    exact wpAny_pyNext_enum_endD D he ⟨Nat.le_refl _, by rw [hsz]; exact hit, p.isList⟩ fun h' eb => ⟨rfl, I.turned (t' := s.toks) (fun b o hb q => eb b o hb q) f0 f1 f3 f4 f5⟩
  self := fun A i s Q E st h => let ⟨⟨_, he⟩, _⟩ := st; wpAny_pyIter_enum he h
section
variable {prog : Program} {w : World} {A : Around} {E : Value → Shared → Prop} {s : Shared}
theorem call_enumerate_rev {l it : Addr} {i : Int} {Q : Value → Shared → Prop} (hL : s.heap.get? it = some (revObj l i))
    (h : Q (.ref s.heap.objs.size) { s with heap := s.heap.push { cls := .type "enumerate", data := .fields #[.none, .bool false, .ref it, rawInt 0, .none, .none] } }) :
    wpAny (model prog w) A (call (.type "enumerate") [.ref it]) Q E s := by
  refine callType_new F.called_enumerate (by decide) (F.typeCall_enumerate_1 _) (F.newCall_enumerate_1 _) (fun obj => F.args_object_init_2 obj _) F.entry_enumerate_new
    (meets_enumerate_newR l it i) ⟨hL, ?_⟩
  exact ⟨⟨_, Heap.get?_push_size _ rfl, rfl⟩, h⟩
end
def iEnumR (K : PySem.W.Frag) (te : TE) : TI := fun σ H R => te σ H fun v H1 => ∃ (a : Addr) (xs : List V), v = .ref a ∧ SqL K H1 a xs ∧ R (Iter K a xs.length) H1
theorem pi_enumR {X : Cx} {e : Expr} {te : TE} {p pos p2 pos2 tpos : Pos} {elts : List Expr} {kk : Nat} (hg : Gl X "enumerate") (hm : X.mg "enumerate" = none) (hg2 : Gl X "reversed") (hm2 : X.mg "reversed" = none) (he : PE X e te)
    (hs : starEach [e] X.env = (false, eval e X.env) :: starEach [] X.env := by rfl)
    (hs2 : starEach [.Call (.Name "reversed" p2) [e] [] pos2] X.env = (false, eval (.Call (.Name "reversed" p2) [e] [] pos2) X.env) :: starEach [] X.env := by rfl) :
    PI X (.Tuple elts kk tpos) (.Call (.Name "enumerate" p) [.Call (.Name "reversed" p2) [e] [] pos2] [] pos) (iEnumR X.K te) := by
  refine ⟨fun pins s σ H R I h => ?_⟩
  refine Call_ (ld_blt I hg hm boot_enumerate (PyProof.Rows.callWith_type1 (args_cons ?_ hs2) hs2 rfl))
  refine Call_ (ld_blt I hg2 hm2 PyProof.Rows.boot_reversed (PyProof.Rows.callWith_type1 (args_cons (thn (he.run pins s σ H _ I h) fun u s1 ⟨v, H1, I1, r1, q1⟩ => args_nil ?_) hs) hs rfl))
  obtain ⟨a, xs, ev, hq, q⟩ := q1
  subst ev
  obtain rfl : u = Value.ref a := r1
  obtain ⟨its, rv, p', hz⟩ := I1.list hq
  have hl := rv.length
  have hal : a < s1.heap.objs.size := by obtain ⟨_, z, _⟩ := p'.isList; exact Heap.lt_size z
  have e1 : ((its.toArray.size : Nat) : Int) - 1 = (xs.length : Int) - 1 - ((0 : Nat) : Int) := by simp only [List.size_toArray]; omega
  refine call_reversed_list p'.isList (args_nil ?_)
  refine call_enumerate_rev (l := a) (i := ((its.toArray.size : Nat) : Int) - 1) (Heap.get?_push_size _ rfl) ?_
  have hz1 : (s1.heap.push (revObj a ((its.toArray.size : Nat) - 1))).objs.size = s1.heap.objs.size + 1 := Heap.size_push ..
  have he1 : IsEnum ((s1.heap.push (revObj a (((its.toArray.size : Nat) : Int) - 1))).push { cls := .type "enumerate", data := .fields #[.none, .bool false, .ref s1.heap.objs.size, rawInt 0, .none, .none] }) (s1.heap.objs.size + 1) s1.heap.objs.size 0 .none := by
    have := Heap.get?_push_size (s1.heap.push (revObj a (((its.toArray.size : Nat) : Int) - 1))) (o := { cls := .type "enumerate", data := .fields #[.none, .bool false, .ref s1.heap.objs.size, rawInt 0, .none, .none] }) rfl
    rw [hz1] at this; exact this
  show wpAny _ _ (pyIter (.ref (s1.heap.push (revObj a (((its.toArray.size : Nat) : Int) - 1))).objs.size)) _ _ _
  rw [hz1]
  refine wpAny_pyIter_enum he1 ?_
  have I2 := I1.kept (t' := s1.toks) (h' := (s1.heap.push (revObj a (((its.toArray.size : Nat) : Int) - 1))).push { cls := .type "enumerate", data := .fields #[.none, .bool false, .ref s1.heap.objs.size, rawInt 0, .none, .none] }) fun b ob z => Heap.get?_push_of_some _ (Heap.get?_push_of_some _ z)
  refine ⟨s1.heap.objs.size + 1, [s1.heap.objs.size + 1, s1.heap.objs.size], _, _, H1, rfl, I2, turn_enumR a (s1.heap.objs.size + 1) s1.heap.objs.size xs.length (Nat.ne_of_lt (Nat.lt_succ_of_lt hal)) (Nat.ne_of_lt hal), ⟨⟨.none, he1⟩, ?_, Nat.succ_ne_self _, Nat.zero_le _⟩, fun b hb => ?_, q⟩
  · rw [← e1]
    exact ⟨_, Heap.get?_push_of_some _ (Heap.get?_push_size _ rfl), rfl, rfl⟩
  · have e' : b = s1.heap.objs.size + 1 ∨ b = s1.heap.objs.size := by simpa using hb
    have hle : s1.heap.objs.size ≤ b := by
      rcases e' with z | z
      · rw [z]; exact Nat.le_add_right _ _
      · rw [z]; exact Nat.le_refl _
    exact I1.fpOk hle (I1.hok.fresh hle)
theorem walk_enumR {K : PySem.W.Frag} {a : Addr} {xs : List V} : Walk (Iter K a xs.length) xs.length (fun H => SqL K H a xs) (YPair (fun i => some (.int (i : Nat))) (fun i => xs[xs.length - 1 - i]?)) := by
  refine ⟨fun i _ hi q => ⟨xs, xs[xs.length - 1 - i]'(by omega), q, rfl, hi, by simp [show xs.length - 1 - i < xs.length by omega]⟩, fun _ q => ⟨xs, q, rfl, Nat.le_refl _⟩, fun i H v H' _ q y => ?_⟩
  obtain ⟨T, x, h1, h2, h3, h4⟩ := y
  exact ⟨T, .int (i : Nat), x, h1, h2, h3, rfl, h4 xs q⟩
end OB
namespace OB
open PySem PySem.Spec PyProof.Rows L2
/-- a text from its end -/
def revT (x : Str) : Str := ⟨x.cps.reverse⟩
theorem sliceBy_rev (x : Str) (u : Tok) : Txt.sliceBy x none none (-1, u) = revT x := by
  have h := step_rev_list x u
  have e : (Txt.sliceBy x none none (-1, u)).cps = x.cps.reverse := by
    apply Array.toList_inj.mp
    rw [h, Array.toList_reverse]
    apply List.ext_getElem
    · simp [Str.length]
    · intro i h1 h2
      simp [Str.length] at h1
      simp [Array.getD, Str.length, h1, show x.cps.size - 1 - i < x.cps.size by omega]
  show Txt.sliceBy x none none (-1, u) = ⟨x.cps.reverse⟩
  rw [← e]
section
variable {X : Cx}
def tRevS (te : TE) : TE := fun σ H Q => te σ H fun x H1 => ∃ z, x = .str z ∧ z.length ≤ sizeLine ∧ Q (.str (revT z)) H1
theorem pe_revS {e : Expr} {te : TE} {k : Nat} {p1 p2 p3 pos : Pos} (he : PE X e te)
    (ht : ∀ x t r, letTemporaryGo e (.str x t) r = pure () := by intro _ _ _; with_unfolding_all rfl) : PE X (.Subscript e (.Slice none none (some (.UnaryOp .USub (.Constant (.int 1) k p1) p2)) p3) pos) (tRevS te) := by
  refine ⟨fun pins s σ H Q I h => ?_⟩
  refine Subscript_ (thn (he.run pins s σ H _ I h) fun v s1 ⟨x, H1, I1, r1, q1⟩ => ?_)
  obtain ⟨z, ex, hz, q⟩ := q1
  subst ex
  obtain ⟨t, rfl⟩ := r1
  have hst : PO X (some (.UnaryOp .USub (.Constant (.int 1) k p1) p2)) (tPart (tUn (rU fun i => .int (-i)) (tC (.int 1)))) := po_some (pe_un un_neg pe_int)
  refine wpAny_Slice (thn (po_none.run pins s1 σ H1 (fun o H2 => o = none ∧ H2 = H1) I1 ⟨rfl, rfl⟩) fun vl s2 ⟨l, H2, I2, pl, el, e2⟩ => ?_)
  subst el e2
  refine thn (po_none.run pins s2 σ H2 (fun o H3 => o = none ∧ H3 = H2) I2 ⟨rfl, rfl⟩) fun vu s3 ⟨u, H3, I3, pu, eu, e3⟩ => ?_
  subst eu e3
  refine thn (hst.run pins s3 σ H3 (fun o H4 => o = some (-1) ∧ H4 = H3) I3 ⟨1, rfl, -1, rfl, rfl, rfl⟩) fun vs s4 ⟨o, H4, I4, ps, eo, e4⟩ => ?_
  subst eo e4
  have I5 : Inv X pins σ H4 { s4 with heap := s4.heap.push { cls := .type "slice", data := .fields #[vl, vu, vs] } } := I4.kept (t' := s4.toks) fun b ob q => Heap.get?_push_of_some _ q
  have evl : vl = .none := by cases pl; rfl
  have evu : vu = .none := by cases pu; rfl
  obtain ⟨w, evs⟩ : ∃ w, vs = .int (-1) w := by cases ps; exact ⟨_, rfl⟩
  subst evl evu evs
  show wpAny (model X.prog X.w) X.A (subscriptTail e (.Slice none none (some (.UnaryOp .USub (.Constant (.int 1) k p1) p2)) p3) (.str z t) (.ref s4.heap.objs.size)) (EP X pins σ Q) X.xe { s4 with heap := s4.heap.push { cls := .type "slice", data := .fields #[.none, .none, .int (-1) w] } }
  refine tail_of_ItemOn ⟨"str", _, F.slot_str_getitem.lookup, typeIs_str _ _ _, wpAny_getItem_str_slice (l := none) (u := none) (st := some (-1, w)) ⟨_, Heap.get?_push_size _ rfl, rfl, rfl⟩ rfl
    (post_val_or_str ⟨Nat.le_trans (Txt.sliceBy_le z _ _ (-1, w) (by show (-1 : Int) ≠ 0; decide)) hz, fun t' c => ?_⟩)⟩ (by with_unfolding_all rfl) (ht z t)
  refine (show EP X pins σ Q (.str (Txt.sliceBy z none none (-1, w)) t') _ from ?_)
  rw [sliceBy_rev]
  exact ⟨.str (revT z), H4, I5.tok _, ⟨_, rfl⟩, q⟩
end
end OB
/-! len(set(x)) of a list or a tuple of ints, doubles among them. -/
namespace OB
open PySem PySem.Spec PyProof.Rows L2
theorem sub_len {α : Type} [DecidableEq α] : ∀ {l1 l2 : List α}, l1.Nodup → (∀ x ∈ l1, x ∈ l2) → l1.length ≤ l2.length
  | [], l2, _, _ => Nat.zero_le _
  | a :: r, l2, h, s => by
    have h2 := List.nodup_cons.mp h
    have ha : a ∈ l2 := s a List.mem_cons_self
    have ih := sub_len (l1 := r) (l2 := l2.erase a) h2.2 fun x hx => by
      have ne : x ≠ a := fun z => h2.1 (z ▸ hx)
      exact (List.mem_erase_of_ne ne).mpr (s x (List.mem_cons_of_mem _ hx))
    rw [List.length_erase_of_mem ha] at ih
    have pos : 0 < l2.length := List.length_pos_of_mem ha
    rw [List.length_cons]
    omega
theorem nodup_of_sub {α : Type} [DecidableEq α] : ∀ {l1 l2 : List α}, l1.Nodup → (∀ x ∈ l1, x ∈ l2) → l2.length ≤ l1.length → l2.Nodup
  | [], l2, _, _, hl => by
    have e : l2 = [] := List.length_eq_zero_iff.mp (Nat.le_zero.mp hl)
    rw [e]
    exact List.nodup_nil
  | a :: r, l2, h, s, hl => by
    have h2 := List.nodup_cons.mp h
    have ha : a ∈ l2 := s a List.mem_cons_self
    have hs : ∀ x ∈ r, x ∈ l2.erase a := fun x hx => by
      have ne : x ≠ a := fun z => h2.1 (z ▸ hx)
      exact (List.mem_erase_of_ne ne).mpr (s x (List.mem_cons_of_mem _ hx))
    have le := List.length_erase_of_mem ha
    have pos : 0 < l2.length := List.length_pos_of_mem ha
    rw [List.length_cons] at hl
    have ih := nodup_of_sub (l1 := r) (l2 := l2.erase a) h2.2 hs (by omega)
    have na : a ∉ l2.erase a := fun z => by
      have q := sub_len (l1 := a :: r) (l2 := l2.erase a) h fun x hx => by
        rcases List.mem_cons.mp hx with e | e
        · rw [e]
          exact z
        · exact hs x e
      rw [List.length_cons] at q
      omega
    exact ((List.perm_cons_erase ha).nodup_iff).mpr (List.nodup_cons.mpr ⟨na, ih⟩)
theorem same_len {α : Type} [DecidableEq α] {l1 l2 : List α} (h : l1.Nodup) (s : ∀ x, x ∈ l1 ↔ x ∈ l2) : l1.length ≤ l2.length ∧ (l1.length = l2.length ↔ l2.Nodup) := by
  have a := sub_len h fun x hx => (s x).mp hx
  refine ⟨a, fun e => nodup_of_sub h (fun x hx => (s x).mp hx) (by omega), fun e => ?_⟩
  have b := sub_len e fun x hx => (s x).mpr hx
  omega
theorem fm_nodup (val : Nat → Int) : ∀ i, (PyProof.Rows.firstMet val i).Nodup
  | 0 => List.nodup_nil
  | i + 1 => by
    rw [PyProof.Rows.firstMet_succ]
    have ih := fm_nodup val i
    show (if (PyProof.Rows.firstMet val i).any (· == val i) then PyProof.Rows.firstMet val i else PyProof.Rows.firstMet val i ++ [val i]).Nodup
    split
    · exact ih
    · rename_i h
      refine List.nodup_append.mpr ⟨ih, List.nodup_cons.mpr ⟨List.not_mem_nil, List.nodup_nil⟩, fun x hx y hy e => h ?_⟩
      rw [List.mem_singleton] at hy
      subst hy
      exact List.any_eq_true.mpr ⟨x, hx, by rw [e]; exact beq_self_eq_true _⟩
theorem fm_mem (ns : List Int) (x : Int) : x ∈ PyProof.Rows.firstMet (fun i => ns.getD i 0) ns.length ↔ x ∈ ns := by
  have e := PyProof.Rows.firstMet_any (fun i => ns.getD i 0) ns.length x
  have e2 : (List.range ns.length).map (fun i => ns.getD i 0) = ns := by
    apply List.ext_getElem
    · simp
    · intro i h1 h2
      simp [List.getD_eq_getElem?_getD, h2]
  rw [e2] at e
  have m : ∀ l : List Int, (l.any (· == x)) = true ↔ x ∈ l := fun l => by
    rw [List.any_eq_true]
    exact ⟨fun ⟨y, hy, ey⟩ => (eq_of_beq ey) ▸ hy, fun h => ⟨x, h, beq_self_eq_true _⟩⟩
  rw [← m, ← m, e]
/-- how many unlike ints -/
def tLenSet (K : PySem.W.Frag) (ta : TE) : TE := fun σ H Q => ta σ H fun x H1 => ∃ (p : Addr) (ns : List Int), x = .ref p ∧ (SqL K H1 p (ns.map V.int) ∨ SqT K H1 p (ns.map V.int)) ∧ ns.length ≤ 1100 ∧
  ∀ c : Nat, c ≤ ns.length → (c = ns.length ↔ ns.Nodup) → Q (.int (c : Nat)) H1
theorem pe_lenSet2 {X : Cx} {a : Expr} {ta : TE} {p p2 q pos : Pos} (hg : Gl X "len") (hm : X.mg "len" = none) (hg2 : Gl X "set") (hm2 : X.mg "set" = none) (ha : PE X a ta) (hc : X.calm = true := by rfl)
    (na : starEach [a] X.env = (false, eval a X.env) :: starEach [] X.env := by rfl) : PE X (.Call (.Name "len" p) [.Call (.Name "set" p2) [a] [] q] [] pos) (tLenSet X.K ta) := by
  refine ⟨fun pins s σ H Q I h => ?_⟩
  refine Call_ (ld_blt I hg hm boot_len ?_)
  refine PyProof.Rows.callWith_builtin1 (PyProof.Rows.args_cons ?_ rfl) rfl rfl
  refine Call_ (ld_blt I hg2 hm2 boot_set ?_)
  refine PyProof.Rows.callWith_type1 (PyProof.Rows.args_cons (thn (ha.run pins s σ H _ I h) fun v s1 ⟨x, H1, I1, r1, q1⟩ => PyProof.Rows.args_nil ?_) na) na rfl
  obtain ⟨l, ns, rfl, hq, hl, q1⟩ := q1
  cases r1
  rcases hq with hq | hq
  · obtain ⟨its, r, pl, hz⟩ := I1.list hq
    have hlen : its.toArray.size = ns.length := by rw [List.size_toArray, ← r.length, List.length_map]
    refine PySem.call_set_list (I1.ok.hd hc) pl.isList (ns := ns) (by simpa using RZ.intsAre_vals r) (by rw [hlen]; unfold scanBound; omega) fun h' tk hS hk => ?_
    refine PyProof.Rows.args_nil ?_
    rw [hlen] at hS
    have sl := same_len (fm_nodup (fun i => ns.getD i 0) ns.length) (fm_mem ns)
    obtain ⟨o, es, ep, t, ho, hex, hd, _, _, _, hf, hn⟩ := hS
    have I2 : Inv X pins σ H1 { s1 with heap := h', toks := tk } := I1.kept fun b o e => hk b o (Heap.lt_size e) e
    have q2 := q1 es.size (by rw [hn]; exact sl.1) (by rw [hn]; exact sl.2)
    exact call_len_set ho hex hd hf (by have := sl.1; omega) ⟨.int es.size, H1, I2.tok _, ⟨_, rfl⟩, q2⟩
  · obtain ⟨its, r, pt, hz⟩ := I1.tuple hq
    have hi : IntsAre its.toArray.toList ns := ints_of_vals r
    refine call_set_tupI ns (I1.ok.hd hc) (show s1.heap.IsTuple l its.toArray from pt) hi (by unfold scanBound; omega) fun h' tk c R1 hcn k => ?_
    refine PyProof.Rows.args_nil ?_
    obtain ⟨o, es, ep, t, ho, hex, hd, hgood, hnd, hmem, _, hf, hn, _⟩ := R1
    have I2 : Inv X pins σ H1 { s1 with heap := h', toks := tk } := I1.kept fun b o e => k b o e
    have sl := same_len (l2 := ns) hnd fun x => (by
      have z := (hmem x).symm
      simpa using z)
    rw [List.length_map, Array.length_toList] at sl
    have q2 := q1 es.size sl.1 sl.2
    exact call_len_set ho hex hd hf (by have := sl.1; omega) ⟨.int es.size, H1, I2.tok _, ⟨_, rfl⟩, q2⟩
end OB
set_option maxHeartbeats 4000000
/-! sorted(x) of a list or a tuple of ints. -/
namespace OB
open PySem PySem.Spec PyProof.Rows L2 SrtO
section
variable {prog : Program} {w : World} {A : Around} {E : Value → Shared → Prop} {s : Shared}
theorem collect_tup {l : Addr} {vs : List Value} {Q : List Value → Shared → Prop} (ht : IsTup s.heap l vs.toArray)
    (h : Q vs { s with heap := (s.heap.push (seqObj "list" #[] 0)).update s.heap.objs.size (Obj.mapSeq (· ++ vs.toArray)) }) (hz : vs.length ≤ sizeLine) :
    wpAny (model prog w) A (collect (.ref l)) Q E s := by
  obtain ⟨o, ho, hc, n, hd⟩ := id ht
  unfold collect
  refine wpAny_bind (wpAny_runValue (codeAny_builtin entry_proto_collect' ?_))
  show wpAny _ _ (do again (.builtin "list.__iadd__" ⟨[← newList [], .ref l], []⟩)) _ _ s
  refine wpAny_bind (wpAny_newList (wpAny_pure ⟨Code.quiet_builtin _ (by decide +kernel), codeAny_builtin entry_list_iadd' ?_⟩))
  show wpAny _ _ (Builtin.List.listExtendWith (.ref s.heap.objs.size) (.ref l) (.ref s.heap.objs.size)) _ _ { s with heap := s.heap.push (seqObj "list" #[] 0) }
  unfold Builtin.List.listExtendWith
  have o1 : (s.heap.push (seqObj "list" #[] 0)).get? l = some o := Heap.get?_push_of_some _ ho
  refine wpAny_bind (wpAny_typeOf (T := "tuple") ⟨o, o1, hc⟩ ?_)
  rw [if_pos (show (Builtin.List.listSameRef (Value.ref s.heap.objs.size) (Value.ref l) || Value.type "tuple" == Value.type "list" || Value.type "tuple" == Value.type "tuple") = true by
    rw [show (Value.type "tuple" == Value.type "tuple") = true from rfl, Bool.or_true])]
  refine wpAny_bind (listItems_at o1 hd (wpAny_bind (listItems_at (xs := #[]) (n := 0) (Heap.get?_push_size _ rfl) rfl ?_)))
  have room : ((#[] : Array Value) ++ vs.toArray).size ≤ sizeLine + 1 := by
    rw [Array.size_append, List.size_toArray, List.size_toArray, List.length_nil]
    omega
  rw [if_neg (show ¬ (!(#[] : Array Value).isEmpty && Builtin.List.listTooLong ((#[] : Array Value).size + vs.toArray.size)) = true from fun z => by
    have z : (false && _) = true := z
    rw [Bool.false_and] at z
    cases z)]
  refine wpAny_bind (listUpdate_at (xs := #[]) (n := 0) (Heap.get?_push_size _ rfl) rfl (wpAny_pure ?_) (Nat.zero_le _) room)
  refine wpAny_bind (wpAny_load (get?_update_seq (Heap.get?_push_size _ rfl) _) (wpAny_pure ?_))
  have e : ((#[] : Array Value) ++ vs.toArray).toList = vs := by simp
  rw [e]
  exact h
theorem sorted_tup {l : Addr} {vs : List Value} {ltv : Value → Value → Bool} {Q : Value → Shared → Prop} (O : Swo ltv) (ht : IsTup s.heap l vs.toArray) (hz : vs.length ≤ sizeLine)
    (hS : 2 ≤ vs.length → ∀ (h₁ : Heap) (a : Addr), h₁.get? a = some (seqObj "list" vs.toArray 0) → (∀ b o, s.heap.get? b = some o → b ≠ a ∧ h₁.get? b = some o) → SortableO prog w A.in1.in1 { s with heap := h₁ } a vs ltv)
    (h : ∀ out : List Value, Srtd ltv out → Stb ltv out vs → Q (.ref (s.heap.objs.size + 1)) { s with heap := sortedAll s.heap vs out.toArray }) :
    wpAny (model prog w) A (call (.builtin "sorted") [.ref l]) Q E s := by
  generalize hg : (s.heap.push (seqObj "list" #[] 0)).update s.heap.objs.size (Obj.mapSeq (· ++ vs.toArray)) = g
  have size : g.objs.size = s.heap.objs.size + 1 := by
    rw [← hg, Heap.size_update, Heap.size_push]
  have old : ∀ b o, s.heap.get? b = some o → g.get? b = some o := fun b o q => by
    rw [← hg, Heap.get?_update_ne _ _ _ _ (Nat.ne_of_lt (Heap.lt_size q))]
    exact Heap.get?_push_of_some _ q
  have new : (g.push (seqObj "list" vs.toArray 0)).get? (s.heap.objs.size + 1) = some (seqObj "list" vs.toArray 0) := by
    rw [← size]
    exact Heap.get?_push_size _ rfl
  refine Calls.call_function_entry kind_sorted plain_sorted entry_sorted (args_sorted1 _) ?_
  unfold Builtin.«sorted»
  refine wpAny_bind (m := checkCount "sorted" 1 1 _) (wpAny_pure (wpAny_bind (collect_tup ht ?_ hz)))
  rw [hg]
  refine wpAny_bind (wpAny_newList ?_ hz)
  show wpAny _ _ _ _ _ { s with heap := g.push (seqObj "list" vs.toArray 0) }
  rw [size]
  refine wpAny_bind (wpAny_holding (wpAny_call_entry slot_list_sort ⟨_, new, rfl⟩ entry_list_sort (list_sort_ord O new hz (fun h2 => hS h2 _ _ new fun b o q => ?_) fun out hs hb => ⟨_, rfl, wpAny_pure ⟨_, rfl, ?_⟩⟩) (args_list_sort _)))
  · exact ⟨Nat.ne_of_lt (Nat.lt_succ_of_lt (Heap.lt_size q)), Heap.get?_push_of_some _ (old b o q)⟩
  · rw [← hg]
    exact h out hs hb
end
section
variable {X : Cx}
def rSortedA (K : PySem.W.Frag) : List V → Hp → VK → Prop := fun vs H Q => ∃ (a : Addr) (ns : List Int), vs = [V.ref a] ∧ (SqL K H a (ns.map V.int) ∨ SqT K H a (ns.map V.int)) ∧
  ∀ (ns' : List Int) (p : Addr), ns'.Perm ns → ns'.Pairwise (· ≤ ·) → H p = none → Q (.ref p) (upd H p (.lst (ns'.map V.int)))
theorem cr_sortedA : CallR X (.builtin "sorted") (rSortedA X.K) := by
  intro pins s σ H vs us Q I r h
  obtain ⟨a, ns, rfl, hs, q⟩ := h
  rcases hs with hs | ht
  · exact cr_sortedI pins s σ H _ us Q I r ⟨a, ns, rfl, hs, q⟩
  · obtain ⟨its, rv, hl, hz⟩ := I.tuple ht
    rw [Vals.ref1 r]
    have hi := rv.ints
    refine sorted_tup swo_int hl (by rw [← rv.length]; exact hz) (fun h2 h₁ a' _ _ => ints_sortable hi h2) fun out h1 h2 => ?_
    obtain ⟨k1, k2, k3⟩ := ints_out hi h1 h2
    obtain ⟨ep, at'⟩ := PyProof.Rows.sortedAll_at s.heap its out.toArray
    have hlen : ((out.map iv).map V.int).length ≤ sizeLine := by
      rw [List.length_map] at hz ⊢
      rw [k2.length_eq]
      exact hz
    exact ⟨.ref _, upd H (s.heap.objs.size + 1) (.lst ((out.map iv).map V.int)), I.laid (t' := s.toks) (fun _ _ => PyProof.Rows.sortedAll_old) (Nat.le_succ _) ⟨hlen, out, ep, vals_of_ints k1, at'⟩, rfl, q _ _ k2 k3 (I.hok.fresh (Nat.le_succ _))⟩
end
end OB
/-! Promises of defs where it is known that no repr is under way: there repr of a list or a tuple is its text. -/
namespace OB
open PySem PySem.Spec PyProof.Rows L2 LamX
/-- what FnOk promises, asked only where no repr is under way -/
structure FnG (P : Program) (w : World) (K : PySem.W.Frag) (mg : Str → Option Value) (base : Heap) (CX : CXT) (k : Nat) (f : Addr) (fd : FuncData) (ps : List Str) (sp : Sp) : Prop where
  len : ∀ vs H Q E, sp vs H Q E → vs.length = ps.length
  run : ∀ (A : Around) (outer : List Env) (s : Shared) (H : Hp) (args : Args) (us : List Value) (vs : List V) (Q : VK) (E : XK), A.guards = some [] → Room k A → Env0 P w K mg base A outer s H → BindsTo s fd args (ps.zip us) → Vals vs us → sp vs H Q E →
    codeAny (model P w) A (.call (.ref f) args) (CR CX outer P w H s Q E) s
section
variable {P : Program} {w : World} {K : PySem.W.Frag} {mg : Str → Option Value} {base : Heap} {CX : CXT} {k : Nat} {f : Addr} {fd : FuncData} {ps : List Str} {sp : Sp}
theorem FnG.of (F : FnOk P w K mg base CX k f fd ps sp) : FnG P w K mg base CX k f fd ps sp := ⟨F.len, fun A outer s H args us vs Q E _ => F.run A outer s H args us vs Q E⟩
theorem fnG_of {name qual : Str} {params : Arguments} {body : List Stmt} {scope : Scope} {dV kV doc pm cdv ct oc : Value} {an od : Option Addr} {osl : Array (Option Value)} {N : List Str}
    (lk : K.lookup f = some ⟨oc, od, .func (PySem.W.fnOf name qual params body scope dV kV doc pm an cdv ct), osl⟩) (hcd : PySem.W.codeIn K cdv qual = true) (S : FnScope N ps scope) (len : ∀ vs H Q E, sp vs H Q E → vs.length = ps.length)
    (hbody : ∀ (A : Around) (outer : List Env) (s : Shared) (H : Hp) (vs : List V) (Q : VK) (E : XK), A.guards = some [] → Room k (A.deeper (envOfC qual scope s.heap.objs.size f cdv)) → sp vs H Q E →
      ∃ t, PSs (cxOf CX P w K mg base N qual scope f cdv A outer s H E) body t ∧ t { nx := fun _ H' => Q .non H', rt := Q } (L2.start N vs) H) :
    FnG P w K mg base CX (k + 1) f (PySem.W.fnOf name qual params body scope dV kV doc pm an cdv ct) ps sp :=
  ⟨len, fun A outer s H args us vs Q E hgd hr e0 hb r hsp => run_ofS lk hcd S hr e0 hb r (len _ _ _ _ hsp) fun hr' => hbody A outer s H vs Q E hgd hr' hsp⟩
theorem okG {x qual : Str} {st : Stmt} {N : List Str} (F : Fun K x qual st f fd) (S : FnScope N ps (defScope st)) (len : ∀ vs H Q E, sp vs H Q E → vs.length = ps.length)
    (hbody : ∀ (cdv : Value) (A : Around) (outer : List Env) (s : Shared) (H : Hp) (vs : List V) (Q : VK) (E : XK), A.guards = some [] → Room k (A.deeper (envOfC qual (defScope st) s.heap.objs.size f cdv)) → sp vs H Q E →
      ∃ t, PSs (cxOf CX0 P w K mg base N qual (defScope st) f cdv A outer s H E).nox (defBody st) t ∧ t { nx := fun _ H' => Q .non H', rt := Q } (L2.start N vs) H) : FnG P w K mg base CX0 (k + 1) f fd ps sp := by
  obtain ⟨oc, od, kV, doc, pm, an, cdv, ct, osl, rfl, lk, hcd⟩ := F.ex
  refine fnG_of lk hcd S len fun A outer s H vs Q E hgd hr hsp => ?_
  obtain ⟨t, h, q⟩ := hbody cdv A outer s H vs Q E hgd hr hsp
  exact ⟨t, h.nox, q⟩
end
section
variable {X : Cx} {CX : CXT} {k : Nat} {f : Addr} {fd : FuncData} {ps : List Str} {sp : Sp} {E : XK} {x : Str} {p pos : Pos} {e : Expr} {es : List Expr} {t : TA} {ds : List Value} {dvs : List V}
theorem run_fnG {pins : List (Addr × Obj)} {σ : L2.St} {H : Hp} {s : Shared} {Q : VK} {us : List Value} {vs : List V} (F : FnG X.prog X.w X.K X.mg X.base CX k f fd ps sp) (hgd : X.A.guards = some []) (hr : Room k X.A) (hb : L2.Binds X.K fd ps ds) (hd : Vals dvs ds) (hx : Passes CX X E)
    (I : Inv X pins σ H s) (r : Vals vs us) (h : sp (vs ++ dvs) H Q E) : wpAny (model X.prog X.w) X.A (call (.ref f) us) (EP X pins σ Q) X.xe s := by
  have r2 : Vals (vs ++ dvs) (us ++ ds) := r.append hd
  have hl : (us ++ ds).length = ps.length := r2.length ▸ F.len _ _ _ _ h
  refine wpAny_call (codeAny_mono (F.run X.A X.stack s H ⟨us, []⟩ (us ++ ds) (vs ++ dvs) Q E hgd hr I.env0 (hb s us I.kIn hl) r2 h) fun res s' hq => ?_)
  match res, hq with
  | .error _, hq => exact hx pins σ H s _ s' I hq
  | .ok (.ret _), hq => exact I.after hq
/-- f(e, ..), f promised where no repr is under way -/
theorem pe_callG (F : FnG X.prog X.w X.K X.mg X.base CX k f fd ps sp) (hgd : X.A.guards = some []) (hr : Room k X.A) (hg : Gl X x) (hm : X.mg x = some (.ref f)) (hk : PySem.W.keepIn X.K (.ref f) = true) (hb : L2.Binds X.K fd ps ds) (hd : Vals dvs ds) (hx : Passes CX X E)
    (ha : PA X (e :: es) t) (hdb : (x == ("__debug__" : Str)) = false := by decide) (he : starEach (e :: es) X.env = (false, eval e X.env) :: starEach es X.env := by rfl) (hpl : (backTo pos (starEach es X.env)).any (·.1) = false := by rfl) :
    PE X (.Call (.Name x p) (e :: es) [] pos) (tCall sp dvs E t) :=
  ⟨fun pins s σ H Q I h => wpAny_Call_Name_kw (ld_glob I hg hm (PySem.W.callWith_K (h₀ := X.base) I.ok.mod.kin hk (thn (ha.run pos pins s σ H _ I h) fun us s1 ⟨vs, H1, I1, r, q⟩ => ⟨I1.kIn, run_fnG F hgd hr hb hd hx I1 r q⟩) he hpl) hdb)⟩
/-- repr(x), x data of lists and tuples -/
def rReprD (K : PySem.W.Frag) : List V → Hp → VK → Prop := fun xs H Q => ∃ (a : Addr) (d : PyData), xs = [.ref a] ∧ Dp K H (.ref a) d ∧ d.showable = true ∧ d.canLay0 = true ∧ d.depth ≤ 60 ∧ d.shown.length ≤ sizeLine ∧ Q (.str d.shown) H
theorem call_reprD (hgd : X.A.guards = some []) (hu : X.A.units + 64 < cLine) : CallR X (.builtin "repr") (rReprD X.K) := by
  intro pins s σ H xs us Q I r h
  obtain ⟨a, d, rfl, hd, hs, hl, hdp, hz, q⟩ := h
  cases r with
  | cons r rr =>
    cases rr
    obtain ⟨as, rd⟩ := Dp.reads I d _ _ hd r
    cases r
    refine repr_of_reads' rd hs (PyData.noDict_hsm (PyData.hasDict_of_canLay d hl)) hgd (by omega) (fun _ _ e => e) (fun h' u tk hk => ?_) hz
    exact ⟨.str d.shown, H, I.kept hk, ⟨_, rfl⟩, q⟩
end
end OB
/-! The law's own call, its promise asked only where no repr is under way. -/
namespace OB
open PySem PySem.Spec PyProof.Rows L2 LamX
section
variable {P : Program} {w : World} {K : PySem.W.Frag} {mg mb : Str → Option Value} {CX : CXT} {k : Nat} {fa a : Addr} {cs : List (Addr × Addr)} {fd : FuncData} {x : Str} {sp : Sp} {s₁ : Shared} {vs : List Value} {ns : List Int}
/-- what is tracked as the law begins: its script, where it is no part of the text's own objects, and the tables of its lambdas -/
def top (K : PySem.W.Frag) (a : Addr) (vs : List Value) (ns : List Int) (T : List Addr) : Hp := fun b =>
  if b = a then (if K.lookup a = none then some (.frz { cls := .type "list", data := .seq vs.toArray } (.lst (ns.map V.int))) else none) else if b ∈ T then some (.tbl #[]) else none
theorem top_some {T : List Addr} {b : Addr} {u : HO} (h : top K a vs ns T b = some u) :
    (b = a ∧ K.lookup a = none ∧ u = .frz { cls := .type "list", data := .seq vs.toArray } (.lst (ns.map V.int))) ∨ (b ≠ a ∧ b ∈ T ∧ u = .tbl #[]) := by
  unfold top at h
  by_cases e : b = a
  · rw [if_pos e] at h
    by_cases n : K.lookup a = none
    · rw [if_pos n] at h
      exact .inl ⟨e, n, (Option.some.inj h).symm⟩
    · rw [if_neg n] at h
      cases h
  · rw [if_neg e] at h
    by_cases m : b ∈ T
    · rw [if_pos m] at h
      exact .inr ⟨e, m, (Option.some.inj h).symm⟩
    · rw [if_neg m] at h
      cases h
theorem top_none {T : List Addr} {b : Addr} (h1 : b = a → K.lookup a ≠ none) (h2 : b ∉ T) : top K a vs ns T b = none := by
  cases e : top K a vs ns T b with
  | none => rfl
  | some u =>
    rcases top_some e with ⟨q, n, _⟩ | ⟨_, m, _⟩
    · exact absurd n (h1 q)
    · exact absurd m h2
theorem law_callG (KX : K.In s₁.heap) (hns : s₁.heap.Ns mainGlobals mg) (hb : s₁.heap.Ns builtinsNs mb) (hbb : ∀ x : Str, x ≠ "__name__" → mb x = bootBuiltins x) (hlim : s₁.heap.NoLimit) (hg : s₁.gens = #[])
    (hT : ∀ p ∈ cs, s₁.heap.get? p.2 = some { cls := .none, data := .fields #[] }) (nT : ∀ p ∈ cs, K.lookup p.2 = none) (C : ∀ p ∈ cs, PySem.W.CodeHd s₁.heap p.1 p.2)
    (hbm : ∃ (bm : Addr) (ob : Obj), mg "__builtins__" = some (.ref bm) ∧ bm ≠ builtinsNs ∧ s₁.heap.get? bm = some ob ∧ ob.cls = .type "module" ∧ ob.dict = some builtinsNs ∧ ob.data = .plain)
    (ha : s₁.heap.get? a = some { cls := .type "list", data := .seq vs.toArray }) (hi : IntsAre vs ns) (hl : ns.length ≤ sizeLine) (hr : Room k callerA)
    (F : ∀ base : Heap, K.In base → base.Ns mainGlobals mg → (∀ p ∈ cs, TabB base mg p.1 p.2) → FnG P w K mg base CX k fa fd [x] sp) (hbind : ∀ (s : Shared) (u : Value), BindsTo s fd ⟨[u], []⟩ [(x, u)])
    (hsp : ∀ H : Hp, (∀ p ∈ cs, H p.2 = some (.tbl #[])) → SqL K H a (ns.map V.int) → sp [.ref a] H (fun v _ => v = .bl true) fun _ _ _ => False)
    (hCX : ∀ H e s', CX [] H s₁ (fun _ _ _ => False) e s' → False) :
    codeAny (model P w) callerA (.call (.ref fa) ⟨[.ref a], []⟩) (fun r s' => r = .ok (.ret (.bool true)) ∧ OldK s₁.heap s'.heap ∧ s'.os = s₁.os ∧ AllBare s'.gens) s₁ := by
  have rv := vals_ints hi
  obtain ⟨T, eT⟩ : ∃ T, T = cs.map (·.2) := ⟨_, rfl⟩
  have inT : ∀ p ∈ cs, p.2 ∈ T := fun p hp => eT ▸ List.mem_map.mpr ⟨p, hp, rfl⟩
  have ofT : ∀ b ∈ T, ∃ p ∈ cs, p.2 = b := fun b h => List.mem_map.mp (eT ▸ h)
  have tab : ∀ b ∈ T, s₁.heap.get? b = some { cls := .none, data := .fields #[] } := fun b h => by
    obtain ⟨p, hp, rfl⟩ := ofT b h
    exact hT p hp
  have aT : a ∉ T := fun z => by
    have q := (tab a z).symm.trans ha
    have q := congrArg Obj.data (Option.some.inj q)
    cases q
  obtain ⟨H, eH⟩ : ∃ H, H = top K a vs ns T := ⟨_, rfl⟩
  have some_ : ∀ {b u}, H b = some u → (b = a ∧ K.lookup a = none ∧ u = .frz { cls := .type "list", data := .seq vs.toArray } (.lst (ns.map V.int))) ∨ (b ≠ a ∧ b ∈ T ∧ u = .tbl #[]) := fun h => top_some (by rw [eH] at h; exact h)
  have hH : ∀ p ∈ cs, H p.2 = some (.tbl #[]) := fun p hp => by
    have ne : p.2 ≠ a := fun z => aT (z ▸ inT p hp)
    rw [eH]
    unfold top
    rw [if_neg ne, if_pos (inT p hp)]
  have hok : HOk P w H s₁.heap := fun b u z => by
    rcases some_ z with ⟨rfl, _, rfl⟩ | ⟨_, m, rfl⟩
    · exact ⟨ha, by rw [List.length_map]; exact hl, vs, _, rv, ha⟩
    · exact tab b m
  have hS : SqL K H a (ns.map V.int) := by
    cases hk : K.lookup a with
    | none =>
      refine .inl (.inr ⟨{ cls := .type "list", data := .seq vs.toArray }, ?_⟩)
      rw [eH]
      unfold top
      rw [if_pos rfl, if_pos hk]
    | some o =>
      have e := (KX a o hk).symm.trans ha
      cases e
      exact .inr ⟨_, vs.toArray, _, hk, rfl, rfl, rfl, by rw [List.size_toArray, hi.length]; exact hl, by simpa using rv⟩
  -- what is no list and no empty table is not tracked
  have bare : ∀ {b : Addr} {o : Obj}, s₁.heap.get? b = some o → (∀ vs n, o.data ≠ .seq vs n) → o.data ≠ .fields #[] → H b = none := fun {b o} e h1 h2 => by
    cases q : H b with
    | none => rfl
    | some u =>
      rcases some_ q with ⟨rfl, _, _⟩ | ⟨_, m, _⟩
      · cases e.symm.trans ha
        exact (h1 _ _ rfl).elim
      · cases e.symm.trans (tab b m)
        exact (h2 rfl).elim
  have under : ∀ {b : Addr} {o : Obj}, s₁.heap.get? b = some o → H b = none → (hidT s₁.heap H).get? b = some o := fun e n => hidT_get e n
  have names : ∀ {b : Addr} {m : Str → Option Value}, s₁.heap.Ns b m → (hidT s₁.heap H).Ns b m := fun {b m} ⟨o, es, ep, e, d, r⟩ =>
    ⟨o, es, ep, under e (bare e (fun vs n z => by rw [d] at z; cases z) fun z => by rw [d] at z; cases z), d, r⟩
  have hKb : K.In (hidT s₁.heap H) := fun b o e => under (KX b o e) (by
    cases q : H b with
    | none => rfl
    | some u =>
      rcases some_ q with ⟨rfl, n, _⟩ | ⟨_, m, _⟩
      · rw [n] at e
        cases e
      · obtain ⟨p, hp, rfl⟩ := ofT b m
        rw [nT p hp] at e
        cases e)
  have hM : L2.Mod K mg (hidT s₁.heap H) := ⟨hKb, names hns, ⟨mb, names hb, hbb⟩, let ⟨mc, h1, h2⟩ := hlim; ⟨mc, names h1, h2⟩⟩
  have TB : ∀ p ∈ cs, TabB (hidT s₁.heap H) mg p.1 p.2 := fun p hp => by
    have hTp := hT p hp
    refine ⟨?_, ?_, fun z => ?_⟩
    · obtain ⟨o, us, file, tf, flags, tg, inF, text, tt, e1, r1, r2, r3, rest⟩ := C p hp
      exact ⟨o, us, file, tf, flags, tg, inF, text, tt, under e1 (bare e1 (fun vs n z => by rw [r2] at z; cases z) fun z => by
        rw [r2] at z
        cases z
        simp at r3), r1, r2, r3, rest⟩
    · obtain ⟨bm, ob, b1, b2, b3, b4, b5, b6⟩ := hbm
      refine ⟨bm, ob, b1, b2, fun q => ?_, fun q => ?_, under b3 (bare b3 (fun vs n z => by rw [b6] at z; cases z) fun z => by rw [b6] at z; cases z), b4, b5, b6⟩
      · obtain ⟨o, es, ep, e, hd, _⟩ := hns
        rw [q, e] at b3
        cases b3
        rw [hd] at b6
        cases b6
      · rw [q, hTp] at b3
        cases b3
        cases b6
    · obtain ⟨o, es, ep, e, hd, _⟩ := hns
      rw [z, hTp] at e
      cases e
      cases hd
  have e0 : Env0 P w K mg (hidT s₁.heap H) callerA [] s₁ H := ⟨rfl, hM, fun b o e => of_hidT e, Nat.le_of_eq (hidT_size _ _), trivial, fun b hb => absurd (show b ∈ ([] : List Addr) from hb) (by simp), hok, .of_eq hg⟩
  refine codeAny_mono ((F _ hKb (names hns) TB).run callerA [] s₁ H ⟨[.ref a], []⟩ [.ref a] [.ref a] _ _ rfl hr e0 (hbind s₁ (.ref a)) (.cons rfl .nil) (hsp H hH hS)) fun r s' h => ?_
  match r, h with
  | .error e, h => exact (hCX H e s' h).elim
  | .ok (.ret u), h =>
    obtain ⟨v, H', os, bs, un, hok', r', q⟩ := h
    have q : v = .bl true := q
    subst q
    obtain rfl : u = Value.bool true := r'
    have key : ∀ b o, b ∉ T → s₁.heap.get? b = some o → s'.heap.get? b = some o := fun b o nb e => by
      cases q : H b with
      | none => exact un.keep b o e q (by intro z; exact absurd (show b ∈ ([] : List Addr) from z) (by simp)) (by simp)
      | some u =>
        rcases some_ q with ⟨rfl, _, rfl⟩ | ⟨_, m, _⟩
        · obtain ⟨e1, _⟩ := hok b _ q
          obtain ⟨e2, _⟩ := hok' b _ (un.frzs b _ _ q)
          rw [e] at e1
          cases e1
          exact e2
        · exact absurd m nb
    have grown : ∀ p ∈ cs, ∃ more : Array Value, s'.heap.get? p.2 = some { cls := .none, data := .fields more } := fun p hp => by
      obtain ⟨more, z⟩ := un.tbls p.2 #[] (hH p hp)
      exact ⟨_, hok' p.2 _ z⟩
    refine ⟨rfl, ⟨fun b o e => ?_, fun b o e => ?_⟩, os, bs⟩
    · by_cases m : b ∈ T
      · obtain ⟨p, hp, rfl⟩ := ofT b m
        obtain ⟨more, hm⟩ := grown p hp
        rw [hT p hp] at e
        cases e
        exact .inr (.inl ⟨((C p hp).tab (hT p hp)).isCodeTable, rfl, #[], more, rfl, by rw [Array.empty_append]; exact hm⟩)
      · exact .inl (key b o m e)
    · by_cases m : b ∈ T
      · obtain ⟨p, hp, rfl⟩ := ofT b m
        obtain ⟨more, hm⟩ := grown p hp
        exact ⟨_, hm⟩
      · exact ⟨o, key b o m e⟩
/-- what is known of the law's promise at the head's heap -/
def LawG (l : PySem.W.OpenLaw) (w : World) (K : PySem.W.Frag) (CX : CXT) (k n : Nat) (x : Str) (mg : Str → Option Value) (fa : Addr) (h : Heap) : Prop :=
  ∃ (fd : FuncData) (cs : List (Addr × Addr)) (sp : Sp), ((∀ p ∈ cs, h.get? p.2 = some { cls := .none, data := .fields #[] }) ∧ (∀ p ∈ cs, K.lookup p.2 = none) ∧ (∀ p ∈ cs, PySem.W.CodeHd h p.1 p.2)) ∧ (∀ (s : Shared) (u : Value), BindsTo s fd ⟨[u], []⟩ [(x, u)]) ∧
    (∀ (H : Hp) (a : Addr) (ns : List Int), ns.length ≤ n → (∀ z ∈ ns, Builtin.Int.intBits z ≤ 1048576) → (∀ p ∈ cs, H p.2 = some (.tbl #[])) → SqL K H a (ns.map V.int) → sp [.ref a] H (fun v _ => v = .bl true) fun _ _ _ => False) ∧
    ∀ base : Heap, K.In base → base.Ns mainGlobals mg → (∀ p ∈ cs, TabB base mg p.1 p.2) → FnG l.prog w K mg base CX k fa fd [x] sp
end
theorem walk_G {l : PySem.W.OpenLaw} {n k : Nat} {q : Program} {loose : List Str} {XP : (Str → Option Value) → Heap → Prop} {YP : World → Heap → Prop} {d : DefRec} {K : Params → PySem.W.Frag} {CX : World → CXT} {x : Str}
    (hn : l.most = some n) (hn2 : n ≤ sizeLine) (hdf : d.params.defaults = []) (hr : Room k callerA) (hY : ∀ (w : World) (h : Heap), YP w h → (K w.params).In h)
    (F : ∀ (w : World) (mg : Str → Option Value) (fa : Addr) (h : Heap), YP w h → (K w.params).In h → h.Ns mainGlobals mg → mg d.name = some (.ref fa) → LawG l w (K w.params) (CX w) k n x mg fa h)
    (hCX : ∀ (w : World) (H : Hp) (s : Shared) (e : Value) (s' : Shared), CX w [] H s (fun _ _ _ => False) e s' → False) :
    PySem.W.WalkO q loose XP YP l.row.toRowW d [] (fun f vs => PySem.call f vs) := by
  refine Att.attach_callB hn hdf fun w s₀ s₁ mg mb fa o pm cd doc a vs ns G Y ho hd hcd hmg hobj hints hlen hbits hg => ?_
  have KX := hY w _ Y
  obtain ⟨fd, cs, sp, ⟨hT, nT, C⟩, hb, hsp, hF⟩ := F w mg fa _ Y KX G.T.g hmg
  exact law_callG KX G.T.g G.T.b G.T.builtins G.T.nolimit hg hT nT C G.T.bmain hobj hints (Nat.le_trans hlen hn2) hr hF hb (fun H hH hS => hsp H a ns hlen hbits hH hS) fun H e s' => hCX w H s₁ e s'
end OB
/-! A list or a tuple: gone through, asked for its kind. -/
namespace OB
open PySem PySem.Spec PyProof.Rows L2
theorem sqL_same {K : PySem.W.Frag} {H H' : Hp} {a : Addr} {xs : List V} (h : SqL K H a xs) (s : Same H H') : SqL K H' a xs := by
  rcases h with (h | ⟨o, h⟩) | h
  · exact .inl (.inl (s _ _ h))
  · exact .inl (.inr ⟨o, s _ _ h⟩)
  · exact .inr h
theorem sqT_same {K : PySem.W.Frag} {H H' : Hp} {a : Addr} {xs : List V} (h : SqT K H a xs) (s : Same H H') : SqT K H' a xs := by
  rcases h with (h | ⟨o, h⟩) | h
  · exact .inl (.inl (s _ _ h))
  · exact .inl (.inr ⟨o, s _ _ h⟩)
  · exact .inr h
def iSeqA (K : PySem.W.Frag) (te : TE) : TI := fun σ H R => te σ H fun x H1 => ∃ a, x = .ref a ∧ (((∃ xs, SqL K H1 a xs) ∧ R (Itl K a) H1) ∨ ((∃ xs, SqT K H1 a xs) ∧ R (Itt K a) H1))
theorem pi_seqA {X : Cx} {tg e : Expr} {te : TE} (he : PE X e te) : PI X tg e (iSeqA X.K te) := by
  refine ⟨fun pins s σ H R I h => thn (he.run pins s σ H _ I h) fun v s1 ⟨x, H1, I1, r1, a, ex, q⟩ => ?_⟩
  subst ex
  cases r1
  rcases q with ⟨⟨xs, hq⟩, q⟩ | ⟨⟨xs, hq⟩, q⟩
  · obtain ⟨its, rv, p, hz⟩ := I1.list hq
    exact wpAny_pyIter_list p.isList (pi_one (tk := s1.toks) I1 _ (turn_list a _) ⟨_, Heap.get?_push_size _ rfl, rfl, rfl⟩ q)
  · obtain ⟨its, rv, p, hz⟩ := I1.tuple hq
    exact wpAny_pyIter_tuple (show s1.heap.IsTuple a its.toArray from p) (pi_one (tk := s1.toks) I1 _ (turn_tuple a _) ⟨_, Heap.get?_push_size _ rfl, rfl, rfl⟩ q)
/-- a row over it, a list or a tuple: Pv by the new list, the turn and the heap -/
theorem lc_seqA {K : PySem.W.Frag} {a : Addr} {xs : List V} {g : TG} {tt : TT} {te : TE} {vs : List Nat} {σ : L2.St} {H1 : Hp} {Qd : Addr → Hp → Prop} (h : SqL K H1 a xs ∨ SqT K H1 a xs) (Pv : Addr → Nat → Hp → Prop)
    (h0 : ∀ D, H1 D = none → Pv D 0 (upd H1 D (.lst []))) (keep : ∀ D i H, H1 D = none → i ≤ xs.length → Pv D i H → Same H1 H)
    (hs : ∀ D i x H, H1 D = none → xs[i]? = some x → Pv D i H → g x (wipe σ vs) H fun σ2 H2 => wipe σ2 vs = wipe σ vs ∧ tt σ2 H2 fun b H3 =>
      if b = true then te σ2 H3 fun y H4 => ∃ acc, H4 D = some (.lst acc) ∧ acc.length < sizeLine ∧ Pv D (i + 1) (upd H4 D (.lst (acc ++ [y]))) else Pv D (i + 1) H3) (hd : ∀ D H, H1 D = none → Pv D xs.length H → Qd D H) :
    ((∃ ys, SqL K H1 a ys) ∧ ∀ D, H1 D = none → ∃ W : Nat → Nat → Hp → Prop, (∃ m, W 0 m (upd H1 D (.lst []))) ∧ ∀ i m H, W i m H →
      ((Itl K a).stop i H ∧ Qd D H) ∨ ((Itl K a).go i H ∧ ∃ Nx : Hp → Prop, (∀ H', Nx H' → ∃ m', m' < m ∧ W (i + 1) m' H') ∧ ∀ x H', (Itl K a).yld i H x H' → g x (wipe σ vs) H' fun σ2 H2 => wipe σ2 vs = wipe σ vs ∧ tt σ2 H2 fun b H3 =>
        if b = true then te σ2 H3 fun y H4 => ∃ acc, H4 D = some (.lst acc) ∧ acc.length < sizeLine ∧ Nx (upd H4 D (.lst (acc ++ [y]))) else Nx H3)) ∨
    ((∃ ys, SqT K H1 a ys) ∧ ∀ D, H1 D = none → ∃ W : Nat → Nat → Hp → Prop, (∃ m, W 0 m (upd H1 D (.lst []))) ∧ ∀ i m H, W i m H →
      ((Itt K a).stop i H ∧ Qd D H) ∨ ((Itt K a).go i H ∧ ∃ Nx : Hp → Prop, (∀ H', Nx H' → ∃ m', m' < m ∧ W (i + 1) m' H') ∧ ∀ x H', (Itt K a).yld i H x H' → g x (wipe σ vs) H' fun σ2 H2 => wipe σ2 vs = wipe σ vs ∧ tt σ2 H2 fun b H3 =>
        if b = true then te σ2 H3 fun y H4 => ∃ acc, H4 D = some (.lst acc) ∧ acc.length < sizeLine ∧ Nx (upd H4 D (.lst (acc ++ [y]))) else Nx H3)) := by
  rcases h with h | h
  · exact .inl ⟨⟨xs, h⟩, fun D hD => lc_list (Pv D) (h0 D hD) (fun i H hi p => sqL_same h (keep D i H hD hi p)) (fun i x H hx p => hs D i x H hD hx p) fun H p => hd D H hD p⟩
  · exact .inr ⟨⟨xs, h⟩, fun D hD => lc_tup (Pv D) (h0 D hD) (fun i H hi p => sqT_same h (keep D i H hD hi p)) (fun i x H hx p => hs D i x H hD hx p) fun H p => hd D H hD p⟩
/-- whether a value is a list or a tuple -/
def IsL (K : PySem.W.Frag) (H : Hp) (x : V) (b : Bool) : Prop := ∃ (n : String) (b1 b2 : Bool), TyX K H x (.type n) ∧ kitB n "list" = some b1 ∧ kitB n "tuple" = some b2 ∧ b = (b1 || b2)
theorem isL_any {K : PySem.W.Frag} {H : Hp} {x : V} {b : Bool} (h : IsL K H x b) : ∃ t, TyX K H x t ∧ PySem.W.kitAny K t [.type "list", .type "tuple"] = some b := by
  obtain ⟨n, b1, b2, ty, e1, e2, rfl⟩ := h
  refine ⟨_, ty, kitAny_cons (kit_ty e1) (fun z => kitAny_cons (kit_ty e2) (fun z2 => ?_) fun z2 => ?_) fun z => ?_⟩
  · rw [z, z2]
    exact kitAny_nil
  · rw [z, z2]
    rfl
  · rw [z]
    rfl
section
variable {K : PySem.W.Frag} {H : Hp}
theorem isL_int (i : Int) : IsL K H (.int i) false := ⟨"int", false, false, .base (.int i), by decide +kernel, by decide +kernel, rfl⟩
theorem isL_non : IsL K H .non false := ⟨"NoneType", false, false, .base .non, by decide +kernel, by decide +kernel, rfl⟩
theorem isL_bl (b : Bool) : IsL K H (.bl b) false := ⟨"bool", false, false, .base (.bl b), by decide +kernel, by decide +kernel, rfl⟩
theorem isL_str (x : Str) : IsL K H (.str x) false := ⟨"str", false, false, .base (.str x), by decide +kernel, by decide +kernel, rfl⟩
theorem isL_dK {a : Addr} {kvs : List (Key × V)} (e : H a = some (.dK kvs)) : IsL K H (.ref a) false := ⟨"dict", false, false, .base (.dK e), by decide +kernel, by decide +kernel, rfl⟩
theorem isL_lst {a : Addr} {xs : List V} (e : H a = some (.lst xs)) : IsL K H (.ref a) true := ⟨"list", true, false, .base (.lst e), by decide +kernel, by decide +kernel, rfl⟩
theorem isL_tup {a : Addr} {xs : List V} (e : H a = some (.tup xs)) : IsL K H (.ref a) true := ⟨"tuple", false, true, .base (.tup e), by decide +kernel, by decide +kernel, rfl⟩
end
end OB
/-! repr of a list or a tuple of ints. -/
namespace OB
open PySem PySem.Spec PyProof.Rows L2
theorem shown_ints : ∀ ns : List Int, PyData.shownAll (ns.map PyData.int) = ns.map fun n => Str.ofString (toString n)
  | [] => by simp [PyData.shownAll]
  | n :: r => by simp [PyData.shownAll, PyData.shown, shown_ints r]
theorem show_ints : ∀ ns : List Int, (∀ n ∈ ns, n.natAbs.log2 < 1920) → PyData.showableAll (ns.map PyData.int) = true
  | [], _ => by simp [PyData.showableAll]
  | n :: r, h => by
    have h1 := h n List.mem_cons_self
    have h2 := show_ints r fun x hx => h x (List.mem_cons_of_mem _ hx)
    simp [PyData.showableAll, PyData.showable, h2, h1]
theorem piled_ints : ∀ ns : List Int, (∀ n ∈ ns, n.natAbs.log2 < 1920) → piled (ns.map fun n => Str.ofString (toString n)) ≤ 1923 * ns.length
  | [], _ => Nat.zero_le _
  | n :: r, h => by
    have h1 := int_text_len_1921 (h n List.mem_cons_self)
    have h2 := piled_ints r fun x hx => h x (List.mem_cons_of_mem _ hx)
    rw [List.map_cons, piled_cons, List.length_cons]
    omega
theorem list_len (ts : List Str) : (listText ts).length ≤ piled ts + 2 := by
  have one : (("[" : String) : Str).length = 1 := rfl
  have two : (("]" : String) : Str).length = 1 := rfl
  unfold listText
  rw [strLen_append, two]
  cases ts with
  | nil =>
    show (("[" : String) : Str).length + 1 ≤ _
    rw [one]
    exact Nat.le_add_left _ _
  | cons t r =>
    show (textFrom 1 ((("[" : String) : Str) ++ t) r).length + 1 ≤ _
    rw [textFrom_length_pos r 1 _ (by decide), strLen_append, one, piled_cons]
    omega
theorem depth_ints (ns : List Int) : PyData.depthAll (ns.map PyData.int) ≤ 1 := deep_ints ns
/-- the text of a list, of a tuple of ints -/
def tl (ns : List Int) : Str := PyData.shown (.list (ns.map PyData.int))
def tt (ns : List Int) : Str := PyData.shown (.tuple (ns.map PyData.int))
theorem tl_len {ns : List Int} (h : ∀ n ∈ ns, n.natAbs.log2 < 1920) (hl : ns.length ≤ 1000) : (tl ns).length ≤ sizeLine := by
  have a := piled_ints ns h
  have b := list_len (ns.map fun n => Str.ofString (toString n))
  show (listText (PyData.shownAll (ns.map PyData.int))).length ≤ sizeLine
  rw [shown_ints, sizeLine_eq]
  omega
theorem tt_len {ns : List Int} (h : ∀ n ∈ ns, n.natAbs.log2 < 1920) (hl : ns.length ≤ 1000) : (tt ns).length ≤ sizeLine := by
  have a := piled_ints ns h
  have b := fmt_text (ns.map fun n => Str.ofString (toString n))
  show (tupleText (PyData.shownAll (ns.map PyData.int))).length ≤ sizeLine
  rw [shown_ints, sizeLine_eq]
  omega
section
variable {X : Cx}
def rReprI (K : PySem.W.Frag) : List V → Hp → VK → Prop := fun xs H Q => ∃ (a : Addr) (ns : List Int), xs = [.ref a] ∧ (∀ n ∈ ns, n.natAbs.log2 < 1920) ∧ ns.length ≤ 1000 ∧ ((SqL K H a (ns.map V.int) ∧ Q (.str (tl ns)) H) ∨ (SqT K H a (ns.map V.int) ∧ Q (.str (tt ns)) H))
theorem call_reprI (hgd : X.A.guards = some []) (hu : X.A.units + 64 < cLine) : CallR X (.builtin "repr") (rReprI X.K) := by
  intro pins s σ H xs us Q I r h
  obtain ⟨a, ns, rfl, hs, hl, q⟩ := h
  have sh := show_ints ns hs
  have d := depth_ints ns
  rcases q with ⟨hq, q⟩ | ⟨hq, q⟩
  · refine call_reprD hgd hu pins s σ H _ us Q I r ⟨a, .list (ns.map PyData.int), rfl, Dp.lst hq (dp_ints ns), by simp [PyData.showable, sh], by simp [PyData.canLay0, lay_ints], ?_, tl_len hs hl, q⟩
    show PyData.depthAll (ns.map PyData.int) + 1 ≤ 60
    omega
  · refine call_reprD hgd hu pins s σ H _ us Q I r ⟨a, .tuple (ns.map PyData.int), rfl, Dp.tup hq (dp_ints ns), by simp [PyData.showable, sh], by simp [PyData.canLay0, lay_ints], ?_, tt_len hs hl, q⟩
    show PyData.depthAll (ns.map PyData.int) + 1 ≤ 60
    omega
end
end OB
/-! Own errors with two fields, raised. -/
namespace OB
open PySem PySem.Spec PyProof.Rows L2
/-- __init__(self, f, g): self.f = f; self.g = g of an own error -/
def spInit2 (K : PySem.W.Frag) (f g : Str) : Sp := fun vs H Q _ => ∃ (a C : Addr) (v u : V), vs = [.ref a, v, u] ∧ OexC K C ∧ PySem.W.findIn K (.ref C) f = some none ∧ PySem.W.findIn K (.ref C) g = some none ∧ H a = some (exo a C none) ∧
  ∀ dx, H dx = none → dx ≠ a → Q .non (upd (upd H dx (exd dx [(g, u), (f, v)])) a (exo a C (some dx)))
section
variable {P : Program} {w : World} {K : PySem.W.Frag} {mg : Str → Option Value} {base : Heap}
theorem ok_init2 {qual : Str} {st : Stmt} {fI : Addr} {fd : FuncData} {f g : Str} {p1 p2 p3 p4 r1 r2 r3 r4 : Pos} (F : Fun K "__init__" qual st fI fd) (S : FnScope ["self", f, g] ["self", f, g] (defScope st)) (hfg : ¬ f = g)
    (hb : defBody st = [.Assign [.Attribute (.Name "self" p1) f p2] (.Name f p3) p4, .Assign [.Attribute (.Name "self" r1) g r2] (.Name g r3) r4])
    (hv : Vis (defScope st) f) (hw : Vis (defScope st) g) (hs : Vis (defScope st) "self") (hd : (f == ("__debug__" : Str)) = false := by decide) (hcd : (f == ("__classdict__" : Str)) = false := by decide)
    (hd2 : (g == ("__debug__" : Str)) = false := by decide) (hcd2 : (g == ("__classdict__" : Str)) = false := by decide)
    (hsw : ∀ env : Env, swapsWith (.Name f p3) (some (.Attribute (.Name "self" p1) f p2)) p4.line env = pure false := by intro _; rfl)
    (hsw2 : ∀ env : Env, swapsWith (.Name g r3) (some (.Attribute (.Name "self" r1) g r2)) r4.line env = pure false := by intro _; rfl) :
    FnOk P w K mg base CX0 1 fI fd ["self", f, g] (spInit2 K f g) := by
  refine F.ok S (fun vs H Q E h => ?_) (fun cdv A outer s H vs Q E hr h => ?_)
  · obtain ⟨a, C, v, u, rfl, _⟩ := h
    rfl
  · obtain ⟨a, C, v, u, rfl, T, no, no2, ha, k⟩ := h
    rw [hb]
    refine ⟨_, pss_cons (ps_ost (pe_var (i := 0) rfl hs) (pe_var (i := 1) rfl hv hd hcd) (hsw _)) (pss_one (ps_ost (pe_var (i := 0) rfl hs) (pe_var (i := 2) rfl hw hd2 hcd2) (hsw2 _))), ?_⟩
    refine ⟨v, rfl, .ref a, rfl, a, C, rfl, T, no, .inl ⟨ha, fun dx n ne => ?_⟩⟩
    refine ⟨u, rfl, .ref a, rfl, a, C, rfl, T, no2, ?_⟩
    refine .inr ⟨dx, [(f, v)], upd_same, by rw [upd_ne ne, upd_same], (by show 1 ≤ 900; decide), ?_⟩
    have e : upd (upd (upd H dx (exd dx [(f, v)])) a (exo a C (some dx))) dx (exd dx ((g, u) :: [(f, v)])) = upd (upd H dx (exd dx [(g, u), (f, v)])) a (exo a C (some dx)) := by
      funext b
      by_cases h1 : b = a
      · rw [h1, upd_ne ne.symm, upd_same, upd_same]
      · by_cases h2 : b = dx
        · rw [h2, upd_same, upd_ne ne, upd_same]
        · rw [upd_ne h2, upd_ne h1, upd_ne h2, upd_ne h1, upd_ne h2]
    rw [e]
    exact k dx n ne
/-- an own error class with two fields, as the top leaves it -/
structure Err2 (P : Program) (w : World) (K : PySem.W.Frag) (mg : Str → Option Value) (base : Heap) (x f g : Str) (C fI : Addr) (fd : FuncData) : Prop where
  T : OexC K C
  iC : PySem.W.findIn K (.ref C) "__init__" = some (some (.ref fI))
  tI : PySem.W.typeIn K (.ref fI) = some (.type "function")
  F : FnOk P w K mg base CX0 1 fI fd ["self", f, g] (spInit2 K f g)
  b : Binds K fd ["self", f, g] []
  gl : mg x = some (.ref C)
  no : PySem.W.findIn K (.ref C) f = some none
  no2 : PySem.W.findIn K (.ref C) g = some none
end
/-- raise X(e, e2) -/
def tRaise2 (K : PySem.W.Frag) (C : Addr) (f g : Str) (W : WX) (te te2 : TE) : TS := fun _ σ H => tMkO C (spInit2 K f g) [] (tCons te (tCons te2 tNil)) σ H fun cls d H' => W cls d σ H'
theorem raise2_of {K : PySem.W.Frag} {C : Addr} {f g : Str} {W : WX} {σ : L2.St} {H1 : Hp} {v u : V} (T : OexC K C) (no : PySem.W.findIn K (.ref C) f = some none) (no2 : PySem.W.findIn K (.ref C) g = some none) (h : ∀ d, H1 d = none → W (.ref C) (some d) σ (upd H1 d (.xd [(g, u), (f, v)]))) :
    tNil σ H1 fun xs H2 => (v :: u :: xs).length ≤ 1000 ∧ ∀ a, H2 a = none → spInit2 K f g (.ref a :: ((v :: u :: xs) ++ [])) (upd H2 a (exo a C none))
      (fun z H3 => z = .non ∧ ∃ (d : Addr) (fs : List (Str × V)), H3 a = some (exo a C (some d)) ∧ H3 d = some (exd d fs) ∧ H2 d = none ∧ W (.ref C) (some d) σ (upd (del H3 a) d (.xd fs))) (fun _ _ _ => False) := by
  refine ⟨by show 2 ≤ 1000; decide, fun a ha => ⟨a, C, v, u, rfl, T, no, no2, upd_same, fun dx nd ne => ?_⟩⟩
  rw [upd_ne ne] at nd
  refine ⟨rfl, dx, [(g, u), (f, v)], upd_same, ?_, nd, ?_⟩
  · rw [upd_ne ne, upd_same]
  · rw [del_back ha ne]
    exact h dx nd
theorem ps_raise2 {X : Cx} {W : WX} {x f g : Str} {C fI : Addr} {fd : FuncData} {e e2 : Expr} {te te2 : TE} {p p2 pos : Pos} (hc : X.calm = true) (tk : Takes X W) (R : Err2 X.prog X.w X.K X.mg X.base x f g C fI fd) (hr : Room 2 X.A) (hg : Gl X x) (he : PE X e te) (he2 : PE X e2 te2)
    (hx : Passes CX0 X (fun _ _ _ => False) := by exact pass0) (hs2 : starEach [e2] X.env = [(false, eval e2 X.env)] := by rfl) (hs : starEach [e, e2] X.env = (false, eval e X.env) :: starEach [e2] X.env := by rfl) (hdb : (x == ("__debug__" : Str)) = false := by decide)
    (hpl : (backTo p2 (starEach [e2] X.env)).any (·.1) = false := by rfl) :
    PS X (.Raise (some (.Call (.Name x p) [e, e2] [] p2)) none pos) (tRaise2 X.K C f g W te te2) :=
  ps_raise (pos := pos) hc tk (pmk_oex (p := p) (pos := p2) R.T R.iC R.tI R.F hr R.b .nil hx hg R.gl (pa_cons he (pa_cons he2 pa_nil hs2) hs) hdb hs hpl)
end OB
/-! d.setdefault(k, v), called. -/
namespace OB
open PySem PySem.Spec PyProof.Rows L2
theorem args_setd (a b c : Value) : argsOk "dict.setdefault" ⟨[a, b, c], []⟩ := by unfold argsOk; kernel_rfl
theorem mt_setdefault {X : Cx} : MtR X "dict.setdefault" rSetd := by
  intro pins s σ H x vs v0 us Q I rx rv h
  obtain ⟨a, kvs, k, v, rfl, rfl, ea, hl, w1, w2⟩ := h
  cases rx
  cases rv with
  | cons ry rv =>
    cases rv with
    | cons rd rv =>
      cases rv
      obtain ⟨z, hd, vs0, rel, dd⟩ := dk_of I.hok ea
      have hz : vs0.length ≤ sizeLine := by rw [← rel.length]; exact z
      refine call_meetsIn PySem.F.slot_dict_setdefault dd.typeIs PySem.F.entry_dict_setdefault (PySem.F.args_dict_setdefault_3 _ _ _) (kt_meets_setdefault (mixKind X.prog X.w) _ (kV_is ry) hd _) ⟨vs0, dd, hz, fun u hu => ?_, fun hn h' dd' hs => ?_⟩
      · have rr := rel.val k
        rw [hu] at rr
        cases hv : valV kvs k with
        | none => rw [hv] at rr; exact False.elim rr
        | some x =>
          rw [hv] at rr
          exact (⟨x, H, I.tok _, rr, w1 x hv⟩ : EP X pins σ Q u _)
      · have rr := rel.val k
        rw [hn] at rr
        cases hv : valV kvs k with
        | some x => rw [hv] at rr; exact False.elim rr
        | none =>
          have hl2 : (putK kvs k v).length ≤ sizeLine := by have := length_putK kvs k v; omega
          exact (⟨v, _, d_write (t' := s.toks + 1) I (by rw [ea]; exact True.intro) hs (let ⟨q, _, _, hq, _⟩ := dd'; ⟨q, hq⟩) (dk_new hl2 hd (rel.put k rd) dd'), rd, w2 hv⟩ : EP X pins σ Q _ _)
end OB
/-! Ones of a number, pairs of neighbours below it. -/
namespace M04
theorem two_pos (k : Nat) : 0 < 2 ^ k := Nat.pow_pos (by decide)
def cnt (n : Nat) : Nat → Nat
  | 0 => 0
  | k + 1 => cnt n k + n / 2 ^ k % 2
theorem cnt_low (n k : Nat) : cnt n (k + 1) = n % 2 + cnt (n / 2) k := by
  induction k with
  | zero =>
    show 0 + n / 2 ^ 0 % 2 = n % 2 + 0
    rw [Nat.pow_zero, Nat.div_one]
    omega
  | succ k ih =>
    show cnt n (k + 1) + n / 2 ^ (k + 1) % 2 = n % 2 + (cnt (n / 2) k + n / 2 / 2 ^ k % 2)
    rw [ih, Nat.div_div_eq_div_mul, Nat.pow_succ, Nat.mul_comm 2]
    omega
def pc (n : Nat) : Nat := cnt n n
theorem cnt_zero (k : Nat) : cnt 0 k = 0 := by
  induction k with
  | zero => rfl
  | succ k ih =>
    show cnt 0 k + 0 / 2 ^ k % 2 = 0
    rw [ih, Nat.zero_div]
theorem cnt_more {n k : Nat} (h : n < 2 ^ k) : cnt n (k + 1) = cnt n k := by
  show cnt n k + n / 2 ^ k % 2 = cnt n k
  rw [Nat.div_eq_of_lt h]
  rfl
theorem cnt_up {n k : Nat} (h : n < 2 ^ k) (m : Nat) : cnt n (k + m) = cnt n k := by
  induction m with
  | zero => rfl
  | succ m ih =>
    have h2 : n < 2 ^ (k + m) := Nat.lt_of_lt_of_le h (Nat.pow_le_pow_right (by decide) (Nat.le_add_right k m))
    exact (cnt_more h2).trans ih
theorem cnt_pc {n k : Nat} (h : n < 2 ^ k) : cnt n k = pc n := by
  unfold pc
  have h2 : n < 2 ^ n := Nat.lt_two_pow_self
  by_cases c : k ≤ n
  · have e := cnt_up h (n - k)
    rw [show k + (n - k) = n by omega] at e
    exact e.symm
  · have e := cnt_up h2 (k - n)
    rw [show n + (k - n) = k by omega] at e
    exact e
theorem pc_half (n : Nat) : pc n = n % 2 + pc (n / 2) := by
  have h : n < 2 ^ (n + 1) := Nat.lt_trans Nat.lt_two_pow_self (Nat.pow_lt_pow_right (by decide) (Nat.lt_succ_self n))
  have h2 : n / 2 < 2 ^ n := by
    rw [Nat.pow_succ] at h
    omega
  rw [← cnt_pc h, cnt_low, cnt_pc h2]
theorem pc_two (n : Nat) : pc (2 * n) = pc n := by
  rw [pc_half, show 2 * n % 2 = 0 by omega, show 2 * n / 2 = n by omega, Nat.zero_add]
theorem pc_odd (n : Nat) : pc (2 * n + 1) = pc n + 1 := by
  rw [pc_half, show (2 * n + 1) % 2 = 1 by omega, show (2 * n + 1) / 2 = n by omega, Nat.add_comm]
theorem pc_zero : pc 0 = 0 := rfl
/-- the ones of all words below n -/
def E : Nat → Nat
  | 0 => 0
  | n + 1 => E n + pc n
theorem E_two (m : Nat) : E (2 * m) = 2 * E m + m := by
  induction m with
  | zero => rfl
  | succ m ih =>
    show E (2 * m) + pc (2 * m) + pc (2 * m + 1) = 2 * (E m + pc m) + (m + 1)
    rw [ih, pc_two, pc_odd]
    omega
theorem E_odd (m : Nat) : E (2 * m + 1) = E m + E (m + 1) + m := by
  show E (2 * m) + pc (2 * m) = E m + (E m + pc m) + m
  rw [E_two, pc_two]
  omega
theorem E_even (m : Nat) : E (2 * m + 2) = 2 * E (m + 1) + m + 1 := E_two (m + 1)
def T (b : Nat) : Nat := b * 2 ^ b / 2
theorem T_succ (b : Nat) : T (b + 1) = (b + 1) * 2 ^ b := by
  unfold T
  rw [Nat.pow_succ, ← Nat.mul_assoc, Nat.mul_div_cancel _ (by decide)]
theorem T_two (b : Nat) : 2 * T b = b * 2 ^ b := by
  cases b with
  | zero => rfl
  | succ b => rw [T_succ, Nat.pow_succ, Nat.mul_comm 2, Nat.mul_assoc]
theorem pc_pow (q b : Nat) : pc (q * 2 ^ b) = pc q := by
  induction b with
  | zero => rw [Nat.pow_zero, Nat.mul_one]
  | succ b ih => rw [Nat.pow_succ, ← Nat.mul_assoc, Nat.mul_comm, pc_two, ih]
theorem E_pow (q b : Nat) : E (q * 2 ^ b + 2 ^ b) = E (q * 2 ^ b) + pc q * 2 ^ b + T b := by
  induction b with
  | zero =>
    show E (q * 1 + 1) = E (q * 1) + pc q * 1 + 0
    rw [Nat.mul_one, Nat.mul_one]
    rfl
  | succ b ih =>
    have e1 : q * 2 ^ (b + 1) = 2 * (q * 2 ^ b) := by rw [Nat.pow_succ, ← Nat.mul_assoc, Nat.mul_comm]
    have e2 : 2 ^ (b + 1) = 2 * 2 ^ b := by rw [Nat.pow_succ, Nat.mul_comm]
    rw [e1, e2, ← Nat.mul_add, E_two, E_two, ih, T_succ, Nat.mul_add, Nat.mul_add, T_two, Nat.add_mul]
    have e3 : pc q * (2 * 2 ^ b) = 2 * (pc q * 2 ^ b) := by rw [← Nat.mul_assoc, Nat.mul_comm (pc q), Nat.mul_assoc]
    rw [e3]
    omega
/-- the bits of n below c, descending -/
def D (n : Nat) : Nat → List Nat
  | 0 => []
  | c + 1 => if n / 2 ^ c % 2 = 1 then c :: D n c else D n c
def S : List Nat → Nat → Nat → Nat
  | [], _, acc => acc
  | b :: r, a, acc => S r (a + 1) (acc + a * 2 ^ b + T b)
theorem S_is (n c : Nat) : S (D n c) (pc (n / 2 ^ c)) (E (n / 2 ^ c * 2 ^ c)) = E n := by
  induction c with
  | zero =>
    show E (n / 2 ^ 0 * 2 ^ 0) = E n
    rw [Nat.pow_zero, Nat.div_one, Nat.mul_one]
  | succ c ih =>
    have e : n / 2 ^ (c + 1) = n / 2 ^ c / 2 := by rw [Nat.pow_succ, Nat.div_div_eq_div_mul]
    have e2 : n / 2 ^ (c + 1) * 2 ^ (c + 1) = 2 * (n / 2 ^ c / 2) * 2 ^ c := by
      rw [e, Nat.pow_succ, Nat.mul_comm (2 ^ c), ← Nat.mul_assoc, Nat.mul_comm _ 2]
    unfold D
    by_cases h : n / 2 ^ c % 2 = 1
    · rw [if_pos h, e2, e]
      show S (D n c) (pc (n / 2 ^ c / 2) + 1) (E (2 * (n / 2 ^ c / 2) * 2 ^ c) + pc (n / 2 ^ c / 2) * 2 ^ c + T c) = E n
      have p1 : pc (n / 2 ^ c / 2) + 1 = pc (n / 2 ^ c) := by rw [pc_half (n / 2 ^ c), h, Nat.add_comm]
      have p2 : pc (n / 2 ^ c / 2) = pc (2 * (n / 2 ^ c / 2)) := (pc_two _).symm
      have p3 : 2 * (n / 2 ^ c / 2) * 2 ^ c + 2 ^ c = n / 2 ^ c * 2 ^ c := by
        have z : n / 2 ^ c = 2 * (n / 2 ^ c / 2) + 1 := by omega
        conv => rhs; rw [z]
        rw [Nat.add_mul, Nat.one_mul]
      rw [p1, p2, ← E_pow, p3]
      exact ih
    · rw [if_neg h, e2, e]
      have z : 2 * (n / 2 ^ c / 2) = n / 2 ^ c := by omega
      have p1 : pc (n / 2 ^ c / 2) = pc (n / 2 ^ c) := by
        have q := pc_two (n / 2 ^ c / 2)
        rw [z] at q
        exact q.symm
      rw [z, p1]
      exact ih
theorem S_all {n c : Nat} (h : n < 2 ^ c) : S (D n c) 0 0 = E n := by
  have e := S_is n c
  rw [Nat.div_eq_of_lt h, Nat.zero_mul] at e
  exact e
theorem E_two_pow (p : Nat) : E (2 * 2 ^ p) = (p + 1) * 2 ^ p := by
  have e := E_pow 0 (p + 1)
  rw [Nat.zero_mul, Nat.zero_add, T_succ] at e
  have e2 : 2 ^ (p + 1) = 2 * 2 ^ p := by rw [Nat.pow_succ, Nat.mul_comm]
  rw [e2] at e
  rw [e]
  show 0 + 0 * _ + _ = _
  rw [Nat.zero_mul]
  omega
/-- the bits of n below c, ascending -/
theorem D_rev (n c : Nat) : (D n c).reverse = (List.range c).filter fun i => decide (n / 2 ^ i % 2 = 1) := by
  induction c with
  | zero => rfl
  | succ c ih =>
    rw [List.range_succ, List.filter_append, ← ih]
    show (if n / 2 ^ c % 2 = 1 then c :: D n c else D n c).reverse = _
    by_cases h : n / 2 ^ c % 2 = 1
    · rw [if_pos h, List.reverse_cons]
      simp [h]
    · rw [if_neg h]
      simp [h]
theorem D_lt {n c b : Nat} (h : b ∈ D n c) : b < c := by
  have e : b ∈ (D n c).reverse := List.mem_reverse.mpr h
  rw [D_rev] at e
  exact List.mem_range.mp (List.mem_filter.mp e).1
theorem D_len (n c : Nat) : (D n c).length ≤ c := by
  rw [← List.length_reverse, D_rev]
  exact Nat.le_trans (List.length_filter_le _ _) (by rw [List.length_range]; exact Nat.le_refl _)
/-! ### signs -/
/-- the signs of n to the base 2, the lowest first -/
def R (n : Nat) : List Nat := ((Nat.toDigits 2 n).map fun c => c.toNat).reverse
theorem R_small {n : Nat} (h : n < 2) : R n = [48 + n] := by
  unfold R
  rw [Nat.toDigits_of_lt_base h]
  have e : n = 0 ∨ n = 1 := by omega
  rcases e with rfl | rfl <;> rfl
theorem R_big {n : Nat} (h : 2 ≤ n) : R n = (48 + n % 2) :: R (n / 2) := by
  unfold R
  rw [Nat.toDigits_of_base_le (by decide) h, List.map_append, List.reverse_append]
  have e : n % 2 = 0 ∨ n % 2 = 1 := by omega
  rcases e with z | z <;> rw [z] <;> rfl
theorem R_facts : ∀ n : Nat, n < 2 ^ (R n).length ∧ (∀ i, i < (R n).length → (R n)[i]? = some (48 + n / 2 ^ i % 2)) := by
  intro n
  induction n using Nat.strongRecOn with
  | ind n ih =>
    by_cases h : n < 2
    · rw [R_small h]
      refine ⟨by show n < 2 ^ 1; omega, fun i hi => ?_⟩
      have hi : i < 1 := hi
      have e : i = 0 := by omega
      subst e
      show some (48 + n) = some (48 + n / 2 ^ 0 % 2)
      rw [Nat.pow_zero, Nat.div_one, Nat.mod_eq_of_lt h]
    · have h2 : 2 ≤ n := by omega
      obtain ⟨a, b⟩ := ih (n / 2) (by omega)
      rw [R_big h2]
      refine ⟨?_, fun i hi => ?_⟩
      · show n < 2 ^ ((R (n / 2)).length + 1)
        rw [Nat.pow_succ]
        omega
      · cases i with
        | zero =>
          show some (48 + n % 2) = some (48 + n / 2 ^ 0 % 2)
          rw [Nat.pow_zero, Nat.div_one]
        | succ i =>
          show (R (n / 2))[i]? = _
          rw [b i (by have hi : i + 1 < (R (n / 2)).length + 1 := hi; omega), Nat.div_div_eq_div_mul, Nat.pow_succ, Nat.mul_comm 2]
theorem R_len {n k : Nat} (hk : 0 < k) (h : n < 2 ^ k) : (R n).length ≤ k := by
  induction k generalizing n with
  | zero => exact absurd hk (by decide)
  | succ k ih =>
    by_cases c : n < 2
    · rw [R_small c]
      exact Nat.succ_le_succ (Nat.zero_le _)
    · rw [R_big (by omega)]
      rw [Nat.pow_succ] at h
      have hk2 : 0 < k := by
        cases k with
        | zero =>
          rw [Nat.pow_zero] at h
          omega
        | succ k => exact Nat.succ_pos k
      exact Nat.succ_le_succ (ih hk2 (by omega))
theorem R_count (n : Nat) : (R n).countP (fun c => decide (c = 49)) = pc n := by
  induction n using Nat.strongRecOn with
  | ind n ih =>
    by_cases h : n < 2
    · rw [R_small h]
      have e : n = 0 ∨ n = 1 := by omega
      rcases e with rfl | rfl <;> rfl
    · rw [R_big (by omega), List.countP_cons, ih (n / 2) (by omega), pc_half n]
      have e : n % 2 = 0 ∨ n % 2 = 1 := by omega
      rcases e with z | z <;> rw [z] <;> simp <;> omega
theorem cnt_le (n k : Nat) : cnt n k ≤ k := by
  induction k with
  | zero => exact Nat.le_refl _
  | succ k ih =>
    show cnt n k + n / 2 ^ k % 2 ≤ k + 1
    omega
theorem pc_le {n k : Nat} (h : n < 2 ^ k) : pc n ≤ k := by
  rw [← cnt_pc h]
  exact cnt_le n k
theorem E_le {n k : Nat} (h : n ≤ 2 ^ k) : E n ≤ n * k := by
  induction n with
  | zero => exact Nat.zero_le _
  | succ n ih =>
    have a := ih (Nat.le_of_succ_le h)
    have b := pc_le (n := n) (k := k) (Nat.lt_of_succ_le h)
    show E n + pc n ≤ (n + 1) * k
    rw [Nat.add_mul, Nat.one_mul]
    omega
theorem E_lt {n : Nat} (h : n < 2 ^ 402) : E n < 2 ^ 500 := by
  refine Nat.lt_of_le_of_lt (E_le (Nat.le_of_lt h)) ?_
  have a : n * 402 ≤ 2 ^ 402 * 402 := Nat.mul_le_mul_right _ (Nat.le_of_lt h)
  exact Nat.lt_of_le_of_lt a (by decide)
end M04
set_option maxHeartbeats 1000000
namespace M07
def gray (n : Nat) : Nat := n ^^^ (n >>> 1)
theorem gray_bit (n i : Nat) : (gray n).testBit i = (n.testBit i ^^ n.testBit (i + 1)) := by
  unfold gray
  rw [Nat.testBit_xor, Nat.testBit_shiftRight, Nat.add_comm 1 i]
theorem tele (p s : Nat) : (p ^^^ (p >>> s)) ^^^ ((p ^^^ (p >>> s)) >>> s) = p ^^^ (p >>> (2 * s)) := by
  apply Nat.eq_of_testBit_eq
  intro i
  simp only [Nat.testBit_xor, Nat.testBit_shiftRight]
  rw [show 2 * s + i = s + (s + i) by omega]
  cases p.testBit i <;> cases p.testBit (s + i) <;> cases p.testBit (s + (s + i)) <;> rfl
theorem xor_zero_eq {a b : Nat} (h : a ^^^ b = 0) : a = b := by
  apply Nat.eq_of_testBit_eq
  intro i
  have z : (a ^^^ b).testBit i = (0 : Nat).testBit i := by rw [h]
  rw [Nat.testBit_xor, Nat.zero_testBit] at z
  cases e1 : a.testBit i <;> cases e2 : b.testBit i <;> rw [e1, e2] at z <;> first | rfl | cases z
theorem half_zero {q : Nat} (h : q = q >>> 1) : q = 0 := by
  rw [Nat.shiftRight_eq_div_pow] at h
  omega
theorem gray_end {p s : Nat} (h : gray p < 2 ^ s) : p ^^^ (p >>> s) = p := by
  have e : (p >>> s) ^^^ ((p >>> s) >>> 1) = 0 := by
    have z : gray p >>> s = 0 := by
      rw [Nat.shiftRight_eq_div_pow]
      exact Nat.div_eq_of_lt h
    rw [← z]
    unfold gray
    apply Nat.eq_of_testBit_eq
    intro i
    simp only [Nat.testBit_xor, Nat.testBit_shiftRight]
    rw [show s + (1 + i) = 1 + (s + i) by omega]
  have e3 : p >>> s = 0 := half_zero (xor_zero_eq e)
  rw [e3, Nat.xor_zero]
theorem one_bit (x i : Nat) : decide (x / 2 ^ i % 2 = 1) = x.testBit i := (Nat.testBit_eq_decide_div_mod_eq).symm
theorem next_mod (x i : Nat) : x % 2 ^ (i + 1) = x % 2 ^ i + (if x.testBit i = true then 2 ^ i else 0) := by
  rw [Nat.pow_succ, Nat.mod_mul, ← one_bit]
  have h := Nat.mod_two_eq_zero_or_one (x / 2 ^ i)
  rcases h with h | h <;> simp [h]
/-- the lowest bit that is 0 -/
def Low (p low : Nat) : Prop := (∀ j, j < low → p.testBit j = true) ∧ p.testBit low = false
theorem low_mod {p low : Nat} (h : Low p low) : p % 2 ^ (low + 1) = 2 ^ low - 1 := by
  apply Nat.eq_of_testBit_eq
  intro i
  rw [Nat.testBit_mod_two_pow, Nat.testBit_two_pow_sub_one]
  by_cases h1 : i < low
  · rw [h.1 i h1, decide_eq_true h1, decide_eq_true (show i < low + 1 by omega)]
    rfl
  · by_cases h2 : i = low
    · subst h2
      rw [h.2]
      simp
    · rw [decide_eq_false (show ¬ i < low + 1 by omega), decide_eq_false h1]
      rfl
theorem two_pos (k : Nat) : 0 < 2 ^ k := Nat.two_pow_pos k
theorem low_p {p low : Nat} (h : Low p low) (i : Nat) : p.testBit i = if i < low + 1 then decide (i < low) else (p / 2 ^ (low + 1)).testBit (i - (low + 1)) := by
  have e := Nat.div_add_mod p (2 ^ (low + 1))
  rw [low_mod h] at e
  have l : 2 ^ low - 1 < 2 ^ (low + 1) := by
    have a := two_pos low
    rw [Nat.pow_succ]
    omega
  conv => lhs; rw [← e]
  rw [Nat.testBit_two_pow_mul_add _ l, Nat.testBit_two_pow_sub_one]
theorem low_s {p low : Nat} (h : Low p low) (i : Nat) : (p + 1).testBit i = if i < low + 1 then decide (low = i) else (p / 2 ^ (low + 1)).testBit (i - (low + 1)) := by
  have e := Nat.div_add_mod p (2 ^ (low + 1))
  rw [low_mod h] at e
  have a := two_pos low
  have l : 2 ^ low < 2 ^ (low + 1) := by
    rw [Nat.pow_succ]
    omega
  have e2 : p + 1 = 2 ^ (low + 1) * (p / 2 ^ (low + 1)) + 2 ^ low := by omega
  conv => lhs; rw [e2]
  rw [Nat.testBit_two_pow_mul_add _ l, Nat.testBit_two_pow]
theorem gray_next {p low : Nat} (h : Low p low) : gray (p + 1) = gray p ^^^ 2 ^ low := by
  apply Nat.eq_of_testBit_eq
  intro i
  rw [Nat.testBit_xor, gray_bit, gray_bit, low_p h, low_p h, low_s h, low_s h, Nat.testBit_two_pow]
  by_cases h1 : i < low
  · simp only [show i < low + 1 by omega, show i + 1 < low + 1 by omega, if_true]
    by_cases h2 : i + 1 < low
    · simp [h1, h2, show ¬ low = i by omega, show ¬ low = i + 1 by omega]
    · have h3 : low = i + 1 := by omega
      simp [h3]
  · by_cases h2 : i = low
    · subst h2
      simp
    · simp [show ¬ i < low + 1 by omega, show ¬ i + 1 < low + 1 by omega, show ¬ low = i by omega]
theorem xor_pow {x k : Nat} : x ^^^ 2 ^ k = if x.testBit k = true then x - 2 ^ k else x + 2 ^ k := by
  have split : x = 2 ^ (k + 1) * (x / 2 ^ (k + 1)) + ((if x.testBit k = true then 2 ^ k else 0) + x % 2 ^ k) := by
    have e := Nat.div_add_mod x (2 ^ (k + 1))
    rw [next_mod] at e
    omega
  have m := Nat.mod_lt x (two_pos k)
  have l1 : 2 ^ k + x % 2 ^ k < 2 ^ (k + 1) := by
    rw [Nat.pow_succ]
    omega
  have bits : ∀ (q r : Nat) (i : Nat), r < 2 ^ k → (2 ^ (k + 1) * q + (2 ^ k + r)).testBit i = ((2 ^ (k + 1) * q + r) ^^^ 2 ^ k).testBit i := by
    intro q r i hr
    have l2 : 2 ^ k + r < 2 ^ (k + 1) := by
      rw [Nat.pow_succ]
      omega
    have l3 : r < 2 ^ (k + 1) := by
      rw [Nat.pow_succ]
      omega
    rw [Nat.testBit_xor, Nat.testBit_two_pow_mul_add _ l2, Nat.testBit_two_pow_mul_add _ l3, Nat.testBit_two_pow]
    have er : 2 ^ k + r = 2 ^ k * 1 + r := by omega
    rw [er, Nat.testBit_two_pow_mul_add _ hr]
    by_cases h1 : i < k + 1
    · simp only [h1, if_true]
      by_cases h2 : i < k
      · simp [h2, show ¬ k = i by omega]
      · have h3 : i = k := by omega
        subst h3
        simp [Nat.testBit_lt_two_pow hr]
    · simp [h1, show ¬ k = i by omega]
  cases hb : x.testBit k with
  | true =>
    rw [hb] at split
    simp only [if_true] at split
    have e : 2 ^ (k + 1) * (x / 2 ^ (k + 1)) + x % 2 ^ k = x - 2 ^ k := by omega
    simp only [if_true]
    rw [← e]
    apply Nat.eq_of_testBit_eq
    intro i
    have b := bits (x / 2 ^ (k + 1)) (x % 2 ^ k) i m
    rw [← split] at b
    rw [Nat.testBit_xor, b, Nat.testBit_xor]
    cases (2 ^ (k + 1) * (x / 2 ^ (k + 1)) + x % 2 ^ k).testBit i <;> cases (2 ^ k).testBit i <;> rfl
  | false =>
    rw [hb] at split
    simp only [Bool.false_eq_true, if_false, Nat.zero_add] at split
    simp only [Bool.false_eq_true, if_false]
    have e : 2 ^ (k + 1) * (x / 2 ^ (k + 1)) + (2 ^ k + x % 2 ^ k) = x + 2 ^ k := by omega
    rw [← e]
    apply Nat.eq_of_testBit_eq
    intro i
    rw [bits (x / 2 ^ (k + 1)) (x % 2 ^ k) i m, ← split]
theorem gray_lt {n k : Nat} (h : n < 2 ^ k) : gray n < 2 ^ k := by
  unfold gray
  refine Nat.xor_lt_two_pow h ?_
  rw [Nat.shiftRight_eq_div_pow]
  exact Nat.lt_of_le_of_lt (Nat.div_le_self _ _) h
theorem gray_mod {n k : Nat} (h : n < 2 ^ k) : gray n % 2 ^ k = gray n := Nat.mod_eq_of_lt (gray_lt h)
end M07
/-! No words have more pairs of neighbours than those below their number. -/
namespace M05
open M04
theorem E_succ (n : Nat) : E (n + 1) = E n + pc n := rfl
theorem E_two : ∀ n, E (2 * n) = 2 * E n + n
  | 0 => rfl
  | n + 1 => by
    rw [show 2 * (n + 1) = 2 * n + 1 + 1 by omega, E_succ, E_succ, E_two n, pc_two, pc_odd, E_succ]
    omega
theorem E_odd (n : Nat) : E (2 * n + 1) = E n + E (n + 1) + n := by
  rw [E_succ, E_two, pc_two, E_succ]
  omega
theorem E_add (n : Nat) : ∀ a b, a + b = n → b ≤ a → E a + E b + b ≤ E (a + b) := by
  induction n using Nat.strongRecOn with
  | _ n ih =>
    intro a b hn hb
    by_cases z : b = 0
    · rw [z]
      show E a + 0 + 0 ≤ E a
      omega
    have h : ∀ a b, a + b < n → b ≤ a → E a + E b + b ≤ E (a + b) := fun a b h1 h2 => ih (a + b) h1 a b rfl h2
    obtain ⟨p, ha⟩ : ∃ p, a = 2 * p ∨ a = 2 * p + 1 := ⟨a / 2, by omega⟩
    obtain ⟨q, hq⟩ : ∃ q, b = 2 * q ∨ b = 2 * q + 1 := ⟨b / 2, by omega⟩
    rcases ha with ha | ha <;> rcases hq with hq | hq <;> subst ha hq
    · have h1 := h p q (by omega) (by omega)
      rw [show 2 * p + 2 * q = 2 * (p + q) by omega, E_two, E_two, E_two]
      omega
    · have h1 := h p q (by omega) (by omega)
      have h2 := h p (q + 1) (by omega) (by omega)
      rw [show 2 * p + (2 * q + 1) = 2 * (p + q) + 1 by omega, E_odd (p + q), E_two p, E_odd q, show p + q + 1 = p + (q + 1) by omega]
      omega
    · have h1 := h p q (by omega) (by omega)
      have h2 := h (p + 1) q (by omega) (by omega)
      rw [show 2 * p + 1 + 2 * q = 2 * (p + q) + 1 by omega, E_odd (p + q), E_odd p, E_two q, show p + q + 1 = p + 1 + q by omega]
      omega
    · have e : 2 * p + 1 + (2 * q + 1) = 2 * (p + q + 1) := by omega
      rw [e, E_two, E_odd p, E_odd q]
      have h1 := h (p + 1) q (by omega) (by omega)
      rw [show p + 1 + q = p + q + 1 by omega] at h1
      by_cases c : q + 1 ≤ p
      · have h2 := h p (q + 1) (by omega) c
        rw [show p + (q + 1) = p + q + 1 by omega] at h2
        omega
      · have eq : q = p := by omega
        subst eq
        omega
def near (x y : Nat) : Bool := (List.range ((x ^^^ y) + 1)).any fun k => decide (x ^^^ y = 2 ^ k)
theorem near_iff {x y : Nat} : near x y = true ↔ ∃ k, x ^^^ y = 2 ^ k := by
  unfold near
  rw [List.any_eq_true]
  constructor
  · rintro ⟨k, _, h⟩
    exact ⟨k, of_decide_eq_true h⟩
  · rintro ⟨k, h⟩
    refine ⟨k, List.mem_range.mpr ?_, decide_eq_true h⟩
    have := Nat.lt_two_pow_self (n := k)
    omega
theorem near_of {x y u v : Nat} (h : x ^^^ y = u ^^^ v) : near x y = near u v := by
  rw [Bool.eq_iff_iff, near_iff, near_iff, h]
theorem near_comm (x y : Nat) : near x y = near y x := near_of (Nat.xor_comm x y)
theorem up_xor {y B : Nat} (h : y < 2 ^ B) : y + 2 ^ B = y ^^^ 2 ^ B := by
  have := M07.xor_pow (x := y) (k := B)
  rw [if_neg (by rw [Nat.testBit_lt_two_pow h]; simp)] at this
  exact this.symm
theorem near_up {x y B : Nat} (hx : x < 2 ^ B) (hy : y < 2 ^ B) : near (x + 2 ^ B) (y + 2 ^ B) = near x y := by
  refine near_of ?_
  rw [up_xor hx, up_xor hy, Nat.xor_assoc, ← Nat.xor_assoc (2 ^ B), Nat.xor_comm (2 ^ B) y, Nat.xor_assoc y, Nat.xor_self, Nat.xor_zero]
theorem near_over {x y B : Nat} (hx : x < 2 ^ B) (hy : y < 2 ^ B) (h : near x (y + 2 ^ B) = true) : x = y := by
  obtain ⟨k, hk⟩ := near_iff.mp h
  have hxy := Nat.xor_lt_two_pow hx hy
  rw [up_xor hy, ← Nat.xor_assoc, ← up_xor hxy] at hk
  have z : x ^^^ y = 0 := by
    by_cases c : x ^^^ y = 0
    · exact c
    · exfalso
      by_cases kb : k ≤ B
      · have := Nat.pow_le_pow_right (show 0 < 2 by decide) kb
        omega
      · have h2 := Nat.pow_le_pow_right (show 0 < 2 by decide) (show B + 1 ≤ k by omega)
        rw [Nat.pow_succ] at h2
        omega
  have e := congrArg (fun v => v ^^^ y) z
  simp only [Nat.xor_assoc, Nat.xor_self, Nat.xor_zero, Nat.zero_xor] at e
  exact e
def prs : List Nat → Nat
  | [] => 0
  | x :: r => r.countP (near x) + prs r
def crs : List Nat → List Nat → Nat
  | [], _ => 0
  | x :: r, l => l.countP (near x) + crs r l
theorem prs_app : ∀ l1 l2, prs (l1 ++ l2) = prs l1 + prs l2 + crs l1 l2
  | [], l2 => by
    show prs l2 = 0 + prs l2 + 0
    omega
  | x :: r, l2 => by
    show (r ++ l2).countP (near x) + prs (r ++ l2) = r.countP (near x) + prs r + prs l2 + (l2.countP (near x) + crs r l2)
    rw [List.countP_append, prs_app r l2]
    omega
theorem prs_perm {l1 l2 : List Nat} (h : l1.Perm l2) : prs l1 = prs l2 := by
  induction h with
  | nil => rfl
  | cons x p ih =>
    show _ + _ = _ + _
    rw [ih, p.countP_eq]
  | swap x y l =>
    show (x :: l).countP (near y) + (l.countP (near x) + prs l) = (y :: l).countP (near x) + (l.countP (near y) + prs l)
    rw [List.countP_cons, List.countP_cons, near_comm y x]
    omega
  | trans _ _ ih1 ih2 => rw [ih1, ih2]
theorem crs_le {l1 l2 : List Nat} (h : ∀ x ∈ l1, l2.countP (near x) ≤ 1) : crs l1 l2 ≤ l1.length := by
  induction l1 with
  | nil => exact Nat.le_refl _
  | cons x r ih =>
    show l2.countP (near x) + crs r l2 ≤ r.length + 1
    have := h x List.mem_cons_self
    have := ih fun y hy => h y (List.mem_cons_of_mem _ hy)
    omega
theorem crs_nil (l : List Nat) : crs l [] = 0 := by
  induction l with
  | nil => rfl
  | cons x r ih => exact (Nat.zero_add _).trans ih
theorem crs_cons (l : List Nat) (x : Nat) (r : List Nat) : crs l (x :: r) = l.countP (near x) + crs l r := by
  induction l with
  | nil => rfl
  | cons y s ih =>
    show (x :: r).countP (near y) + crs s (x :: r) = (y :: s).countP (near x) + (r.countP (near y) + crs s r)
    rw [ih, List.countP_cons, List.countP_cons, near_comm y x]
    omega
theorem crs_comm : ∀ l1 l2, crs l1 l2 = crs l2 l1
  | [], l2 => (crs_nil l2).symm
  | x :: r, l2 => by
    rw [crs_cons, ← crs_comm r l2]
    rfl
theorem prs_map {f : Nat → Nat} : ∀ l : List Nat, (∀ x ∈ l, ∀ y ∈ l, near (f x) (f y) = near x y) → prs (l.map f) = prs l
  | [], _ => rfl
  | x :: r, h => by
    show (r.map f).countP (near (f x)) + prs (r.map f) = r.countP (near x) + prs r
    rw [prs_map r fun y hy z hz => h y (List.mem_cons_of_mem _ hy) z (List.mem_cons_of_mem _ hz), List.countP_map]
    congr 1
    exact List.countP_congr fun y hy => by
      show near (f x) (f y) = true ↔ _
      rw [h x List.mem_cons_self y (List.mem_cons_of_mem _ hy)]
theorem count_one {p : Nat → Bool} {c : Nat} : ∀ {l : List Nat}, l.Nodup → (∀ y ∈ l, p y = true → y = c) → l.countP p ≤ 1
  | [], _, _ => Nat.zero_le _
  | y :: r, hn, h => by
    have n := List.nodup_cons.mp hn
    rw [List.countP_cons]
    by_cases z : p y = true
    · have ey := h y List.mem_cons_self z
      have : r.countP p = 0 := by
        rw [List.countP_eq_zero]
        intro x hx px
        have := h x (List.mem_cons_of_mem _ hx) px
        exact n.1 (by rw [ey, ← this]; exact hx)
      rw [this, if_pos z]
      omega
    · rw [if_neg z]
      have := count_one n.2 fun x hx => h x (List.mem_cons_of_mem _ hx)
      omega
theorem split_perm (p : Nat → Bool) : ∀ l : List Nat, (l.filter p ++ l.filter fun x => !p x).Perm l
  | [] => .nil
  | x :: r => by
    by_cases h : p x = true
    · rw [List.filter_cons_of_pos h, List.filter_cons_of_neg (by simpa using h)]
      exact (split_perm p r).cons x
    · rw [List.filter_cons_of_neg h, List.filter_cons_of_pos (by simpa using h)]
      exact List.perm_middle.trans ((split_perm p r).cons x)
/-- no words have more pairs -/
theorem most : ∀ (B : Nat) (S : List Nat), S.Nodup → (∀ x ∈ S, x < 2 ^ B) → prs S ≤ E S.length
  | 0, [], _, _ => Nat.le_refl _
  | 0, [x], _, _ => Nat.zero_le _
  | 0, x :: y :: r, hn, h => by
    have h1 := h x List.mem_cons_self
    have h2 := h y (List.mem_cons_of_mem _ List.mem_cons_self)
    rw [Nat.pow_zero] at h1 h2
    have := (List.nodup_cons.mp hn).1
    exact absurd (show x ∈ y :: r by rw [show x = y by omega]; exact List.mem_cons_self) this
  | B + 1, S, hn, h => by
    have perm := split_perm (fun x => decide (x < 2 ^ B)) S
    obtain ⟨S0, e0⟩ : ∃ S0, S0 = S.filter fun x => decide (x < 2 ^ B) := ⟨_, rfl⟩
    obtain ⟨S1, e1⟩ : ∃ S1, S1 = S.filter fun x => !decide (x < 2 ^ B) := ⟨_, rfl⟩
    rw [← e0, ← e1] at perm
    have b0 : ∀ x ∈ S0, x < 2 ^ B := fun x hx => by
      rw [e0, List.mem_filter] at hx
      exact of_decide_eq_true hx.2
    have b1 : ∀ x ∈ S1, 2 ^ B ≤ x ∧ x - 2 ^ B < 2 ^ B := fun x hx => by
      rw [e1, List.mem_filter] at hx
      have c := h x hx.1
      rw [Nat.pow_succ] at c
      have d : ¬ x < 2 ^ B := by simpa using hx.2
      omega
    have n0 : S0.Nodup := by rw [e0]; exact hn.filter _
    have n1 : S1.Nodup := by rw [e1]; exact hn.filter _
    have len : S0.length + S1.length = S.length := by rw [← perm.length_eq, List.length_append]
    have i0 := most B S0 n0 b0
    have i1 : prs S1 ≤ E S1.length := by
      have g := most B (S1.map fun x => x - 2 ^ B) ?_ ?_
      · rw [List.length_map, prs_map S1 fun x hx y hy => ?_] at g
        · exact g
        · have a := b1 x hx
          have b := b1 y hy
          have := near_up a.2 b.2
          rw [Nat.sub_add_cancel a.1, Nat.sub_add_cancel b.1] at this
          exact this.symm
      · rw [List.nodup_iff_pairwise_ne, List.pairwise_map]
        refine List.Pairwise.imp_of_mem ?_ (List.nodup_iff_pairwise_ne.mp n1)
        intro x y hx hy ne e
        have a := b1 x hx
        have b := b1 y hy
        exact ne (by omega)
      · intro x hx
        obtain ⟨y, hy, rfl⟩ := List.mem_map.mp hx
        exact (b1 y hy).2
    have c0 : crs S0 S1 ≤ S0.length := crs_le fun x hx => count_one (c := x + 2 ^ B) n1 fun y hy p => by
      have a := b1 y hy
      have e := near_over (b0 x hx) a.2 (by rw [Nat.sub_add_cancel a.1]; exact p)
      omega
    have c1 : crs S0 S1 ≤ S1.length := by
      rw [crs_comm]
      refine crs_le fun x hx => count_one (c := x - 2 ^ B) n0 fun y hy p => ?_
      have a := b1 x hx
      rw [near_comm] at p
      exact near_over (b0 y hy) a.2 (by rw [Nat.sub_add_cancel a.1]; exact p)
    rw [← prs_perm perm, prs_app, ← len]
    by_cases c : S1.length ≤ S0.length
    · have := E_add _ S0.length S1.length rfl c
      omega
    · have := E_add _ S1.length S0.length rfl (by omega)
      rw [Nat.add_comm S0.length]
      omega
end M05
namespace M05
open M04
theorem pc_up : ∀ (k n : Nat), n.testBit k = false → pc (n + 2 ^ k) = pc n + 1
  | 0, n, h => by
    have e : n % 2 = 0 := by
      have := Nat.testBit_zero n
      rw [h] at this
      have := of_decide_eq_false this.symm
      omega
    rw [Nat.pow_zero, show n + 1 = 2 * (n / 2) + 1 by omega, pc_odd]
    have := pc_half n
    omega
  | k + 1, n, h => by
    have h2 : (n / 2).testBit k = false := by rw [← h, Nat.testBit_succ]
    have e1 := pc_half (n + 2 ^ (k + 1))
    have e2 := pc_half n
    have e3 := pc_up k (n / 2) h2
    rw [Nat.pow_succ] at *
    rw [show (n + 2 ^ k * 2) % 2 = n % 2 by omega, show (n + 2 ^ k * 2) / 2 = n / 2 + 2 ^ k by omega] at e1
    omega
/-- a flip changes the ones by one -/
theorem pc_near {x y : Nat} (h : near x y = true) : pc y = pc x + 1 ∨ pc x = pc y + 1 := by
  obtain ⟨k, hk⟩ := near_iff.mp h
  have e : y = x ^^^ 2 ^ k := by
    rw [← hk, ← Nat.xor_assoc, Nat.xor_self, Nat.zero_xor]
  have f := M07.xor_pow (x := x) (k := k)
  by_cases b : x.testBit k = true
  · rw [if_pos b] at f
    have le := Nat.ge_two_pow_of_testBit b
    have b2 : y.testBit k = false := by rw [e, Nat.testBit_xor, b, Nat.testBit_two_pow_self]; rfl
    have := pc_up k y b2
    rw [e, f, Nat.sub_add_cancel le] at this
    rw [e, f]
    exact .inr this
  · have b : x.testBit k = false := by simpa using b
    rw [if_neg (by rw [b]; simp)] at f
    rw [e, f]
    exact .inl (pc_up k x b)
theorem near_self (x : Nat) : near x x = false := by
  cases h : near x x with
  | false => rfl
  | true =>
    rcases pc_near h with e | e <;> omega
/-- how many words below are neighbours -/
theorem low_near : ∀ (B n : Nat), n < 2 ^ B → (List.range n).countP (near n) = pc n
  | 0, n, h => by
    rw [show n = 0 by rw [Nat.pow_zero] at h; omega]
    rfl
  | B + 1, n, h => by
    by_cases c : n < 2 ^ B
    · exact low_near B n c
    · obtain ⟨m, rfl⟩ : ∃ m, n = 2 ^ B + m := ⟨n - 2 ^ B, by omega⟩
      have hm : m < 2 ^ B := by
        rw [Nat.pow_succ] at h
        omega
      rw [List.range_add, List.countP_append, List.countP_map]
      have e1 : (List.range (2 ^ B)).countP (near (2 ^ B + m)) = 1 := by
        have le : (List.range (2 ^ B)).countP (near (2 ^ B + m)) ≤ 1 := count_one (c := m) List.nodup_range fun y hy p => by
          rw [near_comm, Nat.add_comm] at p
          exact near_over (List.mem_range.mp hy) hm p
        have ge : 0 < (List.range (2 ^ B)).countP (near (2 ^ B + m)) := by
          rw [List.countP_pos_iff]
          refine ⟨m, List.mem_range.mpr hm, near_iff.mpr ⟨B, ?_⟩⟩
          rw [Nat.add_comm, up_xor hm, Nat.xor_comm m, Nat.xor_assoc, Nat.xor_self, Nat.xor_zero]
        omega
      have e2 : (List.range m).countP (near (2 ^ B + m) ∘ fun x => 2 ^ B + x) = (List.range m).countP (near m) := by
        refine List.countP_congr fun y hy => ?_
        show near (2 ^ B + m) (2 ^ B + y) = true ↔ _
        rw [Nat.add_comm, Nat.add_comm (2 ^ B) y, near_up hm (Nat.lt_trans (List.mem_range.mp hy) hm)]
      rw [e1, e2, low_near B m hm, Nat.add_comm (2 ^ B) m, pc_up B m (Nat.testBit_lt_two_pow hm)]
      omega
theorem prs_range : ∀ n, prs (List.range n) = E n
  | 0 => rfl
  | n + 1 => by
    have p : (List.range (n + 1)).Perm (n :: List.range n) := by
      rw [List.range_succ]
      exact List.perm_append_comm
    rw [prs_perm p, E_succ, ← prs_range n, ← low_near n n Nat.lt_two_pow_self]
    show _ + _ = _ + _
    omega
/-- neighbours with one more -/
def up (x y : Nat) : Bool := near x y && decide (pc y = pc x + 1)
def sumN (f : Nat → Nat) : List Nat → Nat
  | [] => 0
  | x :: r => f x + sumN f r
theorem sumN_add (f g : Nat → Nat) : ∀ l, sumN (fun x => f x + g x) l = sumN f l + sumN g l
  | [] => rfl
  | x :: r => by
    show f x + g x + sumN (fun x => f x + g x) r = f x + sumN f r + (g x + sumN g r)
    rw [sumN_add f g r]
    omega
theorem sumN_congr {f g : Nat → Nat} : ∀ {l : List Nat}, (∀ x ∈ l, f x = g x) → sumN f l = sumN g l
  | [], _ => rfl
  | x :: r, h => by
    show f x + sumN f r = g x + sumN g r
    rw [h x List.mem_cons_self, sumN_congr fun y hy => h y (List.mem_cons_of_mem _ hy)]
theorem sumN_app (f : Nat → Nat) : ∀ a b, sumN f (a ++ b) = sumN f a + sumN f b
  | [], b => (Nat.zero_add _).symm
  | x :: r, b => by
    show f x + sumN f (r ++ b) = f x + sumN f r + sumN f b
    rw [sumN_app f r b]
    omega
theorem sumN_bool (p : Nat → Bool) : ∀ l, sumN (fun x => if p x = true then 1 else 0) l = l.countP p
  | [] => rfl
  | x :: r => by
    show (if p x = true then 1 else 0) + _ = _
    rw [sumN_bool p r, List.countP_cons]
    omega
theorem near_split (x : Nat) : ∀ l : List Nat, l.countP (near x) = l.countP (up x) + l.countP fun z => up z x
  | [] => rfl
  | y :: r => by
    rw [List.countP_cons, List.countP_cons, List.countP_cons, near_split x r]
    have e : (if near x y = true then 1 else 0) = (if up x y = true then 1 else 0) + if up y x = true then 1 else 0 := by
      unfold up
      rw [near_comm y x]
      cases h : near x y with
      | false => rfl
      | true =>
        rcases pc_near h with e | e
        · rw [decide_eq_true e, decide_eq_false (show ¬ pc x = pc y + 1 by omega)]
          rfl
        · rw [decide_eq_true e, decide_eq_false (show ¬ pc y = pc x + 1 by omega)]
          rfl
    omega
/-- each pair told once, from the one with fewer ones -/
theorem prs_up : ∀ l, prs l = sumN (fun x => l.countP (up x)) l
  | [] => rfl
  | x :: r => by
    show r.countP (near x) + prs r = (x :: r).countP (up x) + sumN (fun z => (x :: r).countP (up z)) r
    have e1 : (x :: r).countP (up x) = r.countP (up x) := by
      rw [List.countP_cons, if_neg]
      · rfl
      · unfold up
        rw [near_self]
        simp
    have e2 : sumN (fun z => (x :: r).countP (up z)) r = sumN (fun z => r.countP (up z)) r + r.countP fun z => up z x := by
      rw [← sumN_bool, ← sumN_add]
      exact sumN_congr fun z _ => List.countP_cons ..
    rw [e1, e2, prs_up r, near_split]
    omega
/-- lots by their ones, gone through by unlike numbers of ones that all words have -/
theorem sum_lots (f : Nat → Nat) : ∀ (ks l : List Nat), ks.Nodup → (∀ x ∈ l, pc x ∈ ks) → sumN (fun k => sumN f (l.filter fun x => decide (pc x = k))) ks = sumN f l
  | ks, [], h1, h2 => by
    clear h1 h2
    induction ks with
    | nil => rfl
    | cons k r ih => exact (Nat.zero_add _).trans ih
  | ks, x :: l, hn, h => by
    rw [← show sumN (fun k => (if pc x = k then f x else 0) + sumN f (l.filter fun x => decide (pc x = k))) ks = sumN (fun k => sumN f ((x :: l).filter fun x => decide (pc x = k))) ks from sumN_congr fun k _ => by
      by_cases c : pc x = k
      · rw [if_pos c, List.filter_cons_of_pos (by simpa using c)]
        rfl
      · rw [if_neg c, List.filter_cons_of_neg (by simpa using c), Nat.zero_add]]
    rw [sumN_add, sum_lots f ks l hn fun y hy => h y (List.mem_cons_of_mem _ hy)]
    have one : ∀ {ks : List Nat}, ks.Nodup → pc x ∈ ks → sumN (fun k => if pc x = k then f x else 0) ks = f x := by
      intro ks hn hx
      have z : ∀ {js : List Nat}, pc x ∉ js → sumN (fun k => if pc x = k then f x else 0) js = 0 := by
        intro js
        induction js with
        | nil => exact fun _ => rfl
        | cons k r ih =>
          intro hj
          show (if pc x = k then f x else 0) + _ = 0
          rw [if_neg (fun e : pc x = k => hj (by rw [e]; exact List.mem_cons_self)), ih fun e => hj (List.mem_cons_of_mem _ e)]
      induction ks with
      | nil => exact absurd hx List.not_mem_nil
      | cons k r ih =>
        have nn := List.nodup_cons.mp hn
        show (if pc x = k then f x else 0) + _ = f x
        by_cases c : pc x = k
        · rw [if_pos c, z (by rw [c]; exact nn.1)]
          rfl
        · rw [if_neg c, ih nn.2 ((List.mem_cons.mp hx).resolve_left c)]
          omega
    rw [one hn (h x List.mem_cons_self)]
    rfl
/-- what the program counts -/
theorem lots_prs {ks l : List Nat} (hn : ks.Nodup) (h : ∀ x ∈ l, pc x ∈ ks) :
    sumN (fun k => sumN (fun x => (l.filter fun y => decide (pc y = k + 1)).countP (near x)) (l.filter fun x => decide (pc x = k))) ks = prs l := by
  rw [prs_up, ← sum_lots (fun x => l.countP (up x)) ks l hn h]
  refine sumN_congr fun k _ => sumN_congr fun x hx => ?_
  have ex : pc x = k := of_decide_eq_true (List.mem_filter.mp hx).2
  rw [List.countP_filter]
  refine List.countP_congr fun y _ => ?_
  unfold up
  rw [ex]
end M05
namespace M05
open M04
/-- the bits of a number, put elsewhere -/
def G : List Nat → Nat → Nat
  | [], _ => 0
  | s :: r, n => (if n % 2 = 1 then 2 ^ s else 0) ^^^ G r (n / 2)
theorem half_xor (a b : Nat) : (a ^^^ b) / 2 = a / 2 ^^^ b / 2 := by
  apply Nat.eq_of_testBit_eq
  intro i
  rw [Nat.testBit_xor, ← Nat.testBit_succ, ← Nat.testBit_succ, ← Nat.testBit_succ, Nat.testBit_xor]
theorem odd_xor (a b : Nat) : ((a ^^^ b) % 2 = 1) ↔ ((a % 2 = 1) ↔ ¬ b % 2 = 1) := by
  have h := Nat.testBit_xor a b 0
  rw [Nat.testBit_zero, Nat.testBit_zero, Nat.testBit_zero] at h
  by_cases x : a % 2 = 1 <;> by_cases y : b % 2 = 1 <;> simp [x, y] at h ⊢ <;> omega
theorem G_xor : ∀ (sp : List Nat) (a b : Nat), G sp (a ^^^ b) = G sp a ^^^ G sp b
  | [], _, _ => by
    show 0 = 0 ^^^ 0
    rw [Nat.xor_self]
  | s :: r, a, b => by
    show (if (a ^^^ b) % 2 = 1 then 2 ^ s else 0) ^^^ G r ((a ^^^ b) / 2) = ((if a % 2 = 1 then 2 ^ s else 0) ^^^ G r (a / 2)) ^^^ ((if b % 2 = 1 then 2 ^ s else 0) ^^^ G r (b / 2))
    rw [half_xor, G_xor r]
    have e : (if (a ^^^ b) % 2 = 1 then 2 ^ s else 0) = (if a % 2 = 1 then 2 ^ s else 0) ^^^ (if b % 2 = 1 then 2 ^ s else 0) := by
      have o := odd_xor a b
      by_cases x : a % 2 = 1 <;> by_cases y : b % 2 = 1
      · rw [if_neg (fun z => (o.mp z).mp x y), if_pos x, if_pos y, Nat.xor_self]
      · rw [if_pos (o.mpr ⟨fun _ => y, fun _ => x⟩), if_pos x, if_neg y, Nat.xor_zero]
      · rw [if_pos (o.mpr ⟨fun z => absurd z x, fun z => absurd y z⟩), if_neg x, if_pos y, Nat.zero_xor]
      · rw [if_neg (fun z => x ((o.mp z).mpr y)), if_neg x, if_neg y, Nat.xor_zero]
    rw [e]
    generalize (if a % 2 = 1 then 2 ^ s else 0) = A
    generalize (if b % 2 = 1 then 2 ^ s else 0) = B
    generalize G r (a / 2) = C
    generalize G r (b / 2) = D
    rw [Nat.xor_assoc, ← Nat.xor_assoc B, Nat.xor_comm B C, Nat.xor_assoc C, ← Nat.xor_assoc A C]
theorem G_bit : ∀ (sp : List Nat) (v k : Nat), (G sp v).testBit k = true → k ∈ sp
  | [], v, k, h => by
    rw [show G [] v = 0 from rfl, Nat.zero_testBit] at h
    cases h
  | s :: r, v, k, h => by
    rw [show G (s :: r) v = (if v % 2 = 1 then 2 ^ s else 0) ^^^ G r (v / 2) from rfl, Nat.testBit_xor] at h
    cases g : (G r (v / 2)).testBit k with
    | true => exact List.mem_cons_of_mem _ (G_bit r _ k g)
    | false =>
      rw [g, Bool.xor_false] at h
      by_cases c : v % 2 = 1
      · rw [if_pos c, Nat.testBit_two_pow] at h
        rw [← of_decide_eq_true h]
        exact List.mem_cons_self
      · rw [if_neg c, Nat.zero_testBit] at h
        cases h
theorem G_pow : ∀ (sp : List Nat) (v : Nat), sp.Nodup → v < 2 ^ sp.length → (G sp v = 0 ↔ v = 0) ∧ ((∃ k, G sp v = 2 ^ k) ↔ ∃ t, v = 2 ^ t)
  | [], v, _, h => by
    have e : v = 0 := by
      rw [List.length_nil, Nat.pow_zero] at h
      omega
    subst e
    refine ⟨⟨fun _ => rfl, fun _ => rfl⟩, ⟨fun ⟨k, z⟩ => ?_, fun ⟨k, z⟩ => ?_⟩⟩
    · have := two_pos k
      have z : 0 = 2 ^ k := z
      omega
    · have := two_pos k
      omega
  | s :: r, v, hn, h => by
    have n := List.nodup_cons.mp hn
    rw [List.length_cons, Nat.pow_succ] at h
    obtain ⟨i0, i1⟩ := G_pow r (v / 2) n.2 (by omega)
    have eg : G (s :: r) v = (if v % 2 = 1 then 2 ^ s else 0) ^^^ G r (v / 2) := rfl
    by_cases c : v % 2 = 1
    · rw [if_pos c] at eg
      have bs : (G r (v / 2)).testBit s = false := by
        cases g : (G r (v / 2)).testBit s with
        | false => rfl
        | true => exact absurd (G_bit r _ s g) n.1
      have set : (G (s :: r) v).testBit s = true := by
        rw [eg, Nat.testBit_xor, bs, Nat.testBit_two_pow_self]
        rfl
      have half0 : v / 2 = 0 ↔ v = 1 := by omega
      refine ⟨⟨fun z => ?_, fun z => by omega⟩, ⟨fun ⟨k, z⟩ => ?_, fun ⟨t, z⟩ => ?_⟩⟩
      · rw [z, Nat.zero_testBit] at set
        cases set
      · rw [z, Nat.testBit_two_pow] at set
        have ek := of_decide_eq_true set
        subst ek
        rw [eg] at z
        have z0 : G r (v / 2) = 0 := by
          have := congrArg (fun w => 2 ^ k ^^^ w) z
          simp only [← Nat.xor_assoc, Nat.xor_self, Nat.zero_xor] at this
          exact this
        exact ⟨0, by rw [Nat.pow_zero]; exact half0.mp (i0.mp z0)⟩
      · have t0 : t = 0 := by
          by_cases q : t = 0
          · exact q
          · obtain ⟨u, rfl⟩ : ∃ u, t = u + 1 := ⟨t - 1, by omega⟩
            rw [Nat.pow_succ] at z
            omega
        subst t0
        rw [Nat.pow_zero] at z
        refine ⟨s, ?_⟩
        rw [eg, i0.mpr (half0.mpr z), Nat.xor_zero]
    · rw [if_neg c, Nat.zero_xor] at eg
      rw [eg]
      refine ⟨⟨fun z => by have := i0.mp z; omega, fun z => i0.mpr (by omega)⟩, i1.trans ⟨fun ⟨t, z⟩ => ⟨t + 1, by rw [Nat.pow_succ]; omega⟩, fun ⟨t, z⟩ => ?_⟩⟩
      by_cases q : t = 0
      · subst q
        rw [Nat.pow_zero] at z
        omega
      · obtain ⟨u, rfl⟩ : ∃ u, t = u + 1 := ⟨t - 1, by omega⟩
        rw [Nat.pow_succ] at z
        exact ⟨u, by omega⟩
/-- words below a number, in other bits, turned about: as many pairs -/
theorem prs_G {sp : List Nat} (mask n : Nat) (hn : sp.Nodup) (h : n ≤ 2 ^ sp.length) : prs ((List.range n).map fun i => mask ^^^ G sp i) = E n := by
  rw [prs_map, prs_range]
  intro x hx y hy
  have lx := List.mem_range.mp hx
  have ly := List.mem_range.mp hy
  have lt : x ^^^ y < 2 ^ sp.length := Nat.xor_lt_two_pow (by omega) (by omega)
  have e : (mask ^^^ G sp x) ^^^ (mask ^^^ G sp y) = G sp (x ^^^ y) := by
    rw [G_xor, Nat.xor_comm mask, Nat.xor_assoc, ← Nat.xor_assoc mask, Nat.xor_self, Nat.zero_xor]
  rw [Bool.eq_iff_iff, near_iff, near_iff, e]
  exact (G_pow sp _ hn lt).2
end M05
namespace K05
open PySem PySem.Spec PyProof.Rows L2 OB SkE
def top (i : Nat) : Stmt := PySem.Challenge.pw_oneflip_k05_whole_no_words_have_more_pai.main.body.getD i (.Pass ⟨0, 0, 0, 0⟩)
abbrev s_initN : Stmt := inClass (top 2) 0
abbrev s_initW : Stmt := inClass (top 3) 0
abbrev s_initM : Stmt := inClass (top 4) 0
abbrev s_is_integer : Stmt := top 6
abbrev s_is_within : Stmt := top 7
abbrev s_is_list : Stmt := top 8
abbrev s_are_unlike : Stmt := top 9
abbrev s_need_number : Stmt := top 10
abbrev s__bits_of : Stmt := top 13
abbrev s_ones_in : Stmt := top 14
abbrev s_most_pairs : Stmt := top 15
abbrev s_pairs_among : Stmt := top 16
abbrev s__need_words : Stmt := top 17
abbrev s__pairs_of : Stmt := top 18
abbrev s__is_one_bit : Stmt := top 19
abbrev s__law_hive : Stmt := top 21
abbrev s__law_sting : Stmt := top 22
abbrev s__law_one : Stmt := top 23
abbrev s__law_mixed : Stmt := top 24
abbrev s__law_some : Stmt := top 25
abbrev s__law_is_near : Stmt := top 26
abbrev s__law_pairs : Stmt := top 27
abbrev s__law_below : Stmt := top 28
abbrev s__law_counted_right : Stmt := top 29
abbrev s__law_full_right : Stmt := top 30
abbrev s__law_is_refused : Stmt := top 31
abbrev s__law_refused_right : Stmt := top 32
abbrev s_law : Stmt := top 33
/-- the built-in names that the module leaves as they are -/
structure Blt (mg : Str → Option Value) : Prop where
  g_MOST_WORDS : ∃ t, mg "MOST_WORDS" = some (.int 1024 t)
  n_isinstance : mg "isinstance" = none
  n_int : mg "int" = none
  n_bool : mg "bool" = none
  n_len : mg "len" = none
  n_abs : mg "abs" = none
  n_range : mg "range" = none
  n_list : mg "list" = none
  n_tuple : mg "tuple" = none
  n_enumerate : mg "enumerate" = none
  n_all : mg "all" = none
  n_set : mg "set" = none
  n_repr : mg "repr" = none
  n_reversed : mg "reversed" = none
section
variable {P : Program} {w : World} {K : PySem.W.Frag} {mg : Str → Option Value} {base : Heap}
/-! ### checks -/
theorem sc_is_integer : FnScope ["value"] ["value"] (defScope s_is_integer) := ⟨rfl, rfl, rfl, by decide +kernel, rfl, by decide +kernel, by decide +kernel⟩
theorem ok_is_integer {f : Addr} {fd : FuncData} (F : Fun K "is_integer" "is_integer" s_is_integer f fd) (T : Blt mg) : FnOk P w K mg base CX0 1 f fd ["value"] (spIsInt K) := by
  refine F.ok sc_is_integer (fun vs H Q E h => ?_) (fun cdv A outer s H vs Q E hr h => ?_)
  · obtain ⟨x, b, rfl, _⟩ := h
    rfl
  · obtain ⟨x, b, rfl, ⟨n, b1, b2, ty, e1, e2, e3⟩, k⟩ := h
    refine ⟨_, (pss_one (ps_ret (pe_and (pe_callB call_isi (by rfl) T.n_isinstance (by decide +kernel) (pa_cons (pv 0) (pa_cons (pe_bltn (v := .ty "int") (by rfl) T.n_int (by decide +kernel) rfl) pa_nil))) (pe_one (pe_not (pe_callB call_isi (by rfl) T.n_isinstance (by decide +kernel) (pa_cons (pv 0) (pa_cons (pe_bltn (v := .ty "bool") (by rfl) T.n_bool (by decide +kernel) rfl) pa_nil)))))))), ?_⟩
    refine ⟨x, rfl, x, .ty "int", .type n, .type "int", b1, rfl, .ty _, ty, kit_ty e1, b1, rfl, ?_⟩
    refine iteB (fun c => ?_) (fun c => ?_)
    · refine ⟨x, rfl, x, .ty "bool", .type n, .type "bool", b2, rfl, .ty _, ty, kit_ty e2, b2, rfl, ?_⟩
      rw [c] at e3
      rw [show (!b2) = b by rw [e3, Bool.true_and]]
      exact k
    · rw [c] at e3
      rw [show false = b by rw [e3, Bool.false_and]]
      exact k
theorem sc_is_within : FnScope ["value", "least", "most"] ["value", "least", "most"] (defScope s_is_within) := ⟨rfl, rfl, rfl, by decide +kernel, rfl, by decide +kernel, by decide +kernel⟩
theorem within_end {lo hi : Option Int} {x : V} {b : Bool} {Q : VK} {H : Hp} (hI : IsI K H x b) (k : Q (.bl (b && inB lo hi x)) H) (hb : b = true) : ∃ i, x = .int i ∧ Q (.bl (loOk lo i && hiOk hi i)) H := by
  subst hb
  obtain ⟨i, rfl⟩ := isI_true hI
  exact ⟨i, rfl, k⟩
theorem ok_is_within {f f1 : Addr} {fd fd1 : FuncData} (F : Fun K "is_within" "is_within" s_is_within f fd) (D_is_integer : Df K mg "is_integer" s_is_integer ["value"] f1 fd1) (T : Blt mg) : FnOk P w K mg base CX0 2 f fd ["value", "least", "most"] (spWithin K) := by
  have G_is_integer : FnOk P w K mg base CX0 1 f1 fd1 ["value"] (spIsInt K) := ok_is_integer D_is_integer.F T
  refine F.ok sc_is_within (fun vs H Q E h => ?_) (fun cdv A outer s H vs Q E hr h => ?_)
  · obtain ⟨x, lo, hi, b, rfl, _⟩ := h
    rfl
  · obtain ⟨x, lo, hi, b, rfl, hI, k⟩ := h
    refine ⟨_, (pss_cons (ps_if (pt_not (pt_val (pe_call G_is_integer (hr.mono (by decide)) (by rfl) D_is_integer.g D_is_integer.F.kp D_is_integer.b .nil pass0 (pa_cons (pv 0) pa_nil)))) (pss_one (ps_ret pe_bl)) pss_nil)
  (pss_one (ps_ret (pe_and (pe_or (pe_cmpR op_isN (pv 1) pe_non (nomark _)) (pe_one (pe_cmpR op_le (pv 1) (pv 0) (nomark _)))) (pe_one (pe_or (pe_cmpR op_isN (pv 2) pe_non (nomark _)) (pe_one (pe_cmpR op_le (pv 0) (pv 2) (nomark _))))))))), ?_⟩
    refine ⟨x, rfl, x, b, rfl, hI, b, rfl, ?_⟩
    cases b with
    | false => exact iteT k
    | true =>
      obtain ⟨i, rfl, k'⟩ := within_end hI k rfl
      clear k
      have k := k'
      clear k'
      refine iteF ?_
      refine ⟨_, rfl, rfl, _, rfl, ?_⟩
      cases lo with
      | none =>
        refine iteT ?_
        refine ⟨_, rfl, iteT ?_⟩
        refine ⟨_, rfl, rfl, _, rfl, ?_⟩
        cases hi with
        | none => exact iteT k
        | some h => exact iteF ⟨_, rfl, _, rfl, _, _, rfl, rfl, k⟩
      | some l =>
        refine iteF ?_
        refine ⟨_, rfl, _, rfl, _, _, rfl, rfl, _, rfl, ?_⟩
        refine iteB (fun c => ?_) (fun c => ?_)
        · refine ⟨_, rfl, rfl, _, rfl, ?_⟩
          have e : loOk (some l) i = true := c
          rw [e, Bool.true_and] at k
          cases hi with
          | none => exact iteT k
          | some h => exact iteF ⟨_, rfl, _, rfl, _, _, rfl, rfl, k⟩
        · have e : loOk (some l) i = false := c
          rw [e, Bool.false_and] at k
          exact k
/-! ### what raises -/
theorem sc_need_number : FnScope ["value", "part", "least", "most"] ["value", "part", "least", "most"] (defScope s_need_number) := ⟨rfl, rfl, rfl, by decide +kernel, rfl, by decide +kernel, by decide +kernel⟩
theorem ok_need_number {f f1 f2 C fI : Addr} {fd fd1 fd2 fdI : FuncData} (F : Fun K "need_number" "need_number" s_need_number f fd) (D_is_within : Df K mg "is_within" s_is_within ["value", "least", "most"] f2 fd2) (D_is_integer : Df K mg "is_integer" s_is_integer ["value"] f1 fd1) (T : Blt mg)
    (R_BadNumber : Err P w K mg base "BadNumber" "part" C fI fdI) : FnOk P w K mg base (L2.CX P w) 4 f fd ["value", "part", "least", "most"] (spNeedNumber K C) := by
  have G_is_within : FnOk P w K mg base CX0 2 f2 fd2 ["value", "least", "most"] (spWithin K) := ok_is_within D_is_within.F D_is_integer T
  refine F.okX sc_need_number (fun vs H Q E h => ?_) (fun cdv A outer s H vs Q E hr h => ?_)
  · obtain ⟨x, part, lo, hi, b, rfl, _⟩ := h
    rfl
  · obtain ⟨x, part, lo, hi, b, rfl, hI, k1, k2⟩ := h
    refine ⟨_, (pss_one (ps_if (pt_not (pt_val (pe_call G_is_within (hr.mono (by decide)) (by rfl) D_is_within.g D_is_within.F.kp D_is_within.b .nil pass0 (pa_cons (pv 0) (pa_cons (pv 2) (pa_cons (pv 3) pa_nil)))))) (pss_one (ps_raise1 rfl (takes_of rfl rfl rfl rfl) R_BadNumber (hr.mono (by decide)) (by rfl) (pv 1))) pss_nil)), ?_⟩
    refine ⟨x, rfl, _, rfl, _, rfl, x, lo, hi, b, rfl, hI, _, rfl, ?_⟩
    refine iteB (fun c => ?_) (fun c => ?_)
    · have c' : (b && inB lo hi x) = false := by
        cases e : (b && inB lo hi x) with
        | false => rfl
        | true => rw [e] at c; cases c
      refine ⟨.str part, rfl, ?_⟩
      refine raise1_of (W := fun cls d _ H => E cls d H) R_BadNumber.T R_BadNumber.no ?_
      exact fun d hd => k2 c' d hd
    · have c' : (b && inB lo hi x) = true := by
        cases e : (b && inB lo hi x) with
        | true => rfl
        | false => rw [e] at c; cases c
      exact k1 c'
end
end K05
namespace K05
open PySem PySem.Spec PyProof.Rows L2 OB SkE
theorem rev_bin (n : Nat) : (revT (binT n)).cps = (M04.R n).toArray := by
  show ((Nat.toDigits 2 n).map fun c => c.toNat).toArray.reverse = _
  unfold M04.R
  simp
theorem bin_len (n : Nat) : (binT n).length = (M04.R n).length := by
  show ((Nat.toDigits 2 n).map fun c => c.toNat).toArray.size = _
  unfold M04.R
  simp
theorem bin_list (n : Nat) : (binT n).cps.toList = (M04.R n).reverse := by
  show ((Nat.toDigits 2 n).map fun c => c.toNat).toArray.toList = _
  unfold M04.R
  simp
theorem cnt_countP (c : Nat) : ∀ l : List Nat, cnt c l = ((l.countP fun x => decide (x = c) : Nat) : Int)
  | [] => rfl
  | a :: r => by
    rw [cnt_cons, cnt_countP c r, List.countP_cons]
    by_cases h : a = c <;> simp [h] <;> omega
theorem bin_count (n : Nat) : Txt.count (binT n) (Str.ofString "1") = ((M04.pc n : Nat) : Int) := by
  rw [show Str.ofString "1" = ⟨#[49]⟩ from by decide +kernel, count_cnt, bin_list, cnt_countP, List.countP_reverse, M04.R_count]
theorem bin_small {n : Nat} (h : n < 2 ^ 1000) : (binT n).length ≤ sizeLine := by
  rw [bin_len]
  exact Nat.le_of_lt (small1000 (M04.R_len (by decide) h))
def bitsV (n : Nat) : List V := (M04.D n (M04.R n).length).reverse.map fun (b : Nat) => V.int (b : Int)
theorem bits_len (n : Nat) (h : n < 2 ^ 1000) : (bitsV n).length ≤ 1000 := by
  unfold bitsV
  rw [List.length_map, List.length_reverse]
  exact Nat.le_trans (M04.D_len n _) (M04.R_len (by decide) h)
/-- the bits of a number below so many, ascending -/
def bitsB (n c : Nat) : List V := (M04.D n c).reverse.map fun (b : Nat) => V.int (b : Int)
theorem bitsB_next (n c : Nat) : bitsB n (c + 1) = if n / 2 ^ c % 2 = 1 then bitsB n c ++ [V.int (c : Int)] else bitsB n c := by
  unfold bitsB
  show ((if n / 2 ^ c % 2 = 1 then c :: M04.D n c else M04.D n c).reverse.map fun (b : Nat) => V.int (b : Int)) = _
  by_cases h : n / 2 ^ c % 2 = 1
  · rw [if_pos h, if_pos h, List.reverse_cons, List.map_append]
    rfl
  · rw [if_neg h, if_neg h]
theorem bitsB_len (n c : Nat) : (bitsB n c).length ≤ c := by
  unfold bitsB
  rw [List.length_map, List.length_reverse]
  exact M04.D_len n c
def spBits : Sp := fun vs H Q _ => ∃ n : Nat, vs = [.int (n : Int)] ∧ n < 2 ^ 1000 ∧ ∀ (q : Addr) (H' : Hp), Same H H' → H' q = some (.tup (bitsV n)) → Q (.ref q) H'
/-- how many bits are 1, how many pairs of neighbours the words below have; what is no number is refused -/
def spOnes (K : PySem.W.Frag) (C : Addr) : Sp := fun vs H Q E => ∃ (x : V) (b : Bool), vs = [x] ∧ IsI K H x b ∧
  ((b && inB (some 0) none x) = true → ∃ n : Nat, x = .int n ∧ n < 2 ^ 1000 ∧ Q (.int (M04.pc n)) H) ∧ ((b && inB (some 0) none x) = false → RaisesP C "number" E H)
def spPairs (K : PySem.W.Frag) (C : Addr) : Sp := fun vs H Q E => ∃ (x : V) (b : Bool), vs = [x] ∧ IsI K H x b ∧
  ((b && inB (some 0) none x) = true → ∃ n : Nat, x = .int n ∧ n < 2 ^ 1000 ∧ ∀ H', Same H H' → Q (.int (M04.E n)) H') ∧ ((b && inB (some 0) none x) = false → RaisesP C "many" E H)
/-- a << k -/
theorem op_shlNN {X : Cx} : OpR X (binaryOp .LShift) (fun x y H Q => ∃ a k : Nat, x = .int (a : Int) ∧ y = .int (k : Int) ∧ a < 2 ^ 1000 ∧ k ≤ 1000 ∧ Q (.int ((a * 2 ^ k : Nat) : Int)) H) := by
  intro pins s σ H x y v u Q I rx ry h
  obtain ⟨a, k, rfl, rfl, h1, h2, q⟩ := h
  refine op_shlN pins s σ H _ _ v u Q I rx ry ⟨_, _, rfl, rfl, ⟨Int.natCast_nonneg _, ?_⟩, ?_⟩
  · have e : Builtin.Int.intBits (a : Int) ≤ 1000 := by
      unfold Builtin.Int.intBits
      by_cases z : a = 0
      · subst z
        decide
      · rw [if_neg (by simpa using z), Int.natAbs_natCast]
        have := (Nat.log2_lt z).mpr h1
        omega
    omega
  · have e : ((a * 2 ^ k : Nat) : Int) = (a : Int) * 2 ^ k := by
      rw [Int.natCast_mul, Int.natCast_pow]
      rfl
    rw [← e]
    exact q
section
variable {P : Program} {w : World} {K : PySem.W.Frag} {mg : Str → Option Value} {base : Heap}
theorem sc__bits_of : FnScope ["word", "signs", "bit", "sign"] ["word"] (defScope s__bits_of) := ⟨rfl, rfl, rfl, by decide +kernel, rfl, by decide +kernel, by decide +kernel⟩
abbrev N__bits_of : List Str := ["word", "signs", "bit", "sign"]
theorem ok__bits_of {f : Addr} {fd : FuncData} (F : Fun K "_bits_of" "_bits_of" s__bits_of f fd) (T : Blt mg) : FnOk P w K mg base CX0 1 f fd ["word"] spBits := by
  refine F.ok sc__bits_of (fun vs H Q E h => ?_) (fun cdv A outer s H vs Q E hr h => ?_)
  · obtain ⟨n, rfl, _⟩ := h
    rfl
  · obtain ⟨n, rfl, hn, k⟩ := h
    refine ⟨_, (pss_cons (ps_set (i := 1) sc__bits_of.nd rfl (Or.inl rfl) (pe_revS (pe_fmtB (pv 0))))
  (pss_one (ps_ret (pe_callTy call_tuple_of (by rfl) T.n_tuple (by decide +kernel) (pa_cons (pe_lc (own := [("bit", 2), ("sign", 3)]) (g := (gTup K 2 (gCons (gName 2) (gCons (gName 3) gNil)))) rfl sc__bits_of.nd (pi_enumS (by rfl) T.n_enumerate (pa_cons (pv 1) pa_nil)) (blkOk_by (N := N__bits_of) (own := [("bit", 2), ("sign", 3)]) (sc := defScope s__bits_of) (by decide +kernel)) (fun _ _ _ _ _ => (pg_tup (by rfl) (pgs_cons (pg_name (i := 2) sc__bits_of.nd rfl (Or.inl rfl)) (pgs_cons (pg_name (i := 3) sc__bits_of.nd rfl (Or.inl rfl)) pgs_nil)))) (fun _ _ _ _ _ => (pts_one (pt_cmpR op_eq (pv 3) pe_str (nomark _)))) (fun _ _ _ _ _ => (pv 2))) pa_nil))))), ?_⟩
    have hs := bin_small hn
    refine ⟨_, rfl, n, rfl, hs, _, rfl, hs, ?_⟩
    refine ⟨_, rfl, _, rfl, fun D hD => ?_⟩
    have hL : (M04.R n).length ≤ 1000 := M04.R_len (by decide) hn
    have hsz : (revT (binT n)).cps.size = (M04.R n).length := by rw [rev_bin, List.size_toArray]
    refine lc_it walk_enumS (fun i H' => Same H H' ∧ H' D = some (.lst (bitsB n i))) ⟨same_new hD, upd_same⟩ (fun _ _ _ _ => trivial) ?_ ?_
    · rintro i y H0 H1 hi ⟨S0, h0⟩ ⟨q, a, b, rfl, hq, rfl, ea, eb⟩
      have ea : V.int (i : Int) = a := Option.some.inj ea
      subst ea
      have hi2 : i < (M04.R n).length := by rw [← hsz]; exact hi
      have hsign : (revT (binT n)).cps[i]? = some (48 + n / 2 ^ i % 2) := by
        rw [rev_bin, List.getElem?_toArray]
        exact (M04.R_facts n).2 i hi2
      have eb : V.str ⟨#[48 + n / 2 ^ i % 2]⟩ = b := by
        have z : (revT (binT n)).cps[i]?.map (fun c => V.str ⟨#[c]⟩) = some b := eb
        rw [hsign] at z
        exact Option.some.inj z
      subst eb
      have ndq : D ≠ q := ne_of_none h0 hq
      refine ⟨q, _, rfl, SqT.of upd_same, rfl, _, _, rfl, _, _, rfl, rfl, rfl, ?_⟩
      refine ⟨_, rfl, rfl, _, rfl, ?_⟩
      have S1 : Same H (upd H0 q (.tup [V.int (i : Int), V.str ⟨#[48 + n / 2 ^ i % 2]⟩])) := S0.trans (same_new hq)
      have h1 : (upd H0 q (.tup [V.int (i : Int), V.str ⟨#[48 + n / 2 ^ i % 2]⟩])) D = some (.lst (bitsB n i)) := by
        rw [upd_ne ndq]
        exact h0
      have hb : decide (V.str ⟨#[48 + n / 2 ^ i % 2]⟩ = V.str (Str.ofString "1")) = decide (n / 2 ^ i % 2 = 1) := by
        have e : n / 2 ^ i % 2 = 0 ∨ n / 2 ^ i % 2 = 1 := by omega
        rcases e with z | z <;> rw [z] <;> decide +kernel
      rw [hb]
      refine iteB (fun c => ?_) (fun c => ?_)
      · have c := of_decide_eq_true c
        refine ⟨_, rfl, _, h1, small1000 (Nat.le_trans (bitsB_len n i) (by omega)), ?_, ?_⟩
        · intro p o e
          rw [upd_ne (ne_of_none e hD)]
          exact S1 p o e
        · rw [upd_same, bitsB_next, if_pos c]
      · have c := of_decide_eq_false c
        exact ⟨S1, by rw [bitsB_next, if_neg c]; exact h1⟩
    · rintro H' ⟨S, hl⟩
      rw [hsz] at hl
      refine ⟨D, _, rfl, .inl ⟨SqL.of hl, fun l hl2 => ?_⟩⟩
      exact k l _ (S.trans (same_new hl2)) upd_same
theorem sc_ones_in : FnScope ["number"] ["number"] (defScope s_ones_in) := ⟨rfl, rfl, rfl, by decide +kernel, rfl, by decide +kernel, by decide +kernel⟩
theorem ok_ones_in {f f3 C : Addr} {fd fd3 : FuncData} (F : Fun K "ones_in" "ones_in" s_ones_in f fd) (D_need_number : Df K mg "need_number" s_need_number ["value", "part", "least", "most"] f3 fd3)
    (G_need_number : FnOk P w K mg base (L2.CX P w) 4 f3 fd3 ["value", "part", "least", "most"] (spNeedNumber K C)) : FnOk P w K mg base (L2.CX P w) 5 f fd ["number"] (spOnes K C) := by
  refine F.okX sc_ones_in (fun vs H Q E h => ?_) (fun cdv A outer s H vs Q E hr h => ?_)
  · obtain ⟨x, b, rfl, _⟩ := h
    rfl
  · obtain ⟨x, b, rfl, hI, k1, k2⟩ := h
    refine ⟨_, (pss_cons (ps_expr (pe_callS G_need_number (hr.mono (by decide)) (by rfl) D_need_number.g D_need_number.F.kp D_need_number.b (fun σ => passAt (takes_of rfl rfl rfl rfl) σ) (pa_cons (pv 0) (pa_cons pe_str (pa_cons pe_int (pa_cons pe_non pa_nil))))))
  (pss_one (ps_ret (pe_m1 PySem.F.slot_str_count PySem.F.type_str_count mt_count (pe_fmtB (pv 0)) pe_str)))), ?_⟩
    refine ⟨x, rfl, x, "number", some 0, none, b, rfl, hI, fun c => ?_, fun c d hd => k2 c d hd⟩
    obtain ⟨n, rfl, hn, k⟩ := k1 c
    refine ⟨_, rfl, n, rfl, bin_small hn, ⟨_, rfl⟩, _, _, rfl, rfl, ?_⟩
    rw [bin_count]
    exact k
theorem sc_most_pairs : FnScope ["many", "pairs", "above", "bit"] ["many"] (defScope s_most_pairs) := ⟨rfl, rfl, rfl, by decide +kernel, rfl, by decide +kernel, by decide +kernel⟩
theorem ok_most_pairs {f f1 f3 C : Addr} {fd fd1 fd3 : FuncData} (F : Fun K "most_pairs" "most_pairs" s_most_pairs f fd) (T : Blt mg) (D_need_number : Df K mg "need_number" s_need_number ["value", "part", "least", "most"] f3 fd3) (D__bits_of : Df K mg "_bits_of" s__bits_of ["word"] f1 fd1)
    (G_need_number : FnOk P w K mg base (L2.CX P w) 4 f3 fd3 ["value", "part", "least", "most"] (spNeedNumber K C)) : FnOk P w K mg base (L2.CX P w) 5 f fd ["many"] (spPairs K C) := by
  have G__bits_of : FnOk P w K mg base CX0 1 f1 fd1 ["word"] spBits := ok__bits_of D__bits_of.F T
  refine F.okX sc_most_pairs (fun vs H Q E h => ?_) (fun cdv A outer s H vs Q E hr h => ?_)
  · obtain ⟨x, b, rfl, _⟩ := h
    rfl
  · obtain ⟨x, b, rfl, hI, k1, k2⟩ := h
    refine ⟨_, (pss_cons (ps_expr (pe_callS G_need_number (hr.mono (by decide)) (by rfl) D_need_number.g D_need_number.F.kp D_need_number.b (fun σ => passAt (takes_of rfl rfl rfl rfl) σ) (pa_cons (pv 0) (pa_cons pe_str (pa_cons pe_int (pa_cons pe_non pa_nil))))))
  (pss_cons (ps_set (i := 1) sc_most_pairs.nd rfl (Or.inl rfl) pe_int)
  (pss_cons (ps_for (passes_of rfl) rfl (pi_enumR (by rfl) T.n_enumerate (by rfl) T.n_reversed (pe_callTy call_list_of (by rfl) T.n_list (by decide +kernel) (pa_cons (pe_call G__bits_of (hr.mono (by decide)) (by rfl) D__bits_of.g D__bits_of.F.kp D__bits_of.b .nil pass0 (pa_cons (pv 0) pa_nil)) pa_nil))) (pg_tup (by rfl) (pgs_cons (pg_name (i := 2) sc_most_pairs.nd rfl (Or.inl rfl)) (pgs_cons (pg_name (i := 3) sc_most_pairs.nd rfl (Or.inl rfl)) pgs_nil))) (pss_one (ps_set (i := 1) sc_most_pairs.nd rfl (Or.inl rfl) (pe_op op_add (pe_op op_add (pv 1) (pe_op op_shlNN (pv 2) (pv 3))) (pe_op op_halfN (pe_op op_shlNN (pv 3) (pv 3)) pe_int)))))
  (pss_one (ps_ret (pv 1)))))), ?_⟩
    refine ⟨x, rfl, x, "many", some 0, none, b, rfl, hI, fun c => ?_, fun c d hd => k2 c d hd⟩
    obtain ⟨n, rfl, hn, k⟩ := k1 c
    refine ⟨_, rfl, n, rfl, hn, fun q H1 S1 hq => ?_⟩
    refine ⟨q, _, rfl, .inr (SqT.of hq), fun l hl => ?_⟩
    refine ⟨l, _, rfl, SqL.of upd_same, ?_⟩
    have hL : (M04.R n).length ≤ 1000 := M04.R_len (by decide) hn
    have hlen : (bitsV n).length = (M04.D n (M04.R n).length).length := by
      unfold bitsV
      rw [List.length_map, List.length_reverse]
    have hget : ∀ i, i < (bitsV n).length → ∃ b, (M04.D n (M04.R n).length)[i]? = some b ∧ b < (M04.R n).length ∧ (bitsV n)[(bitsV n).length - 1 - i]? = some (V.int (b : Int)) := fun i hi => by
      rw [hlen] at hi
      refine ⟨(M04.D n (M04.R n).length)[i], List.getElem?_eq_getElem hi, M04.D_lt (List.getElem_mem hi), ?_⟩
      rw [hlen]
      unfold bitsV
      rw [List.getElem?_map, List.getElem?_reverse (by omega), show (M04.D n (M04.R n).length).length - 1 - ((M04.D n (M04.R n).length).length - 1 - i) = i by omega, List.getElem?_eq_getElem hi]
      rfl
    refine for_it walk_enumR (fun i σ H' => Same H H' ∧ H' l = some (.lst (bitsV n)) ∧ ∃ (acc : Nat) (u v : Option V), σ = [some (.int (n : Int)), some (.int (acc : Int)), u, v] ∧ M04.S ((M04.D n (M04.R n).length).drop i) i acc = M04.E n)
      ⟨S1.trans (same_new hl), upd_same, 0, none, none, rfl, M04.S_all (M04.R_facts n).1⟩ (fun i σ H' _ h => SqL.of h.2.1) ?_ ?_
    · rintro i y σ H2 H3 hi ⟨S2, h2, acc, u, v, rfl, hS⟩ ⟨p, a, z, rfl, hp, rfl, ea, eb⟩
      have ea : V.int (i : Int) = a := Option.some.inj ea
      subst ea
      obtain ⟨b, hb, hbl, hx⟩ := hget i hi
      have eb : V.int (b : Int) = z := Option.some.inj (hx.symm.trans eb)
      subst eb
      have hb1 : b ≤ 1000 := by omega
      have hi1 : i < (M04.R n).length := Nat.lt_of_lt_of_le hi (by rw [hlen]; exact M04.D_len n _)
      have big : ∀ k : Nat, k ≤ 1000 → k < 2 ^ 1000 := fun k hk => Nat.lt_of_le_of_lt hk (by decide)
      refine ⟨p, _, rfl, SqT.of upd_same, rfl, _, _, rfl, _, _, rfl, rfl, ?_⟩
      refine ⟨_, rfl, _, rfl, _, rfl, i, b, rfl, rfl, big i (by omega), hb1, _, _, rfl, rfl, _, rfl, _, rfl, b, b, rfl, rfl, big b hb1, hb1, _, rfl, rfl, _, _, rfl, rfl, ?_⟩
      refine ⟨S2.trans (same_new hp), ?_, acc + i * 2 ^ b + b * 2 ^ b / 2, some (.int (i : Int)), some (.int (b : Int)), ?_, ?_⟩
      · rw [upd_ne (ne_of_none h2 hp)]
        exact h2
      · show [some (V.int (n : Int)), some (V.int ((acc : Int) + ((i * 2 ^ b : Nat) : Int) + ((b * 2 ^ b / 2 : Nat) : Int))), _, _] = _
        rw [Int.natCast_add, Int.natCast_add]
      · rw [← hS, List.drop_eq_getElem_cons (show i < (M04.D n (M04.R n).length).length by rw [← hlen]; exact hi)]
        have e : (M04.D n (M04.R n).length)[i]'(by rw [← hlen]; exact hi) = b := (List.getElem?_eq_some_iff.mp hb).2
        rw [e]
        rfl
    · rintro σ H2 ⟨S2, h2, acc, u, v, rfl, hS⟩
      rw [hlen, List.drop_length] at hS
      have hS : acc = M04.E n := hS
      subst hS
      exact ⟨_, rfl, k H2 S2⟩
end
end K05
namespace K05
open PySem PySem.Spec PyProof.Rows L2 OB SkE
/-- whatever is laid anew, it is a list or a tuple, or none -/
def EvL (K : PySem.W.Frag) (H : Hp) (x : V) (b : Bool) : Prop := ∀ H', Same H H' → IsL K H' x b
def EvI (K : PySem.W.Frag) (H : Hp) (x : V) (b : Bool) : Prop := ∀ H', Same H H' → IsI K H' x b
def spIsList (K : PySem.W.Frag) : Sp := fun vs H Q _ => ∃ (x : V) (b : Bool), vs = [x] ∧ EvL K H x b ∧ ∀ H', Same H H' → Q (.bl b) H'
/-- a value that is no list or tuple of unlike numbers within bounds, or one -/
def NoLot (K : PySem.W.Frag) (H : Hp) (x : V) (lo hi : Option Int) : Prop := EvL K H x false ∨
  ∃ (a : Addr) (xs : List V) (bs : List Bool), x = .ref a ∧ (SqL K H a xs ∨ SqT K H a xs) ∧ xs.length ≤ 1050 ∧ EvL K H x true ∧ bs.length = xs.length ∧
    (∀ (i : Nat) (v : V) (b : Bool), xs[i]? = some v → bs[i]? = some b → ∃ c, EvI K H v c ∧ b = (c && inB lo hi v)) ∧ (bs.all id = true → ∃ ns : List Int, xs = ns.map V.int ∧ ¬ ns.Nodup)
def IsLot (K : PySem.W.Frag) (H : Hp) (x : V) (lo hi : Option Int) (ns : List Int) : Prop := ∃ a : Addr, x = .ref a ∧ (SqL K H a (ns.map V.int) ∨ SqT K H a (ns.map V.int)) ∧ ns.length ≤ 1050 ∧ EvL K H x true ∧ (∀ n ∈ ns, inB lo hi (.int n) = true) ∧ ns.Nodup
def spUnlike (K : PySem.W.Frag) : Sp := fun vs H Q _ => ∃ (x : V) (lo hi : Option Int), vs = [x, oV lo, oV hi] ∧
  ((NoLot K H x lo hi ∧ ∀ H', Same H H' → Q (.bl false) H') ∨ (∃ ns, IsLot K H x lo hi ns ∧ ∀ H', Same H H' → Q (.bl true) H'))
section
variable {P : Program} {w : World} {K : PySem.W.Frag} {mg : Str → Option Value} {base : Heap}
theorem sc_is_list : FnScope ["value"] ["value"] (defScope s_is_list) := ⟨rfl, rfl, rfl, by decide +kernel, rfl, by decide +kernel, by decide +kernel⟩
theorem ok_is_list {f : Addr} {fd : FuncData} (F : Fun K "is_list" "is_list" s_is_list f fd) (T : Blt mg) : FnOk P w K mg base CX0 1 f fd ["value"] (spIsList K) := by
  refine F.ok sc_is_list (fun vs H Q E h => ?_) (fun cdv A outer s H vs Q E hr h => ?_)
  · obtain ⟨x, b, rfl, _⟩ := h
    rfl
  · obtain ⟨x, b, rfl, hL, k⟩ := h
    refine ⟨_, (pss_one (ps_ret (pe_callB call_isiT (by rfl) T.n_isinstance (by decide +kernel) (pa_cons (pv 0) (pa_cons (pe_tup (pa_cons (pe_bltn (v := .ty "list") (by rfl) T.n_list (by decide +kernel) rfl) (pa_cons (pe_bltn (v := .ty "tuple") (by rfl) T.n_tuple (by decide +kernel) rfl) pa_nil))) pa_nil))))), ?_⟩
    refine ⟨_, rfl, (by show 2 ≤ sizeLine; decide), fun t ht => ?_⟩
    have S := same_new (o := .tup [.ty "list", .ty "tuple"]) ht
    obtain ⟨ty, hty, hk⟩ := isL_any (hL _ S)
    exact ⟨_, t, _, ty, _, b, rfl, upd_same, .cons (.ty _) (.cons (.ty _) .nil), hty, hk, k _ S⟩
theorem sc_are_unlike : FnScope ["value", "least", "most", "item"] ["value", "least", "most"] (defScope s_are_unlike) := ⟨rfl, rfl, rfl, by decide +kernel, rfl, by decide +kernel, by decide +kernel⟩
abbrev N_are_unlike : List Str := ["value", "least", "most", "item"]
theorem ok_are_unlike {f f1 f2 f3 : Addr} {fd fd1 fd2 fd3 : FuncData} (F : Fun K "are_unlike" "are_unlike" s_are_unlike f fd) (T : Blt mg) (D_is_list : Df K mg "is_list" s_is_list ["value"] f1 fd1) (D_is_within : Df K mg "is_within" s_is_within ["value", "least", "most"] f2 fd2) (D_is_integer : Df K mg "is_integer" s_is_integer ["value"] f3 fd3) :
    FnOk P w K mg base CX0 4 f fd ["value", "least", "most"] (spUnlike K) := by
  have G_is_list : FnOk P w K mg base CX0 1 f1 fd1 ["value"] (spIsList K) := ok_is_list D_is_list.F T
  have G_is_within : FnOk P w K mg base CX0 2 f2 fd2 ["value", "least", "most"] (spWithin K) := ok_is_within D_is_within.F D_is_integer T
  refine F.ok sc_are_unlike (fun vs H Q E h => ?_) (fun cdv A outer s H vs Q E hr h => ?_)
  · obtain ⟨x, lo, hi, rfl, _⟩ := h
    rfl
  · obtain ⟨x, lo, hi, rfl, h⟩ := h
    refine ⟨_, (pss_cons (ps_if (pt_not (pt_val (pe_call G_is_list (hr.mono (by decide)) (by rfl) D_is_list.g D_is_list.F.kp D_is_list.b .nil pass0 (pa_cons (pv 0) pa_nil)))) (pss_one (ps_ret pe_bl)) pss_nil)
  (pss_one (ps_ret (pe_and (pe_callB (cr_all rfl) (by rfl) T.n_all (by decide +kernel) (pa_cons (pe_lc (own := [("item", 3)]) (g := (gName 3)) (tt := tYes) rfl sc_are_unlike.nd (pi_seqA (pv 0)) (blkOk_by (N := N_are_unlike) (own := [("item", 3)]) (sc := defScope s_are_unlike) (by decide +kernel)) (fun _ _ _ _ _ => (pg_name (i := 3) sc_are_unlike.nd rfl (Or.inl rfl))) (fun _ _ _ _ _ => pts_nil) (fun _ _ _ _ _ => (pe_call G_is_within (hr.mono (by decide)) (by rfl) D_is_within.g D_is_within.F.kp D_is_within.b .nil pass0 (pa_cons (pv 3) (pa_cons (pv 1) (pa_cons (pv 2) pa_nil)))))) pa_nil)) (pe_one (pe_cmpR op_eq (pe_lenSet2 (by rfl) T.n_len (by rfl) T.n_set (pv 0)) (pe_callB call_len_seq (by rfl) T.n_len (by decide +kernel) (pa_cons (pv 0) pa_nil)) (nomark _))))))), ?_⟩
    have h2 : (EvL K H x false ∧ ∀ H', Same H H' → Q (.bl false) H') ∨ ∃ (a : Addr) (xs : List V) (bs : List Bool), x = .ref a ∧ (SqL K H a xs ∨ SqT K H a xs) ∧ xs.length ≤ 1050 ∧ EvL K H x true ∧ bs.length = xs.length ∧
        (∀ (i : Nat) (v : V) (b : Bool), xs[i]? = some v → bs[i]? = some b → ∃ c, EvI K H v c ∧ b = (c && inB lo hi v)) ∧ (∀ H', Same H H' → (bs.all id = false → Q (.bl false) H') ∧ (bs.all id = true → ∃ ns : List Int, xs = ns.map V.int ∧ Q (.bl (decide ns.Nodup)) H')) := by
      rcases h with ⟨hn | ⟨a, xs, bs, e1, e2, e3, e4, e5, e6, e7⟩, q⟩ | ⟨ns, ⟨a, e1, e2, e3, e4, e5, e6⟩, q⟩
      · exact .inl ⟨hn, q⟩
      · refine .inr ⟨a, xs, bs, e1, e2, e3, e4, e5, e6, fun H' S => ⟨fun _ => q H' S, fun c => ?_⟩⟩
        obtain ⟨ns, e, nd⟩ := e7 c
        refine ⟨ns, e, ?_⟩
        rw [decide_eq_false nd]
        exact q H' S
      · refine .inr ⟨a, ns.map V.int, ns.map fun _ => true, e1, e2, by rw [List.length_map]; exact e3, e4, by rw [List.length_map, List.length_map], fun i v b hv hb => ?_, fun H' S => ⟨fun c => ?_, fun _ => ⟨ns, rfl, ?_⟩⟩⟩
        · rw [List.getElem?_map] at hv hb
          cases e : ns[i]? with
          | none => rw [e] at hv; cases hv
          | some n =>
            rw [e] at hv hb
            cases hv
            cases hb
            exact ⟨true, fun H' _ => isI_int n, by rw [e5 n (List.mem_of_getElem? e)]; rfl⟩
        · rw [show (ns.map fun _ => true).all id = true by simp] at c
          cases c
        · rw [decide_eq_true e6]
          exact q H' S
    rcases h2 with ⟨hL, q⟩ | ⟨a, xs, bs, rfl, hq, hlen, hL, hbl, hb, k⟩
    · exact ⟨_, rfl, x, false, rfl, hL, fun H1 S1 => ⟨_, rfl, q H1 S1⟩⟩
    refine ⟨_, rfl, _, true, rfl, hL, fun H1 S1 => ⟨_, rfl, ?_⟩⟩
    have hq1 : SqL K H1 a xs ∨ SqT K H1 a xs := hq.elim (fun z => .inl (sqL_same z S1)) fun z => .inr (sqT_same z S1)
    refine ⟨_, rfl, a, rfl, lc_seqA hq1 (fun D i H' => Same H1 H' ∧ H' D = some (.lst ((bs.take i).map V.bl))) (fun D hD => ⟨same_new hD, upd_same⟩) (fun D i H' _ _ p => p.1) ?_ ?_⟩
    · rintro D i v H' hD hx ⟨S2, hl⟩
      have hib : i < bs.length := by
        rw [hbl]
        exact (List.getElem?_eq_some_iff.mp hx).1
      obtain ⟨c, hI, ec⟩ := hb i v bs[i] hx (List.getElem?_eq_getElem hib)
      refine ⟨rfl, _, rfl, _, rfl, _, rfl, v, lo, hi, c, rfl, hI _ (S1.trans S2), _, hl, ?_, ?_, ?_⟩
      · rw [List.length_map, List.length_take]
        rw [sizeLine_eq]; omega
      · intro q o e
        rw [upd_ne (ne_of_none e hD)]
        exact S2 q o e
      · rw [upd_same, ← ec, List.take_add_one, List.getElem?_eq_getElem hib, List.map_append]
        rfl
    · rintro D H2 hD ⟨S2, hl⟩
      rw [← hbl, List.take_length] at hl
      refine ⟨D, bs, rfl, SqL.of hl, _, rfl, ?_⟩
      obtain ⟨kf, kt⟩ := k H2 (S1.trans S2)
      refine iteB (fun c => ?_) (fun c => kf c)
      obtain ⟨ns, ens, q⟩ := kt c
      subst ens
      have hq2 : SqL K H2 a (ns.map V.int) ∨ SqT K H2 a (ns.map V.int) := hq1.elim (fun z => .inl (sqL_same z S2)) fun z => .inr (sqT_same z S2)
      rw [List.length_map] at hlen
      refine ⟨_, rfl, a, ns, rfl, hq2, by omega, fun c hc hcn => ⟨_, rfl, a, _, rfl, hq2, rfl, ?_⟩⟩
      have e : decide (V.int (c : Int) = V.int (((ns.map V.int).length : Nat) : Int)) = decide ns.Nodup := by
        rw [List.length_map]
        by_cases z : ns.Nodup
        · rw [hcn.mpr z, decide_eq_true z]
          simp
        · rw [decide_eq_false z]
          refine decide_eq_false fun y => z (hcn.mp ?_)
          have y := V.int.inj y
          omega
      rw [e]
      exact q
end
end K05
namespace K05
open PySem PySem.Spec PyProof.Rows L2 OB SkE
theorem xor_nat (a b : Nat) : Builtin.bitXor (a : Int) (b : Int) = ((a ^^^ b : Nat) : Int) := by
  rw [Bits.bitXor_pp (Int.natCast_nonneg _) (Int.natCast_nonneg _), Int.toNat_natCast, Int.toNat_natCast]
theorem and_nat (a b : Nat) : Builtin.bitAnd (a : Int) (b : Int) = ((a &&& b : Nat) : Int) := by
  rw [bitAnd_pp (Int.natCast_nonneg _) (Int.natCast_nonneg _), Int.toNat_natCast, Int.toNat_natCast]
theorem no_nat {m : Nat} {A : Prop} (z : (true && inB (some 0) none (.int (m : Int))) = false) : A := by
  rw [inB_nat] at z
  cases z
/-- one bit alone -/
def spOneBit : Sp := fun vs H Q _ => ∃ n : Nat, vs = [.int (n : Int)] ∧ n ≠ 0 ∧ ∀ b : Bool, (b = true ↔ ∃ k, n = 2 ^ k) → Q (.bl b) H
/-- the error of two fields -/
def Raises2 (C : Addr) (f g : Str) (v u : V) (E : XK) (H : Hp) : Prop := ∀ d, H d = none → E (.ref C) (some d) (upd H d (.xd [(g, u), (f, v)]))
def spNeedWords (K : PySem.W.Frag) (CW CM : Addr) : Sp := fun vs H Q E => ∃ x : V, vs = [x] ∧ ((NoLot K H x (some 0) none ∧ ∀ H', Same H H' → RaisesP CW "words" E H') ∨
  (∃ ns, IsLot K H x (some 0) none ns ∧ ((1024 < ns.length ∧ ∀ H', Same H H' → Raises2 CM "what" "most" (.str "words") (.int 1024) E H') ∨ (ns.length ≤ 1024 ∧ ∀ H', Same H H' → Q .non H'))))
section
variable {P : Program} {w : World} {K : PySem.W.Frag} {mg : Str → Option Value} {base : Heap}
theorem sc__is_one_bit : FnScope ["word"] ["word"] (defScope s__is_one_bit) := ⟨rfl, rfl, rfl, by decide +kernel, rfl, by decide +kernel, by decide +kernel⟩
theorem ok__is_one_bit {f : Addr} {fd : FuncData} (F : Fun K "_is_one_bit" "_is_one_bit" s__is_one_bit f fd) : FnOk P w K mg base CX0 1 f fd ["word"] spOneBit := by
  refine F.ok sc__is_one_bit (fun vs H Q E h => ?_) (fun cdv A outer s H vs Q E hr h => ?_)
  · obtain ⟨n, rfl, _⟩ := h
    rfl
  · obtain ⟨n, rfl, hn, k⟩ := h
    refine ⟨_, (pss_one (ps_ret (pe_cmpR op_eq (pe_op op_and (pv 0) (pe_op op_sub (pv 0) pe_int)) pe_int (nomark _)))), ?_⟩
    refine ⟨_, rfl, _, rfl, _, _, rfl, rfl, _, _, rfl, rfl, rfl, ?_⟩
    have e : ((n : Int) - 1) = ((n - 1 : Nat) : Int) := by omega
    refine k _ ?_
    show decide (V.int (Builtin.bitAnd (n : Int) ((n : Int) - 1)) = V.int 0) = true ↔ _
    rw [e, and_nat]
    rw [decide_eq_true_iff]
    have h2 := Nat.and_sub_one_eq_zero_iff_isPowerOfTwo hn
    constructor
    · intro z
      have z := V.int.inj z
      exact h2.mp (by omega)
    · intro z
      have z : n &&& (n - 1) = 0 := h2.mpr z
      rw [z]
      rfl
theorem sc__need_words : FnScope ["words"] ["words"] (defScope s__need_words) := ⟨rfl, rfl, rfl, by decide +kernel, rfl, by decide +kernel, by decide +kernel⟩
theorem ok__need_words {f f1 CW CM fW fM : Addr} {fd fd1 fdW fdM : FuncData} (F : Fun K "_need_words" "_need_words" s__need_words f fd) (T : Blt mg) (D_are_unlike : Df K mg "are_unlike" s_are_unlike ["value", "least", "most"] f1 fd1) (G_are_unlike : FnOk P w K mg base CX0 4 f1 fd1 ["value", "least", "most"] (spUnlike K))
    (R_BadWord : Err P w K mg base "BadWord" "part" CW fW fdW) (R_TooMany : Err2 P w K mg base "TooMany" "what" "most" CM fM fdM) : FnOk P w K mg base (L2.CX P w) 6 f fd ["words"] (spNeedWords K CW CM) := by
  obtain ⟨tB, gB⟩ := T.g_MOST_WORDS
  refine F.okX sc__need_words (fun vs H Q E h => ?_) (fun cdv A outer s H vs Q E hr h => ?_)
  · obtain ⟨x, rfl, _⟩ := h
    rfl
  · obtain ⟨x, rfl, h⟩ := h
    refine ⟨_, (pss_cons (ps_if (pt_not (pt_val (pe_call G_are_unlike (hr.mono (by decide)) (by rfl) D_are_unlike.g D_are_unlike.F.kp D_are_unlike.b .nil pass0 (pa_cons (pv 0) (pa_cons pe_int (pa_cons pe_non pa_nil)))))) (pss_one (ps_raise1 rfl (takes_of rfl rfl rfl rfl) R_BadWord (hr.mono (by decide)) (by rfl) pe_str)) pss_nil)
  (pss_one (ps_if (pt_cmpR op_gt (pe_callB call_len_seq (by rfl) T.n_len (by decide +kernel) (pa_cons (pv 0) pa_nil)) (pe_glob (v := .int 1024) rfl gB ⟨_, rfl⟩) (nomark _)) (pss_one (ps_raise2 rfl (takes_of rfl rfl rfl rfl) R_TooMany (hr.mono (by decide)) (by rfl) pe_str (pe_glob (v := .int 1024) rfl gB ⟨_, rfl⟩))) pss_nil))), ?_⟩
    rcases h with ⟨hn, k⟩ | ⟨ns, hl, k⟩
    · refine ⟨_, rfl, x, some 0, none, rfl, .inl ⟨hn, fun H1 S1 => ⟨_, rfl, ?_⟩⟩⟩
      exact raise1_of (σ := []) (W := fun cls d _ H => E cls d H) R_BadWord.T R_BadWord.no (k H1 S1)
    · refine ⟨_, rfl, x, some 0, none, rfl, .inr ⟨ns, hl, fun H1 S1 => ⟨_, rfl, ?_⟩⟩⟩
      obtain ⟨a, rfl, hq, _⟩ := hl
      have hq1 : SqL K H1 a (ns.map V.int) ∨ SqT K H1 a (ns.map V.int) := hq.elim (fun z => .inl (sqL_same z S1)) fun z => .inr (sqT_same z S1)
      refine ⟨_, rfl, a, _, rfl, hq1, ?_⟩
      rw [List.length_map]
      rcases k with ⟨hm, k⟩ | ⟨hm, k⟩
      · refine ⟨_, _, rfl, rfl, ⟨_, rfl, iteB (fun c => ?_) (fun c => ?_)⟩⟩
        · exact raise2_of (σ := []) (W := fun cls d _ H => E cls d H) R_TooMany.T R_TooMany.no R_TooMany.no2 (k H1 S1)
        · have c := of_decide_eq_false c
          omega
      · refine ⟨_, _, rfl, rfl, ⟨_, rfl, iteB (fun c => ?_) (fun c => ?_)⟩⟩
        · have c := of_decide_eq_true c
          omega
        · exact k H1 S1
end
end K05
namespace K05
open PySem PySem.Spec PyProof.Rows L2 OB SkE
theorem for_seqA {K : PySem.W.Frag} {a : Addr} {xs : List V} {g : TG} {tb : TS} {D : Ends} {σ : L2.St} {H0 H : Hp} (h : SqL K H0 a xs ∨ SqT K H0 a xs) (S0 : Same H0 H) (Pv : Nat → L2.St → Hp → Prop) (h0 : Pv 0 σ H) (keep : ∀ i σ' H', i ≤ xs.length → Pv i σ' H' → Same H0 H')
    (hs : ∀ i x σ H, xs[i]? = some x → Pv i σ H → g x σ H fun σ2 H2 => tb { D with nx := Pv (i + 1), ct := Pv (i + 1), bk := D.nx } σ2 H2) (hd : ∀ σ H, Pv xs.length σ H → D.nx σ H) :
    ((∃ ys, SqL K H a ys) ∧ ∃ W : Nat → Nat → L2.St → Hp → Prop, (∃ m, W 0 m σ H) ∧ ∀ i m σ H, W i m σ H →
      ((Itl K a).stop i H ∧ D.nx σ H) ∨ ((Itl K a).go i H ∧ ∃ N : L2.St → Hp → Prop, (∀ σ' H', N σ' H' → ∃ m', m' < m ∧ W (i + 1) m' σ' H') ∧ ∀ x H', (Itl K a).yld i H x H' → g x σ H' fun σ2 H2 => tb { D with nx := N, ct := N, bk := D.nx } σ2 H2)) ∨
    ((∃ ys, SqT K H a ys) ∧ ∃ W : Nat → Nat → L2.St → Hp → Prop, (∃ m, W 0 m σ H) ∧ ∀ i m σ H, W i m σ H →
      ((Itt K a).stop i H ∧ D.nx σ H) ∨ ((Itt K a).go i H ∧ ∃ N : L2.St → Hp → Prop, (∀ σ' H', N σ' H' → ∃ m', m' < m ∧ W (i + 1) m' σ' H') ∧ ∀ x H', (Itt K a).yld i H x H' → g x σ H' fun σ2 H2 => tb { D with nx := N, ct := N, bk := D.nx } σ2 H2)) :=
  h.elim (fun z => .inl ⟨⟨_, sqL_same z S0⟩, for_list Pv h0 (fun i σ' H' hi p => sqL_same z (keep i σ' H' hi p)) hs hd⟩) fun z => .inr ⟨⟨_, sqT_same z S0⟩, for_tup Pv h0 (fun i σ' H' hi p => sqT_same z (keep i σ' H' hi p)) hs hd⟩
def natsV (l : List Nat) : List V := l.map fun (x : Nat) => V.int (x : Int)
def lot (l : List Nat) (k : Nat) : List Nat := l.filter fun x => decide (M04.pc x = k)
def kvsOf (ks : List Nat) (adr : Nat → Addr) : List (Key × V) := ks.map fun (k : Nat) => ((Sum.inl (k : Int) : Key), V.ref (adr k))
theorem val_kvs (adr : Nat → Addr) (k : Nat) : ∀ ks : List Nat, valV (kvsOf ks adr) (Sum.inl (k : Int)) = if k ∈ ks then some (.ref (adr k)) else none
  | [] => rfl
  | j :: r => by
    have ih := val_kvs adr k r
    by_cases e : j = k
    · subst e
      rw [if_pos List.mem_cons_self]
      exact valV_pos (p := ((Sum.inl (j : Int) : Key), V.ref (adr j))) rfl
    · have e2 : ¬ ((Sum.inl (j : Int) : Key)) = Sum.inl (k : Int) := fun z => e (by have z := Sum.inl.inj z; omega)
      have e3 : valV (kvsOf (j :: r) adr) (Sum.inl (k : Int)) = valV (kvsOf r adr) (Sum.inl (k : Int)) := valV_neg (p := ((Sum.inl (j : Int) : Key), V.ref (adr j))) e2
      rw [e3, ih]
      by_cases m : k ∈ r
      · rw [if_pos m, if_pos (List.mem_cons_of_mem _ m)]
      · rw [if_neg m, if_neg fun z => (List.mem_cons.mp z).elim (fun y => e y.symm) m]
/-- the words so far, in lots by their ones -/
structure Lots (H : Hp) (D : Addr) (ks : List Nat) (adr : Nat → Addr) (ws : List Nat) (H' : Hp) : Prop where
  same : Same H H'
  new : H D = none
  nd : ks.Nodup
  all : ∀ x ∈ ws, M04.pc x ∈ ks
  ats : ∀ k ∈ ks, H (adr k) = none ∧ adr k ≠ D ∧ H' (adr k) = some (.lst (natsV (lot ws k)))
  inj : ∀ j ∈ ks, ∀ k ∈ ks, adr j = adr k → j = k
  len : ks.length ≤ ws.length
  dct : H' D = some (.dK (kvsOf ks adr))
theorem lot_snoc (ws : List Nat) (n k : Nat) : lot (ws ++ [n]) k = if M04.pc n = k then lot ws k ++ [n] else lot ws k := by
  unfold lot
  rw [List.filter_append]
  by_cases e : M04.pc n = k
  · rw [if_pos e, List.filter_cons_of_pos (by simpa using e)]
    rfl
  · rw [if_neg e, List.filter_cons_of_neg (by simpa using e)]
    exact List.append_nil _
theorem natsV_snoc (l : List Nat) (n : Nat) : natsV (l ++ [n]) = natsV l ++ [V.int (n : Int)] := by
  unfold natsV
  rw [List.map_append]
  rfl
/-- a word more, in a lot that is there -/
theorem Lots.more {H H1 : Hp} {D : Addr} {ks : List Nat} {adr : Nat → Addr} {ws : List Nat} {n : Nat} {H2 : Hp} (L : Lots H D ks adr ws H1) (hn : M04.pc n ∈ ks) (S : Same H1 H2) :
    Lots H D ks adr (ws ++ [n]) (upd H2 (adr (M04.pc n)) (.lst (natsV (lot ws (M04.pc n)) ++ [V.int (n : Int)]))) := by
  obtain ⟨a1, a2, a3⟩ := L.ats _ hn
  refine ⟨fun b o e => ?_, L.new, L.nd, fun x hx => ?_, fun k hk => ?_, L.inj, ?_, ?_⟩
  · rw [upd_ne (ne_of_none e a1)]
    exact S _ _ (L.same _ _ e)
  · rcases List.mem_append.mp hx with h | h
    · exact L.all x h
    · rw [List.mem_singleton.mp h]
      exact hn
  · obtain ⟨b1, b2, b3⟩ := L.ats _ hk
    refine ⟨b1, b2, ?_⟩
    rw [lot_snoc]
    by_cases e : M04.pc n = k
    · rw [if_pos e, e, upd_same, natsV_snoc]
    · rw [if_neg e, upd_ne (fun z => e (L.inj _ hk _ hn z).symm)]
      exact S _ _ b3
  · rw [List.length_append]
    exact Nat.le_trans L.len (Nat.le_add_right _ _)
  · rw [upd_ne (Ne.symm a2)]
    exact S _ _ L.dct
/-- a word more, in a lot of its own -/
theorem Lots.fresh {H H1 : Hp} {D q : Addr} {ks : List Nat} {adr : Nat → Addr} {ws : List Nat} {n : Nat} (L : Lots H D ks adr ws H1) (hn : ¬ M04.pc n ∈ ks) (hq : H1 q = none) :
    Lots H D (ks ++ [M04.pc n]) (fun k => if k = M04.pc n then q else adr k) (ws ++ [n]) (upd (upd (upd H1 q (.lst [])) D (.dK (kvsOf ks adr ++ [((Sum.inl ((M04.pc n : Nat) : Int) : Key), V.ref q)]))) q (.lst ([] ++ [V.int (n : Int)]))) := by
  have qD : q ≠ D := fun e => by rw [e, L.dct] at hq; cases hq
  have hqH : H q = none := by
    cases e : H q with
    | none => rfl
    | some o => rw [L.same _ _ e] at hq; cases hq
  have ek : ∀ k ∈ ks, ¬ k = M04.pc n := fun k hk e => hn (e ▸ hk)
  have ea : ∀ k ∈ ks, ¬ adr k = q := fun k hk e => by
    have z := (L.ats k hk).2.2
    rw [e, hq] at z
    cases z
  have l0 : lot ws (M04.pc n) = [] := by
    unfold lot
    rw [List.filter_eq_nil_iff]
    intro x hx c
    exact hn ((of_decide_eq_true c) ▸ L.all x hx)
  refine ⟨fun b o e => ?_, L.new, ?_, fun x hx => ?_, fun k hk => ?_, fun j hj k hk e => ?_, ?_, ?_⟩
  · rw [upd_ne (ne_of_none e hqH), upd_ne (ne_of_none e L.new), upd_ne (ne_of_none e hqH)]
    exact L.same _ _ e
  · exact List.nodup_append.mpr ⟨L.nd, List.nodup_cons.mpr ⟨List.not_mem_nil, List.nodup_nil⟩, fun x hx y hy e => hn (by rw [← List.mem_singleton.mp hy, ← e]; exact hx)⟩
  · rcases List.mem_append.mp hx with h | h
    · exact List.mem_append_left _ (L.all x h)
    · rw [List.mem_singleton.mp h]
      exact List.mem_append_right _ List.mem_cons_self
  · rcases List.mem_append.mp hk with h | h
    · have e := ek k h
      obtain ⟨b1, b2, b3⟩ := L.ats _ h
      show H (if k = M04.pc n then q else adr k) = none ∧ (if k = M04.pc n then q else adr k) ≠ D ∧ _
      rw [if_neg e]
      refine ⟨b1, b2, ?_⟩
      rw [upd_ne (ea k h), upd_ne b2, upd_ne (ea k h), lot_snoc, if_neg fun z => e z.symm]
      exact b3
    · have e := List.mem_singleton.mp h
      show H (if k = M04.pc n then q else adr k) = none ∧ (if k = M04.pc n then q else adr k) ≠ D ∧ _
      rw [if_pos e]
      refine ⟨hqH, qD, ?_⟩
      rw [upd_same, lot_snoc, if_pos e.symm, e, l0]
      rfl
  · have e : (if j = M04.pc n then q else adr j) = (if k = M04.pc n then q else adr k) := e
    rcases List.mem_append.mp hj with h | h <;> rcases List.mem_append.mp hk with g | g
    · rw [if_neg (ek j h), if_neg (ek k g)] at e
      exact L.inj j h k g e
    · rw [if_neg (ek j h), if_pos (List.mem_singleton.mp g)] at e
      exact absurd e (ea j h)
    · rw [if_pos (List.mem_singleton.mp h), if_neg (ek k g)] at e
      exact absurd e.symm (ea k g)
    · rw [List.mem_singleton.mp h, List.mem_singleton.mp g]
  · rw [List.length_append, List.length_append]
    exact Nat.add_le_add_right L.len 1
  · rw [upd_ne (Ne.symm qD), upd_same]
    unfold kvsOf
    rw [List.map_append]
    have e1 : (ks.map fun (k : Nat) => ((Sum.inl (k : Int) : Key), V.ref (if k = M04.pc n then q else adr k))) = ks.map fun (k : Nat) => ((Sum.inl (k : Int) : Key), V.ref (adr k)) := List.map_congr_left fun k hk => by rw [if_neg (ek k hk)]
    rw [e1]
    show _ = some (HO.dK (_ ++ [((Sum.inl ((M04.pc n : Nat) : Int) : Key), V.ref (if M04.pc n = M04.pc n then q else adr (M04.pc n)))]))
    rw [if_pos rfl]
/-! ### sizes -/
theorem sumN_take (f : Nat → Nat) (i : Nat) (l : List Nat) : M05.sumN f (l.take i) ≤ M05.sumN f l := by
  have e := M05.sumN_app f (l.take i) (l.drop i)
  rw [List.take_append_drop] at e
  omega
theorem sumN_next (f : Nat → Nat) {l : List Nat} {i x : Nat} (h : l[i]? = some x) : M05.sumN f (l.take (i + 1)) = M05.sumN f (l.take i) + f x := by
  rw [List.take_add_one, h, M05.sumN_app]
  rfl
theorem prs_le : ∀ l : List Nat, M05.prs l ≤ l.length * l.length
  | [] => Nat.le_refl _
  | x :: r => by
    have ih := prs_le r
    have h := List.countP_le_length (p := M05.near x) (l := r)
    show r.countP (M05.near x) + M05.prs r ≤ (r.length + 1) * (r.length + 1)
    have e : (r.length + 1) * (r.length + 1) = r.length * r.length + r.length + r.length + 1 := by
      rw [Nat.add_mul, Nat.mul_add, Nat.mul_one, Nat.one_mul]
      omega
    omega
/-- the pairs of one lot with the next -/
def row (ns : List Nat) (k : Nat) (x : Nat) : Nat := (lot ns (k + 1)).countP (M05.near x)
def rows (ns : List Nat) (k : Nat) : Nat := M05.sumN (row ns k) (lot ns k)
theorem rows_prs {ks ns : List Nat} (hn : ks.Nodup) (h : ∀ x ∈ ns, M04.pc x ∈ ks) : M05.sumN (rows ns) ks = M05.prs ns := M05.lots_prs hn h
end K05
namespace K05
open PySem PySem.Spec PyProof.Rows L2 OB SkE
def spPairsOf (K : PySem.W.Frag) : Sp := fun vs H Q _ => ∃ (a : Addr) (ns : List Nat), vs = [.ref a] ∧ (SqL K H a (natsV ns) ∨ SqT K H a (natsV ns)) ∧ ns.length ≤ 1050 ∧ (∀ n ∈ ns, n < 2 ^ 1000) ∧
  ∀ (q : Addr) (ps : List V) (H' : Hp), Same H H' → H' q = some (.lst ps) → ps.length = M05.prs ns → Q (.ref q) H'
section
variable {P : Program} {w : World} {K : PySem.W.Frag} {mg : Str → Option Value} {base : Heap}
theorem sc__pairs_of : FnScope ["words", "by_ones", "word", "pairs", "ones", "more", "one", "other"] ["words"] (defScope s__pairs_of) := ⟨rfl, rfl, rfl, by decide +kernel, rfl, by decide +kernel, by decide +kernel⟩
abbrev N__pairs_of : List Str := ["words", "by_ones", "word", "pairs", "ones", "more", "one", "other"]
theorem ok__pairs_of {f f1 f2 C : Addr} {fd fd1 fd2 : FuncData} (F : Fun K "_pairs_of" "_pairs_of" s__pairs_of f fd) (T : Blt mg) (D_ones_in : Df K mg "ones_in" s_ones_in ["number"] f1 fd1) (G_ones_in : FnOk P w K mg base (L2.CX P w) 5 f1 fd1 ["number"] (spOnes K C))
    (D__is_one_bit : Df K mg "_is_one_bit" s__is_one_bit ["word"] f2 fd2) : FnOk P w K mg base (L2.CX P w) 6 f fd ["words"] (spPairsOf K) := by
  have G__is_one_bit : FnOk P w K mg base CX0 1 f2 fd2 ["word"] spOneBit := ok__is_one_bit D__is_one_bit.F
  refine F.okX sc__pairs_of (fun vs H Q E h => ?_) (fun cdv A outer s H vs Q E hr h => ?_)
  · obtain ⟨a, ns, rfl, _⟩ := h
    rfl
  · obtain ⟨a, ns, rfl, hq, hlen, hsm, k⟩ := h
    have hu : (A.deeper (envOfC "_pairs_of" (defScope s__pairs_of) s.heap.objs.size f cdv)).units + 1 < cLine := by
      have := hr.units
      omega
    refine ⟨_, (pss_cons (ps_set (i := 1) sc__pairs_of.nd rfl (Or.inl rfl) pe_dnewK)
  (pss_cons (ps_for (passes_of rfl) rfl (pi_seqA (pv 0)) (pg_name (i := 2) sc__pairs_of.nd rfl (Or.inl rfl)) (pss_one (ps_expr (pe_bm PySem.F.plainAttrs_list PySem.F.slot_list_append PySem.F.type_list_append mt_append (pe_bm PySem.F.plainAttrs_dict PySem.F.slot_dict_setdefault PySem.F.type_dict_setdefault mt_setdefault (pv 1) (pa_cons (pe_callS G_ones_in (hr.mono (by decide)) (by rfl) D_ones_in.g D_ones_in.F.kp D_ones_in.b (fun σ => passAt (takes_of rfl rfl rfl rfl) σ) (pa_cons (pv 2) pa_nil)) (pa_cons (pe_lst pa_nil) pa_nil))) (pa_cons (pv 2) pa_nil)))))
  (pss_cons (ps_set (i := 3) sc__pairs_of.nd rfl (Or.inl rfl) (pe_lst pa_nil))
  (pss_cons (ps_lock (ps_for (passes_of rfl) rfl (pi_keys (pv 1)) (pg_name (i := 4) sc__pairs_of.nd rfl (Or.inl rfl)) (pss_cons (ps_set (i := 5) sc__pairs_of.nd rfl (Or.inl rfl) (pe_dget2 hu (pv 1) (pe_op op_add (pv 4) pe_int) (pe_lst pa_nil) ⟨by rfl, by rfl, by rfl, by rfl⟩))
  (pss_one (ps_for (passes_of rfl) rfl (pi_list (pe_dget hu (pv 1) (pv 4) (fun _ _ => rfl))) (pg_name (i := 6) sc__pairs_of.nd rfl (Or.inr rfl)) (pss_one (ps_expr (pe_bm PySem.F.plainAttrs_list PySem.F.slot_list_extend PySem.F.type_list_extend mt_extend (pv 3) (pa_cons (pe_lc (own := [("other", 7)]) (g := (gName 7)) rfl sc__pairs_of.nd (pi_list (pv 5)) (blkOk_by (N := N__pairs_of) (own := [("other", 7)]) (sc := defScope s__pairs_of) (by decide +kernel)) (fun _ _ _ _ _ => (pg_name (i := 7) sc__pairs_of.nd rfl (Or.inl rfl))) (fun _ _ _ _ _ => (pts_one (pt_val (pe_call G__is_one_bit (hr.mono (by decide)) (by rfl) D__is_one_bit.g D__is_one_bit.F.kp D__is_one_bit.b .nil pass0 (pa_cons (pe_op op_xor (pv 6) (pv 7)) pa_nil))))) (fun _ _ _ _ _ => (pe_tup (pa_cons (pv 6) (pa_cons (pv 7) pa_nil))))) pa_nil)))))))))
  (pss_one (ps_ret (pv 3))))))), ?_⟩
    refine fun D hD => ?_
    have S0 := same_new (o := .dK []) hD
    have hle : (natsV ns).length = ns.length := List.length_map ..
    have hat : ∀ (i : Nat) (x : V), (natsV ns)[i]? = some x → ∃ n : Nat, ns[i]? = some n ∧ x = V.int (n : Int) := fun i x e => by
      unfold natsV at e
      rw [List.getElem?_map] at e
      cases z : ns[i]? with
      | none => rw [z] at e; cases e
      | some n => rw [z] at e; exact ⟨n, rfl, (Option.some.inj e).symm⟩
    have hatl : ∀ (k i : Nat) (x : V), (natsV (lot ns k))[i]? = some x → ∃ n : Nat, (lot ns k)[i]? = some n ∧ x = V.int (n : Int) ∧ M04.pc n = k := fun k i x e => by
      unfold natsV at e
      rw [List.getElem?_map] at e
      cases z : (lot ns k)[i]? with
      | none => rw [z] at e; cases e
      | some n =>
        rw [z] at e
        exact ⟨n, rfl, (Option.some.inj e).symm, of_decide_eq_true (List.mem_filter.mp (List.mem_of_getElem? z)).2⟩
    refine ⟨_, rfl, a, rfl, for_seqA hq S0 (fun i σ H' => ∃ (ks : List Nat) (adr : Nat → Addr) (u : Option V), σ = [some (.ref a), some (.ref D), u, none, none, none, none, none] ∧ Lots H D ks adr (ns.take i) H')
      ⟨[], fun _ => 0, none, rfl, ⟨S0, hD, List.nodup_nil, fun x hx => (nomatch hx), fun k hk => (nomatch hk), fun j hj => (nomatch hj), Nat.zero_le _, upd_same⟩⟩ (fun i σ H' _ p => (let ⟨_, _, _, _, L⟩ := p; L.same)) ?_ ?_⟩
    · rintro i x σ H1 hx ⟨ks, adr, u, rfl, L⟩
      obtain ⟨n, hn, rfl⟩ := hat i x hx
      have hnm := hsm n (List.mem_of_getElem? hn)
      have hi : i < ns.length := (List.getElem?_eq_some_iff.mp hn).1
      have et : ns.take (i + 1) = ns.take i ++ [n] := by rw [List.take_add_one, hn]; rfl
      refine ⟨_, rfl, .inr (.inr (.inl ⟨rfl, .inl ⟨_, L.dct⟩⟩)), ?_⟩
      have hll : (natsV (lot (ns.take i) (M04.pc n))).length < sizeLine := by
        unfold natsV lot
        rw [List.length_map]
        have h1 := List.length_filter_le (fun x => decide (M04.pc x = M04.pc n)) (ns.take i)
        rw [List.length_take] at h1
        rw [sizeLine_eq]
        omega
      have hks : (kvsOf ks adr).length < sizeLine := by
        unfold kvsOf
        rw [List.length_map]
        have h1 := L.len
        rw [List.length_take] at h1
        rw [sizeLine_eq]
        omega
      refine ⟨_, rfl, _, true, rfl, isI_int _, fun _ => ⟨n, rfl, hnm, ?_⟩, fun z => no_nat z⟩
      refine ⟨Nat.zero_le _, fun q hq => ?_⟩
      have Sq := same_new (o := .lst []) hq
      refine ⟨D, kvsOf ks adr, .inl ((M04.pc n : Nat) : Int), .ref q, rfl, rfl, Sq _ _ L.dct, hks, fun v hv => ?_, fun hv => ?_⟩
      · rw [val_kvs] at hv
        by_cases m : M04.pc n ∈ ks
        · rw [if_pos m] at hv
          cases hv
          have h3 := Sq _ _ (L.ats _ m).2.2
          refine ⟨.inl ⟨rfl, _, SqL.of h3⟩, _, rfl, _, _, _, rfl, rfl, h3, hll, ks, adr, _, rfl, ?_⟩
          rw [et]
          exact L.more m Sq
        · rw [if_neg m] at hv
          cases hv
      · rw [val_kvs] at hv
        by_cases m : M04.pc n ∈ ks
        · rw [if_pos m] at hv
          cases hv
        · have hv2 : valV (kvsOf ks adr) (Sum.inl ((M04.pc n : Nat) : Int)) = none := by rw [val_kvs, if_neg m]
          rw [putK_new _ hv2]
          have qD : q ≠ D := fun e => by rw [e, L.dct] at hq; cases hq
          have h3 : upd (upd H1 q (.lst [])) D (.dK (kvsOf ks adr ++ [((Sum.inl ((M04.pc n : Nat) : Int) : Key), V.ref q)])) q = some (.lst []) := by
            rw [upd_ne qD, upd_same]
          refine ⟨.inl ⟨rfl, _, SqL.of h3⟩, _, rfl, _, _, _, rfl, rfl, h3, by show 0 < sizeLine; decide, ks ++ [M04.pc n], fun k => if k = M04.pc n then q else adr k, some (V.int (n : Int)), rfl, ?_⟩
          rw [et]
          exact L.fresh m hq
    · rintro σ H1 ⟨ks, adr, u, rfl, L⟩
      rw [hle, List.take_length] at L
      refine ⟨Nat.zero_le _, fun p hp => ?_⟩
      have Sp := same_new (o := .lst []) hp
      have pD : p ≠ D := fun e => by rw [e, L.dct] at hp; cases hp
      refine ⟨D, _, Sp _ _ L.dct, trivial, fun od => ?_⟩
      have hkl : (kvsOf ks adr).length = ks.length := List.length_map ..
      have hrp : M05.sumN (rows ns) ks = M05.prs ns := rows_prs L.nd L.all
      have hpl : M05.prs ns ≤ 1050 * 1050 := Nat.le_trans (prs_le ns) (Nat.mul_le_mul hlen hlen)
      have adp : ∀ k ∈ ks, adr k ≠ p ∧ adr k ≠ D := fun k hk => ⟨fun e => by
        have z := (L.ats k hk).2.2
        rw [e, hp] at z
        exact (nomatch z), (L.ats k hk).2.1⟩
      refine ⟨_, rfl, D, od, rfl, .inl ⟨_, upd_same, for_it walk_keys (fun i σ H' => ∃ (ps : List V) (u v w x : Option V), σ = [some (.ref a), some (.ref D), u, some (.ref p), v, w, x, none] ∧ (∀ b o, b ≠ p → b ≠ D → H1 b = some o → H' b = some o) ∧ H' D = some (.frz od (.dK (kvsOf ks adr))) ∧
        H' p = some (.lst ps) ∧ ps.length = M05.sumN (rows ns) (ks.take i)) ⟨[], _, _, _, _, rfl, fun b o n1 n2 e => by rw [upd_ne n2, upd_ne n1]; exact e, upd_same, by rw [upd_ne pD]; exact upd_same, rfl⟩ (fun i σ H' _ z => (let ⟨_, _, _, _, _, _, _, z, _⟩ := z; z)) ?_ ?_⟩⟩
      · rintro i x σ H2 H3 hi ⟨ps, u2, v2, w2, x2, rfl, B2, hD2, hp2, hl2⟩ ⟨rfl, ky, vy, hky, rfl⟩
        obtain ⟨kk, hkk, rfl, rfl⟩ : ∃ kk : Nat, ks[i]? = some kk ∧ ky = Sum.inl (kk : Int) ∧ vy = V.ref (adr kk) := by
          unfold kvsOf at hky
          rw [List.getElem?_map] at hky
          cases z : ks[i]? with
          | none => rw [z] at hky; cases hky
          | some n => rw [z] at hky; cases hky; exact ⟨n, rfl, rfl, rfl⟩
        have hmem : kk ∈ ks := List.mem_of_getElem? hkk
        have hsum : M05.sumN (rows ns) (ks.take (i + 1)) = M05.sumN (rows ns) (ks.take i) + rows ns kk := sumN_next _ hkk
        have hpre : M05.sumN (rows ns) (ks.take i) + rows ns kk ≤ 1050 * 1050 := by
          rw [← hsum]
          exact Nat.le_trans (sumN_take _ _ _) (by rw [hrp]; exact hpl)
        have hak : H3 (adr kk) = some (.lst (natsV (lot ns kk))) := B2 _ _ (adp _ hmem).1 (adp _ hmem).2 (L.ats _ hmem).2.2
        refine ⟨_, rfl, D, rfl, .inl ⟨_, .inr ⟨od, hD2⟩⟩, _, rfl, _, _, rfl, rfl, Nat.zero_le _, fun m0 hm0 => ?_⟩
        have S3 := same_new (o := .lst []) hm0
        have get : ∃ m : Addr, (valV (kvsOf ks adr) (Sum.inl ((kk : Int) + 1))).getD (.ref m0) = .ref m ∧ upd H3 m0 (.lst []) m = some (.lst (natsV (lot ns (kk + 1)))) ∧ m ≠ p ∧ m ≠ D := by
          have e1 : valV (kvsOf ks adr) (Sum.inl ((kk : Int) + 1)) = valV (kvsOf ks adr) (Sum.inl (((kk + 1 : Nat)) : Int)) := rfl
          rw [e1, val_kvs]
          by_cases c : kk + 1 ∈ ks
          · rw [if_pos c]
            exact ⟨adr (kk + 1), rfl, S3 _ _ (B2 _ _ (adp _ c).1 (adp _ c).2 (L.ats _ c).2.2), (adp _ c).1, (adp _ c).2⟩
          · rw [if_neg c]
            refine ⟨m0, rfl, ?_, fun e => by rw [e, hp2] at hm0; exact (nomatch hm0), fun e => by rw [e, hD2] at hm0; exact (nomatch hm0)⟩
            rw [upd_same]
            have l0 : lot ns (kk + 1) = [] := by
              unfold lot
              rw [List.filter_eq_nil_iff]
              intro x hx c2
              exact c ((of_decide_eq_true c2) ▸ L.all x hx)
            rw [l0]
            rfl
        obtain ⟨m, hmv, hmH, mp, mD⟩ := get
        refine ⟨_, .inl ⟨kvsOf ks adr, Sum.inl ((kk : Int) + 1), .inr ⟨od, S3 _ _ hD2⟩, rfl, rfl⟩, ?_⟩
        rw [hmv]
        have nlot : ∀ k, (lot ns k).length ≤ ns.length := fun k => List.length_filter_le _ _
        have hget : DGet (upd H3 m0 (.lst [])) D (V.int (kk : Int)) (some (.ref (adr kk))) := by
          have e : valV (kvsOf ks adr) (Sum.inl (kk : Int)) = some (.ref (adr kk)) := by rw [val_kvs, if_pos hmem]
          exact .inl ⟨kvsOf ks adr, Sum.inl (kk : Int), .inr ⟨od, S3 _ _ hD2⟩, rfl, e.symm⟩
        refine ⟨_, rfl, _, rfl, D, .ref (adr kk), rfl, hget, adr kk, rfl, ⟨_, SqL.of (S3 _ _ hak)⟩, for_list (xs := natsV (lot ns kk)) (fun j σ H' => ∃ (ps : List V) (x : Option V), σ = [some (.ref a), some (.ref D), u2, some (.ref p), some (.int (kk : Int)), some (.ref m), x, none] ∧ (∀ b o, b ≠ p → upd H3 m0 (.lst []) b = some o → H' b = some o) ∧
          H' p = some (.lst ps) ∧ ps.length = M05.sumN (rows ns) (ks.take i) + M05.sumN (row ns kk) ((lot ns kk).take j)) ⟨ps, _, rfl, fun b o _ e => e, S3 _ _ hp2, hl2⟩ (fun j σ H' _ z => ?_) ?_ ?_⟩
        · obtain ⟨ps, x, _, z, _⟩ := z
          exact SqL.of (z _ _ (adp _ hmem).1 (S3 _ _ hak))
        · rintro j x σ H4 hx ⟨ps4, x4, rfl, B4, hp4, hl4⟩
          obtain ⟨n1, hn1, rfl, pc1⟩ := hatl _ _ _ hx
          have hmH4 := B4 _ _ mp hmH
          have hsum4 : M05.sumN (row ns kk) ((lot ns kk).take (j + 1)) = M05.sumN (row ns kk) ((lot ns kk).take j) + row ns kk n1 := sumN_next _ hn1
          have hpre4 : M05.sumN (row ns kk) ((lot ns kk).take (j + 1)) ≤ rows ns kk := sumN_take _ _ _
          refine ⟨_, rfl, .inl ⟨rfl, _, SqL.of hp4⟩, _, rfl, m, rfl, ⟨_, SqL.of hmH4⟩, fun Dl hDl => ?_⟩
          refine lc_list (xs := natsV (lot ns (kk + 1))) (fun c H' => Same H4 H' ∧ ∃ acc, H' Dl = some (.lst acc) ∧ acc.length = ((lot ns (kk + 1)).take c).countP (M05.near n1)) ⟨same_new hDl, [], upd_same, rfl⟩ (fun c H' _ z => SqL.of (z.1 _ _ hmH4)) ?_ ?_
          · rintro c y H5 hy ⟨S5, acc, hacc, hal⟩
            obtain ⟨n2, hn2, rfl, pc2⟩ := hatl _ _ _ hy
            have etk : (lot ns (kk + 1)).take (c + 1) = (lot ns (kk + 1)).take c ++ [n2] := by rw [List.take_add_one, hn2]; rfl
            refine ⟨rfl, ?_⟩
            have hne : n1 ^^^ n2 ≠ 0 := fun z => by
              have z2 := Nat.xor_assoc n1 n1 n2
              rw [Nat.xor_self, Nat.zero_xor, z, Nat.xor_zero] at z2
              rw [z2, pc1] at pc2
              omega
            refine ⟨_, rfl, _, rfl, _, _, rfl, rfl, n1 ^^^ n2, ?_, hne, fun b hb => ⟨b, rfl, ?_⟩⟩
            · show [V.int (Builtin.bitXor (n1 : Int) (n2 : Int))] = _
              rw [xor_nat]
            have hbn : b = M05.near n1 n2 := by
              rw [Bool.eq_iff_iff, hb, M05.near_iff]
            have hca : acc.length ≤ 1050 := by
              rw [hal]
              have h1 := List.countP_le_length (p := M05.near n1) (l := (lot ns (kk + 1)).take c)
              rw [List.length_take] at h1
              have h2 := nlot (kk + 1)
              omega
            refine iteB (fun cb => ?_) (fun cb => ?_)
            · refine ⟨_, rfl, _, rfl, by show 2 ≤ sizeLine; decide, fun t ht => ?_⟩
              have nDt : Dl ≠ t := ne_of_none hacc ht
              refine ⟨acc, by rw [upd_ne nDt]; exact hacc, by rw [sizeLine_eq]; omega, fun q o e => ?_, _, upd_same, ?_⟩
              · rw [upd_ne (ne_of_none e hDl), upd_ne (ne_of_none (S5 _ _ e) ht)]
                exact S5 _ _ e
              · rw [etk, List.countP_append, List.length_append, hal, List.countP_cons, ← hbn, cb]
                rfl
            · refine ⟨S5, acc, hacc, ?_⟩
              rw [etk, List.countP_append, hal, List.countP_cons, ← hbn, cb]
              rfl
          · rintro H5 ⟨S5, acc, hacc, hal⟩
            have hfl : (natsV (lot ns (kk + 1))).length = (lot ns (kk + 1)).length := List.length_map ..
            rw [hfl, List.take_length] at hal
            have pDl : p ≠ Dl := ne_of_none hp4 hDl
            have hr1 : row ns kk n1 = acc.length := hal.symm
            refine ⟨p, Dl, ps4, acc, rfl, rfl, S5 _ _ hp4, hacc, by rw [sizeLine_eq]; omega, ps4 ++ acc, _, rfl, fun b o n e => ?_, upd_same, ?_⟩
            · rw [upd_ne n]
              exact S5 _ _ (B4 _ _ n e)
            · rw [List.length_append]
              omega
        · rintro σ H4 ⟨ps4, x4, rfl, B4, hp4, hl4⟩
          have hfl : (natsV (lot ns kk)).length = (lot ns kk).length := List.length_map ..
          rw [hfl, List.take_length] at hl4
          refine ⟨ps4, _, _, _, _, rfl, fun b o n1 n2 e => B4 _ _ n1 (S3 _ _ (B2 _ _ n1 n2 e)), B4 _ _ (Ne.symm pD) (S3 _ _ hD2), hp4, ?_⟩
          rw [hl4, hsum]
          rfl
      · rintro σ H2 ⟨ps, u2, v2, w2, x2, rfl, B2, hD2, hp2, hl2⟩
        rw [hkl, List.take_length, hrp] at hl2
        refine ⟨hD2, _, rfl, k p ps _ (fun b o e => ?_) ?_ hl2⟩
        · have bD : b ≠ D := ne_of_none e hD
          have h1 := L.same _ _ e
          have bp : b ≠ p := ne_of_none h1 hp
          rw [upd_ne bD]
          exact B2 _ _ bp bD h1
        · rw [upd_ne pD]
          exact hp2
/-- the pairs among unlike words, or what is refused -/
def spAmong (K : PySem.W.Frag) (CW CM : Addr) : Sp := fun vs H Q E => ∃ x : V, vs = [x] ∧ ((NoLot K H x (some 0) none ∧ ∀ H', Same H H' → RaisesP CW "words" E H') ∨
  (∃ ns : List Nat, IsLot K H x (some 0) none (ns.map fun (n : Nat) => (n : Int)) ∧ ((1024 < ns.length ∧ ∀ H', Same H H' → Raises2 CM "what" "most" (.str "words") (.int 1024) E H') ∨
    (ns.length ≤ 1024 ∧ (∀ n ∈ ns, n < 2 ^ 1000) ∧ ∀ H', Same H H' → Q (.int (M05.prs ns)) H'))))
theorem sc_pairs_among : FnScope ["words"] ["words"] (defScope s_pairs_among) := ⟨rfl, rfl, rfl, by decide +kernel, rfl, by decide +kernel, by decide +kernel⟩
theorem ok_pairs_among {f f1 f2 CW CM : Addr} {fd fd1 fd2 : FuncData} (F : Fun K "pairs_among" "pairs_among" s_pairs_among f fd) (T : Blt mg) (D__need_words : Df K mg "_need_words" s__need_words ["words"] f1 fd1) (G__need_words : FnOk P w K mg base (L2.CX P w) 6 f1 fd1 ["words"] (spNeedWords K CW CM))
    (D__pairs_of : Df K mg "_pairs_of" s__pairs_of ["words"] f2 fd2) (G__pairs_of : FnOk P w K mg base (L2.CX P w) 6 f2 fd2 ["words"] (spPairsOf K)) : FnOk P w K mg base (L2.CX P w) 7 f fd ["words"] (spAmong K CW CM) := by
  refine F.okX sc_pairs_among (fun vs H Q E h => ?_) (fun cdv A outer s H vs Q E hr h => ?_)
  · obtain ⟨x, rfl, _⟩ := h
    rfl
  · obtain ⟨x, rfl, h⟩ := h
    refine ⟨_, (pss_cons (ps_expr (pe_callS G__need_words (hr.mono (by decide)) (by rfl) D__need_words.g D__need_words.F.kp D__need_words.b (fun σ => passAt (takes_of rfl rfl rfl rfl) σ) (pa_cons (pv 0) pa_nil)))
  (pss_one (ps_ret (pe_callB call_len_seq (by rfl) T.n_len (by decide +kernel) (pa_cons (pe_callS G__pairs_of (hr.mono (by decide)) (by rfl) D__pairs_of.g D__pairs_of.F.kp D__pairs_of.b (fun σ => passAt (takes_of rfl rfl rfl rfl) σ) (pa_cons (pv 0) pa_nil)) pa_nil))))), ?_⟩
    rcases h with ⟨hn, k⟩ | ⟨ns, hl, k⟩
    · exact ⟨_, rfl, x, rfl, .inl ⟨hn, k⟩⟩
    · refine ⟨_, rfl, x, rfl, .inr ⟨_, hl, ?_⟩⟩
      rcases k with ⟨hm, k⟩ | ⟨hm, hs, k⟩
      · exact .inl ⟨by rw [List.length_map]; exact hm, k⟩
      · refine .inr ⟨by rw [List.length_map]; exact hm, fun H1 S1 => ?_⟩
        obtain ⟨a, rfl, hq, _⟩ := hl
        have e : (ns.map fun (n : Nat) => (n : Int)).map V.int = natsV ns := by
          unfold natsV
          rw [List.map_map]
          rfl
        rw [e] at hq
        have hq1 : SqL K H1 a (natsV ns) ∨ SqT K H1 a (natsV ns) := hq.elim (fun z => .inl (sqL_same z S1)) fun z => .inr (sqT_same z S1)
        refine ⟨_, rfl, a, ns, rfl, hq1, by omega, hs, fun q ps H2 S2 hp hpl => ?_⟩
        refine ⟨q, ps, rfl, .inl (SqL.of hp), ?_⟩
        rw [hpl]
        exact k H2 (S1.trans S2)
end
end K05
namespace K05
open PySem PySem.Spec PyProof.Rows L2 OB SkE
section
variable {P : Program} {w : World} {K : PySem.W.Frag} {mg : Str → Option Value} {base : Heap}
theorem cut60 (ns : List Int) : cutV (ns.map V.int) none (some 60) = (ns.take 60).map V.int := by
  unfold cutV
  have a : HT.sIx (ns.map V.int).length 0 none = 0 := rfl
  rw [a, List.drop_zero, Nat.sub_zero, List.map_take]
  have e : HT.sIx (ns.map V.int).length (ns.map V.int).length (some 60) = min 60 (ns.map V.int).length := HT.sIx_nat _ _ 60
  rw [e]
  by_cases h : (ns.map V.int).length ≤ 60
  · rw [Nat.min_eq_right h, List.take_length, List.take_of_length_le h]
  · rw [Nat.min_eq_left (by omega)]
theorem take_more {α : Type} {l : List α} {i : Nat} {x : α} (h : l[i]? = some x) : l.take (i + 1) = l.take i ++ [x] := by
  rw [List.take_add_one, h]
  rfl
theorem sc__law_hive : FnScope ["script", "cell"] ["script"] (defScope s__law_hive) := ⟨rfl, rfl, rfl, by decide +kernel, rfl, by decide +kernel, by decide +kernel⟩
abbrev N__law_hive : List Str := ["script", "cell"]
theorem ok__law_hive {f : Addr} {fd : FuncData} (F : Fun K "_law_hive" "_law_hive" s__law_hive f fd) (T : Blt mg) : FnOk P w K mg base CX0 1 f fd ["script"] (spLot K) := by
  refine F.ok sc__law_hive (fun vs H Q E h => ?_) (fun cdv A outer s H vs Q E hr h => ?_)
  · obtain ⟨a, ns, rfl, _⟩ := h
    rfl
  · obtain ⟨a, ns, rfl, hS, hl, k⟩ := h
    refine ⟨_, (pss_one (ps_ret (pe_lst (pa_cons (pe_lc (own := [("cell", 1)]) (g := (gName 1)) (tt := tYes) rfl sc__law_hive.nd (pi_list (pe_slice sl_list (pv 0) po_none (po_some pe_int))) (blkOk_by (N := N__law_hive) (own := [("cell", 1)]) (sc := defScope s__law_hive) (by decide +kernel)) (fun _ _ _ _ _ => (pg_name (i := 1) sc__law_hive.nd rfl (Or.inl rfl))) (fun _ _ _ _ _ => pts_nil) (fun _ _ _ _ _ => (pe_callTy call_int1 (by rfl) T.n_int (by decide +kernel) (pa_cons (pv 1) pa_nil)))) (pa_cons pe_int (pa_cons pe_int pa_nil)))))), ?_⟩
    refine ⟨_, rfl, _, rfl, a, _, rfl, hS, fun c hc => ?_⟩
    have e1 : cutV (ns.map V.int) none (some 60) = (ns.take 60).map V.int := cut60 ns
    rw [e1]
    have S0 : Same H (upd H c (.lst ((ns.take 60).map V.int))) := same_new hc
    refine ⟨c, rfl, ⟨_, .inl (.inl upd_same)⟩, fun b hb => ?_⟩
    have ncb : c ≠ b := ne_of_none upd_same hb
    refine lc_list (K := K) (a := c) (xs := (ns.take 60).map V.int) (fun i H' => Same (upd H c (.lst ((ns.take 60).map V.int))) H' ∧ H' b = some (.lst (((ns.take 60).map V.int).take i)))
      ⟨same_new hb, upd_same⟩ (fun i H' _ h => h.1.seq (.inl (.inl upd_same))) ?_ ?_
    · rintro i y H' hy ⟨S1, h1⟩
      obtain ⟨z, hz, rfl⟩ : ∃ z, (ns.take 60)[i]? = some z ∧ y = V.int z := by
        rw [List.getElem?_map] at hy
        cases e : (ns.take 60)[i]? with
        | none => rw [e] at hy; cases hy
        | some z => rw [e] at hy; exact ⟨z, rfl, (Option.some.inj hy).symm⟩
      refine ⟨rfl, _, rfl, .inl ⟨_, rfl, _, h1, ?_, ?_, ?_⟩⟩
      · refine small1000 ?_
        rw [List.length_take, List.length_map, List.length_take]
        omega
      · intro q o e
        have nb : q ≠ b := ne_of_none e hb
        rw [upd_ne nb]
        exact S1 q o e
      · rw [upd_same, ← List.map_take, ← List.map_take, take_more hz, List.map_append]
        rfl
    · rintro H' ⟨S1, h1⟩
      rw [List.take_length] at h1
      refine ⟨(by show 3 ≤ sizeLine; decide), fun p hp => ?_⟩
      have S2 : Same H H' := S0.trans S1
      have hb0 : H b = none := S0.free hb
      refine k p b _ (S2.free hp) hb0 ⟨ns.take 60, 0, 0, upd_same, ?_, Int.le_refl _, Int.le_refl _⟩ (S2.trans (same_new hp))
      rw [upd_ne (ne_of_none h1 hp)]
      exact h1
theorem sc__law_sting : FnScope ["hive", "many", "left", "turn", "cell", "mixed"] ["hive", "many"] (defScope s__law_sting) := ⟨rfl, rfl, rfl, by decide +kernel, rfl, by decide +kernel, by decide +kernel⟩
theorem ok__law_sting {f : Addr} {fd : FuncData} (F : Fun K "_law_sting" "_law_sting" s__law_sting f fd) (T : Blt mg) : FnOk P w K mg base CX0 1 f fd ["hive", "many"] spDraw := by
  refine F.ok sc__law_sting (fun vs H Q E h => ?_) (fun cdv A outer s H vs Q E hr h => ?_)
  · obtain ⟨p, b, n, many, rfl, _⟩ := h
    rfl
  · obtain ⟨p, b, n, many, rfl, O, hn, hm, hm2, k⟩ := h
    obtain ⟨ns, t, l, hp, hb, ht, htn⟩ := id O
    have npb : p ≠ b := O.ne
    refine ⟨_, (pss_cons (ps_if (pt_cmpR op_gt (pe_ix ix_list (pv 0) pe_int (fun _ _ => rfl)) pe_int (nomark _)) (pss_cons (ps_set (i := 2) sc__law_sting.nd rfl (Or.inl rfl) (pe_callTy call_int1 (by rfl) T.n_int (by decide +kernel) (pa_cons (pe_ix ix_list (pv 0) pe_int (fun _ _ => rfl)) pa_nil)))
  (pss_cons (ps_asg (pe_op op_fdivW (pv 2) (pv 1)) (pg_sub (pv 0) pe_int set_list))
  (pss_one (ps_ret (pe_op op_mod (pe_callTy call_int1 (by rfl) T.n_int (by decide +kernel) (pa_cons (pv 2) pa_nil)) (pv 1)))))) pss_nil)
  (pss_cons (ps_set (i := 3) sc__law_sting.nd rfl (Or.inl rfl) (pe_ix ix_list (pv 0) pe_int (fun _ _ => rfl)))
  (pss_cons (ps_asg (pe_op op_add (pv 3) pe_int) (pg_sub (pv 0) pe_int set_list))
  (pss_cons (ps_set (i := 4) sc__law_sting.nd rfl (Or.inl rfl) (pe_op op_add (pe_op op_mul pe_int (pv 3)) pe_int))
  (C8.pss_cut (ps_if (pt_cmpR (op_neD hr.units) (pe_ix ix_list (pv 0) pe_int (fun _ _ => rfl)) (pe_lst pa_nil) (nomark _)) (pss_one (ps_set (i := 4) sc__law_sting.nd rfl (Or.inl rfl) (pe_ix ix_list (pe_ix ix_list (pv 0) pe_int (fun _ _ => rfl)) (pe_op op_mod (pe_callTy call_int1 (by rfl) T.n_int (by decide +kernel) (pa_cons (pv 3) pa_nil)) (pe_callB call_len_seq (by rfl) T.n_len (by decide +kernel) (pa_cons (pe_ix ix_list (pv 0) pe_int (fun _ _ => rfl)) pa_nil))) (fun _ _ => rfl)))) pss_nil)
  (pss_cons (ps_if (PW.pt (pw_and (pt_cmpR op_lt (pv 3) (pe_callB call_len_seq (by rfl) T.n_len (by decide +kernel) (pa_cons (pe_ix ix_list (pv 0) pe_int (fun _ _ => rfl)) pa_nil)) (nomark _)) (pw_and1 (pt_cmpR op_ge (pe_callB call_abs (by rfl) T.n_abs (by decide +kernel) (pa_cons (pv 4) pa_nil)) (pe_op op_pow pe_int pe_int) (nomark _))))) (pss_cons (ps_set (i := 2) sc__law_sting.nd rfl (Or.inl rfl) (pe_op op_add (pe_op op_mul pe_int (pe_op op_sub (pe_callB call_abs (by rfl) T.n_abs (by decide +kernel) (pa_cons (pe_callTy call_int1 (by rfl) T.n_int (by decide +kernel) (pa_cons (pv 4) pa_nil)) pa_nil)) (pe_op op_pow pe_int pe_int))) (pe_callTy call_int1 (by rfl) T.n_int (by decide +kernel) (pa_cons (pe_cmpR op_lt (pv 4) pe_int (nomark _)) pa_nil))))
  (pss_cons (ps_asg (pe_op op_fdivW (pv 2) (pv 1)) (pg_sub (pv 0) pe_int set_list))
  (pss_one (ps_ret (pe_op op_mod (pe_callTy call_int1 (by rfl) T.n_int (by decide +kernel) (pa_cons (pv 2) pa_nil)) (pv 1)))))) pss_nil)
  (pss_cons (ps_set (i := 5) sc__law_sting.nd rfl (Or.inl rfl) (pe_op op_mod (pe_callTy call_int1 (by rfl) T.n_int (by decide +kernel) (pa_cons (pe_op op_pow (pe_op op_add (pe_op op_add (pe_op op_mod (pe_callTy call_int1 (by rfl) T.n_int (by decide +kernel) (pa_cons (pv 4) pa_nil)) pe_int) (pe_op op_mul pe_int (pv 3))) pe_int) pe_int) pa_nil)) pe_int))
  (pss_cons (ps_set (i := 5) sc__law_sting.nd rfl (Or.inl rfl) (pe_op op_mod (pe_callTy call_int1 (by rfl) T.n_int (by decide +kernel) (pa_cons (pe_op op_pow (pe_op op_add (pe_op op_add (pe_op op_mul (pv 5) (pe_op op_add (pe_op op_mul pe_int (pv 3)) pe_int)) (pe_op op_mul (pe_op op_mul pe_int (pv 3)) (pv 3))) pe_int) pe_int) pa_nil)) pe_int))
  (pss_one (ps_ret (pe_op op_mod (pe_callTy call_int1 (by rfl) T.n_int (by decide +kernel) (pa_cons (pe_op op_fdiv (pv 5) pe_int) pa_nil)) (pv 1)))))))))))), ?_⟩
    -- quay[2] > 0
    refine ⟨_, rfl, p, _, _, _, rfl, rfl, SqL.of hp, rfl, _, _, rfl, rfl, _, rfl, ?_⟩
    refine ite2 (fun c => ?_) (fun c => ?_)
    · -- left = int(quay[2]); quay[2] = left // many; return int(left) % many
      refine ⟨_, rfl, p, _, _, _, rfl, rfl, SqL.of hp, rfl, .inl ⟨_, rfl, ?_⟩⟩
      refine ⟨_, rfl, _, rfl, _, _, rfl, rfl, wide_div hm hm2 (by decide) (by decide), _, rfl, p, _, _, _, rfl, rfl, hp, rfl, ?_⟩
      refine ⟨_, rfl, .inl ⟨_, rfl, _, rfl, _, _, rfl, rfl, hm, ?_⟩⟩
      refine k _ _ (Int.emod_nonneg _ (by omega)) (Int.emod_lt_of_pos _ hm) ⟨ns, t, _, upd_same, ?_, ht, by omega⟩ but_at
      rw [upd_ne npb.symm]
      exact hb
    · -- turn = quay[1]; quay[1] = turn + 1; cell = A * turn + B
      refine ⟨_, rfl, p, _, _, _, rfl, rfl, SqL.of hp, rfl, ?_⟩
      refine ⟨_, rfl, _, _, rfl, rfl, _, rfl, p, _, _, _, rfl, rfl, hp, rfl, ?_⟩
      refine ⟨_, rfl, _, _, rfl, rfl, .inl ⟨by decide, by decide⟩, _, _, rfl, rfl, ?_⟩
      -- quay[0] != []
      refine ⟨fun σ' H' => ∃ c0 : Int, σ' = [some (.ref p), some (.int many), none, some (.int t), some (.int c0), none] ∧ H' p = some (.lst [.ref b, .int (t + 1), .int l]) ∧ H' b = some (.lst (ns.map V.int)) ∧ But p H H', ?_, ?_⟩
      rotate_left
      · rintro σ' H' ⟨c0, rfl, hp2, hb2, S2⟩
        have ht2 : t ≤ 1000000 := by omega
        have fin : ∀ r : Int, 0 ≤ r → r < many → Q (.int r) H' := fun r h1 h2 => k r H' h1 h2 ⟨ns, t + 1, l, hp2, hb2, by omega, by omega⟩ S2
        have end_ : ∀ x : Int, Q (.int (x % many)) H' := fun x => fin _ (Int.emod_nonneg _ (by omega)) (Int.emod_lt_of_pos _ hm)
        refine ⟨_, rfl, _, rfl, p, _, _, _, rfl, rfl, SqL.of hp2, rfl, b, _, rfl, .inl (SqL.of hb2), _, _, rfl, rfl, _, rfl, ?_⟩
        refine ite2 (fun c1 => ?_) (fun c1 => ?_)
        · refine ⟨_, rfl, _, rfl, _, _, rfl, rfl, ⟨by decide, by decide, by decide⟩, _, _, rfl, rfl, _, rfl, ?_⟩
          refine ite2 (fun c2 => ?_) (fun c2 => ?_)
          · refine ⟨_, rfl, .inl ⟨_, rfl, _, rfl, _, _, rfl, rfl, ⟨by decide, by decide, by decide⟩, _, _, rfl, rfl, _, _, rfl, rfl, .inl ⟨by decide, by decide⟩, ?_⟩⟩
            refine ⟨_, rfl, _, _, rfl, rfl, .inr ⟨_, rfl, _, _, rfl, rfl, ?_⟩⟩
            refine ⟨_, rfl, _, rfl, _, _, rfl, rfl, wide_div hm hm2 (by decide) (by decide), _, rfl, p, _, _, _, rfl, rfl, hp2, rfl, ?_⟩
            refine ⟨_, rfl, .inl ⟨_, rfl, _, rfl, _, _, rfl, rfl, hm, ?_⟩⟩
            refine k _ _ (Int.emod_nonneg _ (by omega)) (Int.emod_lt_of_pos _ hm) ⟨ns, t + 1, _, upd_same, ?_, by omega, by omega⟩ (S2.trans but_at)
            rw [upd_ne npb.symm]
            exact hb2
          · refine ⟨_, rfl, .inl ⟨_, rfl, _, _, rfl, rfl, (by show (0 : Int) < _; decide), _, rfl, _, _, rfl, rfl, .inl ⟨by decide, by decide⟩, _, _, rfl, rfl, _, _, rfl, rfl, _, _, rfl, rfl, ⟨by decide, by decide, mix1 (by decide) (by decide) ht ht2 (by decide) (by decide) (by decide) (by decide)⟩, .inl ⟨_, rfl, _, _, rfl, rfl, (by show (0 : Int) < _; decide), ?_⟩⟩⟩
            refine ⟨_, rfl, _, rfl, _, _, rfl, rfl, .inl ⟨by decide, by decide⟩, _, _, rfl, rfl, _, _, rfl, rfl, .inl (mod_lim (by decide) (by decide)), _, rfl, _, _, rfl, rfl, .inl ⟨by decide, by decide⟩, _, rfl, _, _, rfl, rfl, .inr ⟨by omega, by omega⟩, _, _, rfl, rfl, _, _, rfl, rfl, _, _, rfl, rfl,
              ⟨by decide, by decide, mix2 (by decide) (by decide) ht ht2 (by decide) (by decide) (by decide) (by decide) (by decide) (by decide)⟩, .inl ⟨_, rfl, _, _, rfl, rfl, (by show (0 : Int) < _; decide), ?_⟩⟩
            exact ⟨_, rfl, _, _, rfl, rfl, ⟨by decide, by decide⟩, .inl ⟨_, rfl, _, rfl, _, _, rfl, rfl, hm, end_ _⟩⟩
        · refine ⟨_, rfl, .inl ⟨_, rfl, _, _, rfl, rfl, (by show (0 : Int) < _; decide), _, rfl, _, _, rfl, rfl, .inl ⟨by decide, by decide⟩, _, _, rfl, rfl, _, _, rfl, rfl, _, _, rfl, rfl, ⟨by decide, by decide, mix1 (by decide) (by decide) ht ht2 (by decide) (by decide) (by decide) (by decide)⟩, .inl ⟨_, rfl, _, _, rfl, rfl, (by show (0 : Int) < _; decide), ?_⟩⟩⟩
          refine ⟨_, rfl, _, rfl, _, _, rfl, rfl, .inl ⟨by decide, by decide⟩, _, _, rfl, rfl, _, _, rfl, rfl, .inl (mod_lim (by decide) (by decide)), _, rfl, _, _, rfl, rfl, .inl ⟨by decide, by decide⟩, _, rfl, _, _, rfl, rfl, .inr ⟨by omega, by omega⟩, _, _, rfl, rfl, _, _, rfl, rfl, _, _, rfl, rfl,
            ⟨by decide, by decide, mix2 (by decide) (by decide) ht ht2 (by decide) (by decide) (by decide) (by decide) (by decide) (by decide)⟩, .inl ⟨_, rfl, _, _, rfl, rfl, (by show (0 : Int) < _; decide), ?_⟩⟩
          exact ⟨_, rfl, _, _, rfl, rfl, ⟨by decide, by decide⟩, .inl ⟨_, rfl, _, rfl, _, _, rfl, rfl, hm, end_ _⟩⟩
      refine ⟨_, rfl, p, _, _, _, rfl, rfl, SqL.of upd_same, rfl, Nat.zero_le _, fun l0 hl0 => ?_⟩
      have hp1 : (upd (upd H p (.lst [.ref b, .int (t + 1), .int l])) l0 (.lst [])) p = some (.lst [.ref b, .int (t + 1), .int l]) := by
        rw [upd_ne (ne_of_none upd_same hl0), upd_same]
      have hb1 : (upd (upd H p (.lst [.ref b, .int (t + 1), .int l])) l0 (.lst [])) b = some (.lst (ns.map V.int)) := by
        have e : (upd H p (.lst [.ref b, .int (t + 1), .int l])) b = some (.lst (ns.map V.int)) := by
          rw [upd_ne npb.symm]
          exact hb
        rw [upd_ne (ne_of_none e hl0)]
        exact e
      have S1 : But p H (upd (upd H p (.lst [.ref b, .int (t + 1), .int l])) l0 (.lst [])) := but_at.trans (But.of (same_new hl0))
      refine ⟨.list (ns.map PyData.int), .list [], Dp.lst (SqL.of hb1) (dp_ints ns), Dp.lst (SqL.of upd_same) .nil, shaped_ints ns, shaped_ints [], _, rfl, ?_⟩
      rw [eqv_nil]
      refine ite2 (fun c => ?_) (fun c => ?_)
      · have c : ns ≠ [] := by simpa using c
        have hl : 0 < ns.length := List.length_pos_iff.mpr c
        have hl2 : (0 : Int) < ((ns.map V.int).length : Nat) := by
          rw [List.length_map]
          omega
        have h1 := Int.emod_nonneg t (show (((ns.map V.int).length : Nat) : Int) ≠ 0 by omega)
        have h2 := Int.emod_lt_of_pos t hl2
        obtain ⟨j, hj⟩ : ∃ j : Nat, t % (((ns.map V.int).length : Nat) : Int) = (j : Int) := ⟨_, (Int.toNat_of_nonneg h1).symm⟩
        have hj2 : j < ns.length := by
          rw [List.length_map] at hj h2
          omega
        have hx : (ns.map V.int)[j]? = some (V.int ns[j]) := by
          rw [List.getElem?_map, List.getElem?_eq_getElem hj2]
          rfl
        refine ⟨_, rfl, p, _, _, _, rfl, rfl, SqL.of hp1, rfl, ?_⟩
        refine ⟨_, rfl, .inl ⟨_, rfl, _, rfl, p, _, _, _, rfl, rfl, SqL.of hp1, rfl, b, _, rfl, .inl (SqL.of hb1), _, _, rfl, rfl, hl2, ?_⟩⟩
        exact ⟨b, _, _, V.int ns[j], rfl, rfl, SqL.of hb1, at_of hj hx, ns[j], rfl, hp1, hb1, S1⟩
      · exact ⟨_, rfl, hp1, hb1, S1⟩
end
end K05
namespace K05
open PySem PySem.Spec PyProof.Rows L2 OB SkE
/-- one of some things, drawn -/
def spOne : Sp := fun vs H Q _ => ∃ (p b l : Addr) (n : Nat) (xs : List V), vs = [.ref p, .ref l] ∧ Orch H p b n ∧ n < 1000000 ∧ H l = some (.lst xs) ∧ l ≠ p ∧ 0 < xs.length ∧ xs.length ≤ 1000 ∧
  ∀ (j : Nat) (x : V) (H' : Hp), xs[j]? = some x → Orch H' p b (n + 1) → But p H H' → Q x H'
/-- some numbers in a drawn order, in a new list -/
def spStir : Sp := fun vs H Q _ => ∃ (p b l : Addr) (n : Nat) (ns : List Int), vs = [.ref p, .ref l] ∧ Orch H p b n ∧ n + 20 < 1000000 ∧ H l = some (.lst (ns.map V.int)) ∧ l ≠ p ∧ ns.length ≤ 20 ∧
  ∀ (q : Addr) (ns' : List Int) (H' : Hp), ns'.Perm ns → H q = none → H' q = some (.lst (ns'.map V.int)) → Orch H' p b (n + 20) → But p H H' → Q (.ref q) H'
theorem small_of {a b : Nat} (h : a ≤ 1000) (e : b ≤ a) : b ≤ sizeLine := Nat.le_of_lt (small1000 (Nat.le_trans e h))
theorem map_erase : ∀ (as : List Int) (j : Nat), (as.map V.int).eraseIdx j = (as.eraseIdx j).map V.int
  | [], _ => rfl
  | _ :: _, 0 => rfl
  | a :: r, j + 1 => by
    show V.int a :: (r.map V.int).eraseIdx j = V.int a :: (r.eraseIdx j).map V.int
    rw [map_erase r j]
theorem perm_erase : ∀ (as : List Int) (j : Nat) (hj : j < as.length), (as[j] :: as.eraseIdx j).Perm as
  | a :: r, 0, _ => List.Perm.refl _
  | a :: r, j + 1, hj => (List.Perm.swap a (r[j]'(Nat.lt_of_succ_lt_succ hj)) (r.eraseIdx j)).trans ((perm_erase r j (Nat.lt_of_succ_lt_succ hj)).cons a)
section
variable {P : Program} {w : World} {K : PySem.W.Frag} {mg : Str → Option Value} {base : Heap}
theorem sc__law_one : FnScope ["hive", "some"] ["hive", "some"] (defScope s__law_one) := ⟨rfl, rfl, rfl, by decide +kernel, rfl, by decide +kernel, by decide +kernel⟩
theorem ok__law_one {f f1 : Addr} {fd fd1 : FuncData} (F : Fun K "_law_one" "_law_one" s__law_one f fd) (T : Blt mg) (D__law_sting : Df K mg "_law_sting" s__law_sting ["hive", "many"] f1 fd1) : FnOk P w K mg base CX0 2 f fd ["hive", "some"] spOne := by
  have G__law_sting : FnOk P w K mg base CX0 1 f1 fd1 ["hive", "many"] spDraw := ok__law_sting D__law_sting.F T
  refine F.ok sc__law_one (fun vs H Q E h => ?_) (fun cdv A outer s H vs Q E hr h => ?_)
  · obtain ⟨p, b, l, n, xs, rfl, _⟩ := h
    rfl
  · obtain ⟨p, b, l, n, xs, rfl, O, hn, hl, nlp, h0, h1, k⟩ := h
    refine ⟨_, (pss_one (ps_ret (pe_ix ix_list (pv 1) (pe_call G__law_sting (hr.mono (by decide)) (by rfl) D__law_sting.g D__law_sting.F.kp D__law_sting.b .nil pass0 (pa_cons (pv 0) (pa_cons (pe_callB call_len_seq (by rfl) T.n_len (by decide +kernel) (pa_cons (pv 1) pa_nil)) pa_nil))) (fun _ _ => rfl)))), ?_⟩
    refine ⟨_, rfl, _, rfl, _, rfl, l, xs, rfl, .inl (SqL.of hl), p, b, n, _, rfl, O, hn, by omega, ?_, fun r H' r0 r1 O' B' => ?_⟩
    · show (xs.length : Int).natAbs < 2 ^ 9000
      rw [Int.natAbs_natCast]
      exact Nat.lt_of_le_of_lt h1 (by decide)
    · obtain ⟨j, rfl⟩ := Int.eq_ofNat_of_zero_le r0
      have hj : j < xs.length := by omega
      exact ⟨l, xs, _, xs[j], rfl, rfl, SqL.of (B' l _ hl nlp), atI_nat (List.getElem?_eq_getElem hj), k j _ H' (List.getElem?_eq_getElem hj) O' B'⟩
theorem sc__law_mixed : FnScope ["hive", "some", "left", "found"] ["hive", "some"] (defScope s__law_mixed) := ⟨rfl, rfl, rfl, by decide +kernel, rfl, by decide +kernel, by decide +kernel⟩
theorem ok__law_mixed {f f1 : Addr} {fd fd1 : FuncData} (F : Fun K "_law_mixed" "_law_mixed" s__law_mixed f fd) (T : Blt mg) (D__law_sting : Df K mg "_law_sting" s__law_sting ["hive", "many"] f1 fd1) : FnOk P w K mg base CX0 2 f fd ["hive", "some"] spStir := by
  have G__law_sting : FnOk P w K mg base CX0 1 f1 fd1 ["hive", "many"] spDraw := ok__law_sting D__law_sting.F T
  refine F.ok sc__law_mixed (fun vs H Q E h => ?_) (fun cdv A outer s H vs Q E hr h => ?_)
  · obtain ⟨p, b, l, n, ns, rfl, _⟩ := h
    rfl
  · obtain ⟨p, b, l, n, ns, rfl, O, hn, hl, nlp, h1, k⟩ := h
    obtain ⟨up, hup⟩ := O.pn
    obtain ⟨ub, hub⟩ := O.bn
    refine ⟨_, (pss_cons (ps_par (i := 2) (j := 3) (by rfl) sc__law_mixed.nd rfl rfl (by decide) rfl rfl (pa_cons (pe_callTy call_list_of (by rfl) T.n_list (by decide +kernel) (pa_cons (pv 1) pa_nil)) (pa_cons (pe_lst pa_nil) pa_nil)) (by rfl))
  (pss_cons (ps_while PassesOwn.never (pt_cmpR (op_neD hr.units) (pv 2) (pe_lst pa_nil) (nomark _)) (pss_one (ps_expr (pe_bm PySem.F.plainAttrs_list PySem.F.slot_list_append PySem.F.type_list_append mt_append (pv 3) (pa_cons (pe_bm PySem.F.plainAttrs_list PySem.F.slot_list_pop PySem.F.type_list_pop mt_popAt (pv 2) (pa_cons (pe_call G__law_sting (hr.mono (by decide)) (by rfl) D__law_sting.g D__law_sting.F.kp D__law_sting.b .nil pass0 (pa_cons (pv 0) (pa_cons (pe_callB call_len_seq (by rfl) T.n_len (by decide +kernel) (pa_cons (pv 2) pa_nil)) pa_nil))) pa_nil)) pa_nil)))))
  (pss_one (ps_ret (pv 3))))), ?_⟩
    refine ⟨_, rfl, l, _, rfl, .inl (SqL.of hl), fun L hL => ?_⟩
    have S1 := same_new (o := .lst (ns.map V.int)) hL
    refine ⟨Nat.zero_le _, fun g hg => ?_⟩
    have S2 := S1.trans (same_new (o := .lst []) hg)
    have nLg : L ≠ g := ne_of_none upd_same hg
    have nLp : p ≠ L := ne_of_none hup hL
    have nLb : b ≠ L := ne_of_none hub hL
    have hg0 : H g = none := S1.free hg
    have ngp : p ≠ g := ne_of_none hup hg0
    have ngb : b ≠ g := ne_of_none hub hg0
    refine ⟨_, _, rfl, ?_⟩
    refine while_by (fun σ H' => ∃ as bs : List Int, σ = [some (.ref p), some (.ref l), some (.ref L), some (.ref g)] ∧ (as ++ bs).Perm ns ∧ H' L = some (.lst (as.map V.int)) ∧ H' g = some (.lst (bs.map V.int)) ∧ Orch H' p b (n + bs.length) ∧ But p H H')
      (fun σ H' => match H' L with
        | some (.lst xs) => xs.length
        | _ => 0) ⟨ns, [], rfl, by rw [List.append_nil], ?_, upd_same, O.same S2, But.of S2⟩ ?_ ?_
    · rw [upd_ne nLg]
      exact upd_same
    · rintro σ H1 ⟨as, bs, rfl, perm, hLa, hgb, O1, B1⟩
      have hlen : as.length + bs.length = ns.length := by rw [← perm.length_eq, List.length_append]
      refine ⟨_, rfl, Nat.zero_le _, fun e he => ?_⟩
      have S3 := same_new (o := .lst []) he
      refine ⟨.list (as.map PyData.int), .list [], Dp.lst (SqL.of (S3 _ _ hLa)) (dp_ints as), Dp.lst (SqL.of upd_same) .nil, shaped_ints as, shaped_ints [], ?_⟩
      rw [eqv_nil]
      have hb : (!decide (as = [])) = decide (as ≠ []) := by by_cases z : as = [] <;> simp [z]
      refine ⟨_, rfl, ?_⟩
      refine ite2 (fun c => ?_) (fun c => ?_)
      · have c : as ≠ [] := by simpa using c
        have h0 : 0 < as.length := List.length_pos_iff.mpr c
        have O2 := O1.same S3
        have hL2 := S3 _ _ hLa
        have hg2 := S3 _ _ hgb
        have B2 : But p H (upd H1 e (.lst [])) := B1.trans (But.of S3)
        refine ⟨_, rfl, .inl ⟨rfl, _, SqL.of hg2⟩, _, rfl, .inl ⟨rfl, _, SqL.of hL2⟩, _, rfl, _, rfl, L, _, rfl, .inl (SqL.of hL2), p, b, _, _, rfl, O2, by omega, ?_, ?_, fun r H3 r0 r1 O3 B3 => ?_⟩
        · rw [List.length_map]
          omega
        · rw [List.length_map, Int.natAbs_natCast]
          exact Nat.lt_of_le_of_lt (show as.length ≤ 20 by omega) (by decide)
        rw [List.length_map] at r1
        obtain ⟨j, rfl⟩ := Int.eq_ofNat_of_zero_le r0
        have hj : j < as.length := by omega
        have hL3 := B3 _ _ hL2 nLp.symm
        have hg3 := B3 _ _ hg2 ngp.symm
        refine ⟨L, as.map V.int, (j : Int), j, V.int as[j], rfl, rfl, hL3, by omega, by omega, ?_, ?_, ?_⟩
        · rw [List.length_map]
          exact (seqIndex_of (Int.natCast_nonneg j) (by omega)).trans (by rw [Int.toNat_natCast])
        · rw [List.getElem?_map, List.getElem?_eq_getElem hj]
          rfl
        have hg4 : (upd H3 L (.lst ((as.map V.int).eraseIdx j))) g = some (.lst (bs.map V.int)) := by
          rw [upd_ne nLg.symm]
          exact hg3
        refine ⟨g, _, _, rfl, rfl, hg4, small1000 (by rw [List.length_map]; omega), ?_⟩
        have ee : (as.map V.int).eraseIdx j = (as.eraseIdx j).map V.int := map_erase as j
        have el : (as.eraseIdx j).length = as.length - 1 := List.length_eraseIdx_of_lt hj
        have hL5 : (upd (upd H3 L (.lst ((as.map V.int).eraseIdx j))) g (.lst (bs.map V.int ++ [V.int as[j]]))) L = some (.lst ((as.eraseIdx j).map V.int)) := by
          rw [upd_ne nLg, upd_same, ee]
        refine ⟨⟨as.eraseIdx j, bs ++ [as[j]], rfl, ?_, hL5, ?_, ?_, ?_⟩, ?_⟩
        · refine List.Perm.trans ?_ perm
          rw [← List.append_assoc]
          refine List.perm_append_comm.trans ?_
          show (as[j] :: (as.eraseIdx j ++ bs)).Perm _
          rw [← List.cons_append]
          exact (perm_erase as j hj).append_right bs
        · rw [upd_same, List.map_append]
          rfl
        · rw [List.length_append, List.length_singleton]
          exact O3.keep (fun u hu => by rw [upd_ne ngp, upd_ne nLp]; exact hu) fun u hu => by rw [upd_ne ngb, upd_ne nLb]; exact hu
        · intro q o e nq
          have e3 := B2.trans B3 q o e nq
          rw [upd_ne (ne_of_none e hg0), upd_ne (ne_of_none e hL)]
          exact e3
        · rw [hL5, hLa]
          show ((as.eraseIdx j).map V.int).length < (as.map V.int).length
          rw [List.length_map, List.length_map, el]
          omega
      · have c : as = [] := by simpa using c
        subst c
        exact ⟨_, rfl, k g bs _ perm hg0 (S3 _ _ hgb) ((O1.same S3).mono (by have hlen := perm.length_eq; rw [List.nil_append] at hlen; omega)) (B1.trans (But.of S3))⟩
    · rintro σ H1 Q1 Q2 hQ ⟨x, e, n0, hh⟩
      refine ⟨x, e, n0, fun a ha => ?_⟩
      obtain ⟨d1, d2, x1, x2, x3, x4, k, e1, q⟩ := hh a ha
      exact ⟨d1, d2, x1, x2, x3, x4, k, e1, hQ _ _ q⟩
end
end K05
namespace K05
open PySem PySem.Spec PyProof.Rows L2 OB SkE
/-- drawn words: unlike ones, in a new list -/
def spSome : Sp := fun vs H Q _ => ∃ (p b : Addr) (n : Nat), vs = [.ref p] ∧ Orch H p b n ∧ n + 200 < 1000000 ∧ ∀ (l : Addr) (ns : List Nat) (H' : Hp), H l = none → ns.Nodup → (∀ x ∈ ns, x < 2 ^ 1000) → ns.length ≤ 24 → H' l = some (.lst (natsV ns)) → Orch H' p b (n + 200) → But p H H' → Q (.ref l) H'
theorem inV_nat (x : Nat) (ns : List Nat) : inV (.int (x : Int)) (natsV ns) = decide (x ∈ ns) := by
  unfold inV natsV
  induction ns with
  | nil => simp
  | cons a r ih =>
    rw [List.map_cons, List.any_cons, ih]
    by_cases e : x = a
    · subst e
      have : eqV (V.int (x : Int)) (V.int (x : Int)) = true := by show ((x : Int) == (x : Int)) = true; simp
      rw [this]
      simp
    · have : eqV (V.int (a : Int)) (V.int (x : Int)) = false := by
        show ((a : Int) == (x : Int)) = false
        rw [beq_eq_false_iff_ne]
        omega
      rw [this]
      simp [e]
theorem flat_nats (ns : List Nat) : (natsV ns).all flatV = true := by
  unfold natsV
  rw [List.all_eq_true]
  intro v hv
  obtain ⟨n, _, rfl⟩ := List.mem_map.mp hv
  rfl
theorem natsV_len (ns : List Nat) : (natsV ns).length = ns.length := List.length_map ..
theorem natsV_at {ns : List Nat} {i : Nat} {x : V} (e : (natsV ns)[i]? = some x) : ∃ n : Nat, ns[i]? = some n ∧ x = V.int (n : Int) := by
  unfold natsV at e
  rw [List.getElem?_map] at e
  cases z : ns[i]? with
  | none => rw [z] at e; cases e
  | some n => rw [z] at e; exact ⟨n, rfl, (Option.some.inj e).symm⟩
section
variable {P : Program} {w : World} {K : PySem.W.Frag} {mg : Str → Option Value} {base : Heap}
theorem sc__law_some : FnScope ["hive", "few", "found", "base", "spots", "turn", "word", "spot"] ["hive"] (defScope s__law_some) := ⟨rfl, rfl, rfl, by decide +kernel, rfl, by decide +kernel, by decide +kernel⟩
abbrev N__law_some : List Str := ["hive", "few", "found", "base", "spots", "turn", "word", "spot"]
theorem ok__law_some {f f1 f2 : Addr} {fd fd1 fd2 : FuncData} (F : Fun K "_law_some" "_law_some" s__law_some f fd) (T : Blt mg) (D__law_sting : Df K mg "_law_sting" s__law_sting ["hive", "many"] f1 fd1) (D__law_one : Df K mg "_law_one" s__law_one ["hive", "some"] f2 fd2) :
    FnOk P w K mg base CX0 3 f fd ["hive"] spSome := by
  have G__law_sting : FnOk P w K mg base CX0 1 f1 fd1 ["hive", "many"] spDraw := ok__law_sting D__law_sting.F T
  have G__law_one : FnOk P w K mg base CX0 2 f2 fd2 ["hive", "some"] spOne := ok__law_one D__law_one.F T D__law_sting
  refine F.ok sc__law_some (fun vs H Q E h => ?_) (fun cdv A outer s H vs Q E hr h => ?_)
  · obtain ⟨p, b, n, rfl, _⟩ := h
    rfl
  · obtain ⟨p, b, n, rfl, O, hn, k⟩ := h
    refine ⟨_, (pss_cons (ps_par (i := 1) (j := 2) (by rfl) sc__law_some.nd rfl rfl (by decide) rfl rfl (pa_cons (pe_op op_add pe_int (pe_call G__law_sting (hr.mono (by decide)) (by rfl) D__law_sting.g D__law_sting.F.kp D__law_sting.b .nil pass0 (pa_cons (pv 0) (pa_cons pe_int pa_nil)))) (pa_cons (pe_lst pa_nil) pa_nil)) (by rfl))
  (pss_cons (ps_set (i := 3) sc__law_some.nd rfl (Or.inl rfl) (pe_call G__law_one (hr.mono (by decide)) (by rfl) D__law_one.g D__law_one.F.kp D__law_one.b .nil pass0 (pa_cons (pv 0) (pa_cons (pe_lst (pa_cons pe_int (pa_cons pe_int (pa_cons (pe_call G__law_sting (hr.mono (by decide)) (by rfl) D__law_sting.g D__law_sting.F.kp D__law_sting.b .nil pass0 (pa_cons (pv 0) (pa_cons (pe_op op_oneN pe_int pe_int) pa_nil))) pa_nil)))) pa_nil))))
  (pss_cons (ps_setLc (i := 4) (own := [("turn", 5)]) (g := (gName 5)) (tt := tYes) rfl sc__law_some.nd rfl rfl (sw_true rfl rfl rfl (by decide +kernel)) (pi_range1 (by rfl) T.n_range (pa_cons pe_int pa_nil)) (blkOk_by (N := N__law_some) (own := [("turn", 5)]) (sc := defScope s__law_some) (by decide +kernel)) (fun _ _ _ _ _ => (pg_name (i := 5) sc__law_some.nd rfl (Or.inl rfl))) (fun _ _ _ _ _ => pts_nil) (fun _ _ _ _ _ => (pe_call G__law_sting (hr.mono (by decide)) (by rfl) D__law_sting.g D__law_sting.F.kp D__law_sting.b .nil pass0 (pa_cons (pv 0) (pa_cons (pe_call G__law_one (hr.mono (by decide)) (by rfl) D__law_one.g D__law_one.F.kp D__law_one.b .nil pass0 (pa_cons (pv 0) (pa_cons (pe_lst (pa_cons pe_int (pa_cons pe_int pa_nil))) pa_nil))) pa_nil)))))
  (pss_cons (ps_for PassesOwn.never rfl (pi_range1 (by rfl) T.n_range (pa_cons (pe_call G__law_one (hr.mono (by decide)) (by rfl) D__law_one.g D__law_one.F.kp D__law_one.b .nil pass0 (pa_cons (pv 0) (pa_cons (pe_lst (pa_cons pe_int (pa_cons pe_int (pa_cons pe_int (pa_cons pe_int (pa_cons pe_int (pa_cons pe_int pa_nil))))))) pa_nil))) pa_nil)) (pg_name (i := 5) sc__law_some.nd rfl (Or.inl rfl)) (pss_cons (ps_set (i := 6) sc__law_some.nd rfl (Or.inl rfl) (pe_call G__law_sting (hr.mono (by decide)) (by rfl) D__law_sting.g D__law_sting.F.kp D__law_sting.b .nil pass0 (pa_cons (pv 0) (pa_cons (pe_op op_oneN pe_int (pv 1)) pa_nil))))
  (C8.pss_cut (ps_if (pt_cmpR op_gt (pv 3) pe_int (nomark _)) (pss_cons (ps_set (i := 6) sc__law_some.nd rfl (Or.inl rfl) (pv 3))
  (pss_one (ps_for PassesOwn.never rfl (pi_list (pv 4)) (pg_name (i := 7) sc__law_some.nd rfl (Or.inl rfl)) (pss_one (ps_if (pt_cmpR op_eq (pe_call G__law_sting (hr.mono (by decide)) (by rfl) D__law_sting.g D__law_sting.F.kp D__law_sting.b .nil pass0 (pa_cons (pv 0) (pa_cons pe_int pa_nil))) pe_int (nomark _)) (pss_one (ps_set (i := 6) sc__law_some.nd rfl (Or.inl rfl) (pe_op op_xor (pv 6) (pe_op op_oneN pe_int (pv 7))))) pss_nil))))) pss_nil)
  (pss_one (ps_if (pt_cmpR op_notIn_seq (pv 6) (pv 2) (by rfl)) (pss_one (ps_expr (pe_bm PySem.F.plainAttrs_list PySem.F.slot_list_append PySem.F.type_list_append mt_append (pv 2) (pa_cons (pv 6) pa_nil)))) pss_nil)))))
  (pss_one (ps_ret (pv 2))))))), ?_⟩
    refine ⟨_, rfl, p, b, n, 6, rfl, O, by omega, by decide, by decide, fun r1 H1 r10 r11 O1 B1 => ⟨_, _, rfl, rfl, Nat.zero_le _, fun l hl => ?_⟩⟩
    obtain ⟨fw, rfl⟩ := Int.eq_ofNat_of_zero_le r10
    obtain ⟨u1, hu1⟩ := O1.pn
    obtain ⟨v1, hv1⟩ := O1.bn
    have S1 : Same H1 (upd H1 l (.lst [])) := same_new hl
    have nlp : l ≠ p := (ne_of_none hu1 hl).symm
    have nlb : l ≠ b := (ne_of_none hv1 hl).symm
    have hl0 : H l = none := by
      cases e : H l with
      | none => rfl
      | some o => rw [B1 l o e nlp] at hl; cases hl
    have Bl : But p H (upd H1 l (.lst [])) := B1.trans (But.of S1)
    refine ⟨_, _, rfl, ?_⟩
    refine ⟨_, rfl, _, rfl, 400, rfl, rfl, by decide, p, b, _, _, rfl, O1.same S1, by omega, (by show (0 : Int) < ((2 ^ 400 : Nat) : Int); decide), pow_lt9 (by decide), fun r2 H2 r20 r21 O2 B2 => ⟨by show 3 ≤ sizeLine; decide, fun l1 hl1 => ?_⟩⟩
    obtain ⟨u2, hu2⟩ := O2.pn
    have nl1 : l1 ≠ p := (ne_of_none hu2 hl1).symm
    have S2 := same_new (o := .lst [.int 0, .int 0, .int r2]) hl1
    have hl2 := S2 _ _ (B2 _ _ (show upd H1 l (.lst []) l = some (.lst []) from upd_same) nlp)
    have B02 : But p H (upd H2 l1 (.lst [.int 0, .int 0, .int r2])) := Bl.trans (B2.trans (But.of S2))
    refine ⟨p, b, l1, n + 1 + 1, _, rfl, O2.same S2, by omega, upd_same, nl1, by show 0 < 3; decide, by show 3 ≤ 1000; decide, fun j x H3 hj O3 B3 => ?_⟩
    obtain ⟨bw, rfl, hbw⟩ : ∃ bw : Nat, x = V.int (bw : Int) ∧ bw < 2 ^ 400 := by
      match j, hj with
      | 0, e => cases e; exact ⟨0, rfl, M07.two_pos 400⟩
      | 1, e => cases e; exact ⟨0, rfl, M07.two_pos 400⟩
      | 2, e =>
        cases e
        obtain ⟨c, rfl⟩ := Int.eq_ofNat_of_zero_le r20
        exact ⟨c, rfl, Int.ofNat_lt.mp r21⟩
      | j + 3, e => cases e
    have B03 := B02.trans B3
    have hl3 := B3 _ _ hl2 nlp
    refine ⟨5, rfl, by decide, by decide, fun D hD => ?_⟩
    obtain ⟨u3, hu3⟩ := O3.pn
    obtain ⟨v3, hv3⟩ := O3.bn
    have nDp : D ≠ p := (ne_of_none hu3 hD).symm
    have nDb : D ≠ b := (ne_of_none hv3 hD).symm
    have nlD : l ≠ D := ne_of_none hl3 hD
    have hD0 : H D = none := by
      cases e : H D with
      | none => rfl
      | some o => rw [B03 D o e nDp] at hD; cases hD
    refine lc_range (n := 5) (fun i H' => Orch H' p b (n + 3 + 2 * i) ∧ But p H H' ∧ H' l = some (.lst []) ∧ ∃ sp : List Nat, (∀ x ∈ sp, x < 400) ∧ sp.length = i ∧ H' D = some (.lst (natsV sp)))
      ⟨(O3.same (same_new hD)).mono (by omega), B03.trans (But.of (same_new hD)), same_new hD _ _ hl3, [], fun x hx => (nomatch hx), rfl, upd_same⟩ ?_ ?_
    · rintro i H4 hi ⟨O4, B4, hl4, sp, hsp, hspl, hD4⟩
      refine ⟨rfl, _, rfl, _, rfl, by show 2 ≤ sizeLine; decide, fun l5 hl5 => ?_⟩
      obtain ⟨u4, hu4⟩ := O4.pn
      have nl5 : l5 ≠ p := (ne_of_none hu4 hl5).symm
      have S5 := same_new (o := .lst [.int 6, .int 400]) hl5
      refine ⟨p, b, l5, _, _, rfl, O4.same S5, by omega, upd_same, nl5, by show 0 < 2; decide, by show 2 ≤ 1000; decide, fun j x H6 hj O6 B6 => ?_⟩
      obtain ⟨d, rfl, hd, hd4⟩ : ∃ d : Nat, x = V.int (d : Int) ∧ 0 < d ∧ d ≤ 400 := by
        match j, hj with
        | 0, e => cases e; exact ⟨6, rfl, by decide, by decide⟩
        | 1, e => cases e; exact ⟨400, rfl, by decide, by decide⟩
        | j + 2, e => cases e
      have d9 : ((d : Int)).natAbs < 2 ^ 9000 := Nat.lt_of_le_of_lt (show ((d : Int)).natAbs ≤ 400 by omega) (Nat.lt_of_lt_of_le (show 400 < 2 ^ 9 by decide) (Nat.pow_le_pow_right (by decide) (by decide)))
      refine ⟨p, b, _, d, rfl, O6, by omega, by omega, d9, fun r H7 r0 r1 O7 B7 => ?_⟩
      obtain ⟨r, rfl⟩ := Int.eq_ofNat_of_zero_le r0
      have hD7 := B7 _ _ (B6 _ _ (S5 _ _ hD4) nDp) nDp
      have hl7 := B7 _ _ (B6 _ _ (S5 _ _ hl4) nlp) nlp
      refine ⟨_, hD7, by rw [natsV_len, sizeLine_eq]; omega, ?_, ?_, ?_, sp ++ [r], fun x hx => ?_, ?_, ?_⟩
      · exact (O7.keep (fun u hu => by rw [upd_ne nDp.symm]; exact hu) (fun u hu => by rw [upd_ne nDb.symm]; exact hu)).mono (by omega)
      · intro q o e nq
        rw [upd_ne (ne_of_none e hD0)]
        exact (B4.trans ((But.of S5).trans (B6.trans B7))) q o e nq
      · rw [upd_ne nlD]
        exact hl7
      · rcases List.mem_append.mp hx with e | e
        · exact hsp x e
        · rw [List.mem_singleton.mp e]
          omega
      · rw [List.length_append, hspl]
        rfl
      · rw [upd_same, natsV_snoc]
    · rintro H4 ⟨O4, B4, hl4, sp, hsp, hspl, hD4⟩
      obtain ⟨u4, hu4⟩ := O4.pn
      refine ⟨_, rfl, by show 6 ≤ sizeLine; decide, fun l6 hl6 => ?_⟩
      have nl6 : l6 ≠ p := (ne_of_none hu4 hl6).symm
      have S6 := same_new (o := .lst [.int 0, .int 1, .int 2, .int 8, .int 16, .int 24]) hl6
      refine ⟨p, b, l6, _, _, rfl, O4.same S6, by omega, upd_same, nl6, by show 0 < 6; decide, by show 6 ≤ 1000; decide, fun j x H5 hj O5 B5 => ?_⟩
      obtain ⟨c, rfl, hc⟩ : ∃ c : Nat, x = V.int (c : Int) ∧ c ≤ 24 := by
        match j, hj with
        | 0, e => cases e; exact ⟨0, rfl, by decide⟩
        | 1, e => cases e; exact ⟨1, rfl, by decide⟩
        | 2, e => cases e; exact ⟨2, rfl, by decide⟩
        | 3, e => cases e; exact ⟨8, rfl, by decide⟩
        | 4, e => cases e; exact ⟨16, rfl, by decide⟩
        | 5, e => cases e; exact ⟨24, rfl, by decide⟩
        | j + 6, e => cases e
      have hl5 := B5 _ _ (S6 _ _ hl4) nlp
      have hD5 := B5 _ _ (S6 _ _ hD4) nDp
      have B05 := B4.trans ((But.of S6).trans B5)
      have big : 2 ^ 400 < 2 ^ 1000 := by decide
      refine ⟨_, rfl, by omega, by omega, ?_⟩
      rw [Int.toNat_natCast]
      refine for_range (n := c) (fun i σ H' => Orch H' p b (n + 14 + 6 * i) ∧ But p H H' ∧ H' D = some (.lst (natsV sp)) ∧ ∃ (ns : List Nat) (u w x : Option V), ns.Nodup ∧ (∀ x ∈ ns, x < 2 ^ 1000) ∧ ns.length ≤ i ∧ H' l = some (.lst (natsV ns)) ∧
          σ = [some (.ref p), some (.int ((1 + fw : Nat) : Int)), some (.ref l), some (.int (bw : Int)), some (.ref D), u, w, x])
        ⟨O5.mono (by omega), B05, hD5, [], none, none, none, List.nodup_nil, fun x hx => (nomatch hx), Nat.le_refl _, hl5, rfl⟩ ?_ ?_
      · rintro i σ H6 hi ⟨O6, B6, hD6, ns, u, w, x, hnd, hsm, hnl, hl6, rfl⟩
        refine ⟨_, rfl, _, rfl, 1 + fw, rfl, rfl, by omega, p, b, _, _, rfl, O6, by omega, ?_, ?_, fun r H7 r0 r1 O7 B7 => ?_⟩
        · have := M07.two_pos (1 + fw)
          omega
        · exact pow_lt9 (by omega)
        obtain ⟨wd, rfl⟩ := Int.eq_ofNat_of_zero_le r0
        have hwd : wd < 2 ^ 400 := Nat.lt_of_lt_of_le (Int.ofNat_lt.mp r1) (Nat.pow_le_pow_right (by decide) (by omega))
        have hD7 := B7 _ _ hD6 nDp
        have hl7 := B7 _ _ hl6 nlp
        have B07 := B6.trans B7
        refine ⟨fun σ' H' => ∃ (wd : Nat) (x : Option V), wd < 2 ^ 1000 ∧ Orch H' p b (n + 14 + 6 * i + 6) ∧ But p H H' ∧ H' D = some (.lst (natsV sp)) ∧ H' l = some (.lst (natsV ns)) ∧
          σ' = [some (.ref p), some (.int ((1 + fw : Nat) : Int)), some (.ref l), some (.int (bw : Int)), some (.ref D), some (.int (0 + (i : Int))), some (.int (wd : Int)), x], ?_, ?_⟩
        · refine ⟨_, rfl, _, _, rfl, rfl, _, rfl, iteB (fun c => ?_) (fun c => ?_)⟩
          · refine ⟨_, rfl, ?_⟩
            refine ⟨_, rfl, D, rfl, ⟨_, SqL.of hD7⟩, for_list (xs := natsV sp) (fun j σ' H' => ∃ (wd : Nat) (x : Option V), wd < 2 ^ 400 ∧ Orch H' p b (n + 14 + 6 * i + 1 + j) ∧ But p H H' ∧ H' D = some (.lst (natsV sp)) ∧ H' l = some (.lst (natsV ns)) ∧
              σ' = [some (.ref p), some (.int ((1 + fw : Nat) : Int)), some (.ref l), some (.int (bw : Int)), some (.ref D), some (.int (0 + (i : Int))), some (.int (wd : Int)), x])
              ⟨bw, x, hbw, O7, B07, hD7, hl7, rfl⟩ (fun j σ' H' _ z => (let ⟨_, _, _, _, _, z, _⟩ := z; SqL.of z)) ?_ ?_⟩
            · rintro j y σ' H8 hy ⟨wd8, x8, hw8, O8, B8, hD8, hl8, rfl⟩
              obtain ⟨d, hd, rfl⟩ := natsV_at hy
              have hd4 := hsp d (List.mem_of_getElem? hd)
              have hj : j < 5 := by rw [← hspl]; exact (List.getElem?_eq_some_iff.mp hd).1
              refine ⟨_, rfl, p, b, _, 3, rfl, O8, by omega, by decide, by decide, fun r H9 r0 r1 O9 B9 => ⟨rfl, _, rfl, ?_⟩⟩
              have hD9 := B9 _ _ hD8 nDp
              have hl9 := B9 _ _ hl8 nlp
              refine iteB (fun c => ?_) (fun c => ?_)
              · refine ⟨_, rfl, _, rfl, d, rfl, rfl, by omega, _, _, rfl, rfl, wd8 ^^^ 2 ^ d, some (.int (d : Int)), ?_, O9, B8.trans B9, hD9, hl9, ?_⟩
                · exact Nat.xor_lt_two_pow hw8 (Nat.pow_lt_pow_right (by decide) hd4)
                · show [some (V.ref p), some (V.int ((1 + fw : Nat) : Int)), some (V.ref l), some (V.int (bw : Int)), some (V.ref D), some (V.int (0 + (i : Int))), some (V.int (Builtin.bitXor (wd8 : Int) ((2 ^ d : Nat) : Int))), _] = _
                  rw [xor_nat]
              · exact ⟨wd8, _, hw8, O9, B8.trans B9, hD9, hl9, rfl⟩
            · rintro σ' H8 ⟨wd8, x8, hw8, O8, B8, hD8, hl8, rfl⟩
              rw [natsV_len, hspl] at O8
              exact ⟨wd8, _, Nat.lt_trans hw8 big, O8, B8, hD8, hl8, rfl⟩
          · exact ⟨wd, x, Nat.lt_trans hwd big, O7.mono (by omega), B07, hD7, hl7, rfl⟩
        · rintro σ' H8 ⟨wd8, x8, hw8, O8, B8, hD8, hl8, rfl⟩
          refine ⟨_, rfl, _, rfl, l, _, rfl, .inl (SqL.of hl8), rfl, flat_nats ns, _, rfl, ?_⟩
          rw [inV_nat]
          refine iteB (fun c => ?_) (fun c => ?_)
          · have c : wd8 ∉ ns := by simpa using c
            refine ⟨_, rfl, .inl ⟨rfl, _, SqL.of hl8⟩, _, rfl, l, _, _, rfl, rfl, hl8, by rw [natsV_len, sizeLine_eq]; omega, ?_⟩
            refine ⟨(O8.keep (fun u hu => by rw [upd_ne nlp.symm]; exact hu) (fun u hu => by rw [upd_ne nlb.symm]; exact hu)).mono (by omega), fun q o e nq => ?_, ?_, ns ++ [wd8], _, _, _, ?_, fun x hx => ?_, ?_, ?_, rfl⟩
            · rw [upd_ne (ne_of_none e hl0)]
              exact B8 q o e nq
            · rw [upd_ne nlD.symm]
              exact hD8
            · exact List.nodup_append.mpr ⟨hnd, List.nodup_cons.mpr ⟨List.not_mem_nil, List.nodup_nil⟩, fun x hx y hy e => c (by rw [List.mem_singleton.mp hy] at e; exact e ▸ hx)⟩
            · rcases List.mem_append.mp hx with e | e
              · exact hsm x e
              · rw [List.mem_singleton.mp e]
                exact hw8
            · rw [List.length_append, List.length_singleton]
              omega
            · rw [upd_same, natsV_snoc]
          · exact ⟨O8.mono (by omega), B8, hD8, ns, _, _, _, hnd, hsm, by omega, hl8, rfl⟩
      · rintro σ H6 ⟨O6, B6, hD6, ns, u, w, x, hnd, hsm, hnl, hl6, rfl⟩
        exact ⟨_, rfl, k l ns H6 hl0 hnd hsm (by omega) hl6 (O6.mono (by omega)) B6⟩
end
end K05
namespace K05
open PySem PySem.Spec PyProof.Rows L2 OB SkE
def spIsNear : Sp := fun vs H Q _ => ∃ x y : Nat, vs = [.int x, .int y] ∧ Q (.bl (M05.near x y)) H
def spPairsD : Sp := fun vs H Q _ => ∃ (a : Addr) (ns : List Nat), vs = [.ref a] ∧ H a = some (.lst (natsV ns)) ∧ ns.length ≤ 1000 ∧ ∀ H', Same H H' → Q (.int (M05.prs ns)) H'
def spBelow : Sp := fun vs H Q _ => ∃ n : Nat, vs = [.int n] ∧ n ≤ 1000 ∧ ∀ H', Same H H' → Q (.int (M04.E n)) H'
def ol (k : Nat) : List V := (List.range k).map fun (i : Nat) => V.int ((M04.pc i : Nat) : Int)
theorem ol_next (k : Nat) : ol (k + 1) = ol k ++ [V.int ((M04.pc k : Nat) : Int)] := by
  unfold ol
  rw [List.range_succ, List.map_append]
  rfl
theorem ol_len (k : Nat) : (ol k).length = k := by
  unfold ol
  rw [List.length_map, List.length_range]
theorem ol_get {k i : Nat} (h : i < k) : (ol k)[i]? = some (V.int ((M04.pc i : Nat) : Int)) := by
  unfold ol
  rw [List.getElem?_map, List.getElem?_range h]
  rfl
theorem two_i : (2 : Int).natAbs < 2 ^ 2 := by decide
theorem cut_to {xs : List V} {i : Nat} (h : i ≤ xs.length) : cutV xs none (some (i : Int)) = xs.take i := by
  unfold cutV
  have a : HT.sIx xs.length 0 none = 0 := rfl
  rw [a, List.drop_zero, Nat.sub_zero, HT.sIx_nat, Nat.min_eq_left h]
theorem prs_snoc (l : List Nat) (x : Nat) : M05.prs (l ++ [x]) = M05.prs l + l.countP (M05.near x) := by
  rw [M05.prs_app, M05.crs_cons, M05.crs_nil]
  rfl
section
variable {P : Program} {w : World} {K : PySem.W.Frag} {mg : Str → Option Value} {base : Heap}
theorem sc__law_is_near : FnScope ["one", "other", "apart"] ["one", "other"] (defScope s__law_is_near) := ⟨rfl, rfl, rfl, by decide +kernel, rfl, by decide +kernel, by decide +kernel⟩
theorem ok__law_is_near {f : Addr} {fd : FuncData} (F : Fun K "_law_is_near" "_law_is_near" s__law_is_near f fd) : FnOk P w K mg base CX0 1 f fd ["one", "other"] spIsNear := by
  refine F.ok sc__law_is_near (fun vs H Q E h => ?_) (fun cdv A outer s H vs Q E hr h => ?_)
  · obtain ⟨x, y, rfl, _⟩ := h
    rfl
  · obtain ⟨x, y, rfl, k⟩ := h
    refine ⟨_, (pss_cons (ps_set (i := 2) sc__law_is_near.nd rfl (Or.inl rfl) (pe_op op_xor (pv 0) (pv 1)))
  (pss_one (ps_ret (pe_and (pe_cmpR op_ne (pv 2) pe_int (nomark _)) (pe_one (pe_cmpR op_eq (pe_op op_and (pv 2) (pe_op op_sub (pv 2) pe_int)) pe_int (nomark _))))))), ?_⟩
    refine ⟨_, rfl, _, rfl, _, _, rfl, rfl, _, rfl, rfl, _, rfl, ?_⟩
    have e1 : V.int (Builtin.bitXor (x : Int) (y : Int)) = V.int ((x ^^^ y : Nat) : Int) := by rw [xor_nat]
    by_cases z : x ^^^ y = 0
    · have hn : M05.near x y = false := by
        cases hh : M05.near x y with
        | false => rfl
        | true =>
          obtain ⟨t, ht⟩ := M05.near_iff.mp hh
          have := M07.two_pos t
          omega
      rw [hn] at k
      refine iteB (fun c => ?_) (fun c => k)
      have c : (!decide (V.int (Builtin.bitXor (x : Int) (y : Int)) = V.int 0)) = true := c
      rw [e1, z] at c
      exact absurd c (by decide)
    · refine iteB (fun c => ?_) (fun c => ?_)
      · refine ⟨_, rfl, _, rfl, _, _, rfl, rfl, _, _, rfl, rfl, rfl, ?_⟩
        show Q (.bl (decide (V.int (Builtin.bitAnd (Builtin.bitXor (x : Int) (y : Int)) (Builtin.bitXor (x : Int) (y : Int) - 1)) = V.int 0))) H
        have e3 : Builtin.bitXor (x : Int) (y : Int) = ((x ^^^ y : Nat) : Int) := xor_nat x y
        rw [e3]
        generalize hm : x ^^^ y = m at z
        have e2 : ((m : Int) - 1) = ((m - 1 : Nat) : Int) := by omega
        rw [e2, and_nat]
        have h2 := Nat.and_sub_one_eq_zero_iff_isPowerOfTwo z
        have e4 : decide (V.int ((m &&& (m - 1) : Nat) : Int) = V.int 0) = M05.near x y := by
          rw [Bool.eq_iff_iff, decide_eq_true_iff, M05.near_iff, hm]
          constructor
          · intro q
            have q := V.int.inj q
            exact h2.mp (by omega)
          · intro q
            have q : m &&& (m - 1) = 0 := h2.mpr q
            rw [q]
            rfl
        rw [e4]
        exact k
      · have c : (!decide (V.int (Builtin.bitXor (x : Int) (y : Int)) = V.int 0)) = false := c
        rw [e1] at c
        have c2 : V.int ((x ^^^ y : Nat) : Int) = V.int 0 := by simpa using c
        have c3 := V.int.inj c2
        exact absurd (show x ^^^ y = 0 by omega) z
theorem sc__law_pairs : FnScope ["words", "total", "at", "one", "other"] ["words"] (defScope s__law_pairs) := ⟨rfl, rfl, rfl, by decide +kernel, rfl, by decide +kernel, by decide +kernel⟩
abbrev N__law_pairs : List Str := ["words", "total", "at", "one", "other"]
theorem ok__law_pairs {f f1 : Addr} {fd fd1 : FuncData} (F : Fun K "_law_pairs" "_law_pairs" s__law_pairs f fd) (T : Blt mg) (D__law_is_near : Df K mg "_law_is_near" s__law_is_near ["one", "other"] f1 fd1) : FnOk P w K mg base CX0 2 f fd ["words"] spPairsD := by
  have G__law_is_near : FnOk P w K mg base CX0 1 f1 fd1 ["one", "other"] spIsNear := ok__law_is_near D__law_is_near.F
  refine F.ok sc__law_pairs (fun vs H Q E h => ?_) (fun cdv A outer s H vs Q E hr h => ?_)
  · obtain ⟨a, ns, rfl, _⟩ := h
    rfl
  · obtain ⟨a, ns, rfl, ha, hl, k⟩ := h
    refine ⟨_, (pss_cons (ps_set (i := 1) sc__law_pairs.nd rfl (Or.inl rfl) pe_int)
  (pss_cons (ps_for PassesOwn.never rfl (pi_enum (by rfl) T.n_enumerate (pa_cons (pv 0) pa_nil)) (pg_tup (by rfl) (pgs_cons (pg_name (i := 2) sc__law_pairs.nd rfl (Or.inl rfl)) (pgs_cons (pg_name (i := 3) sc__law_pairs.nd rfl (Or.inr rfl)) pgs_nil))) (pss_one (ps_set (i := 1) sc__law_pairs.nd rfl (Or.inl rfl) (pe_op op_add (pv 1) (pe_callB call_len_seq (by rfl) T.n_len (by decide +kernel) (pa_cons (pe_lc (own := [("other", 4)]) (g := (gName 4)) rfl sc__law_pairs.nd (pi_list (pe_slice sl_list (pv 0) po_none (po_some (pv 2)))) (blkOk_by (N := N__law_pairs) (own := [("other", 4)]) (sc := defScope s__law_pairs) (by decide +kernel)) (fun _ _ _ _ _ => (pg_name (i := 4) sc__law_pairs.nd rfl (Or.inl rfl))) (fun _ _ _ _ _ => (pts_one (pt_val (pe_call G__law_is_near (hr.mono (by decide)) (by rfl) D__law_is_near.g D__law_is_near.F.kp D__law_is_near.b .nil pass0 (pa_cons (pv 3) (pa_cons (pv 4) pa_nil)))))) (fun _ _ _ _ _ => (pv 4))) pa_nil))))))
  (pss_one (ps_ret (pv 1))))), ?_⟩
    refine ⟨_, rfl, a, _, rfl, SqL.of ha, ?_⟩
    refine for_it (walk_enum (K := K) (a := a) (xs := natsV ns)) (fun i σ H' => Same H H' ∧ ∃ u v : Option V, σ = [some (.ref a), some (.int ((M05.prs (ns.take i) : Nat) : Int)), u, v, none]) ⟨fun b o e => e, none, none, rfl⟩ (fun i σ H' _ z => SqL.of (z.1 _ _ ha)) ?_ ?_
    · rintro i y σ H2 H3 hi ⟨S2, u, v, rfl⟩ ⟨t, a1, b1, rfl, ht, rfl, ea, eb⟩
      obtain ⟨one, hone, rfl⟩ := natsV_at eb
      have ea : V.int (i : Int) = a1 := Option.some.inj ea
      subst ea
      rw [natsV_len] at hi
      have S3 := S2.trans (same_new (o := .tup [V.int (i : Int), V.int (one : Int)]) ht)
      refine ⟨t, _, rfl, SqT.of upd_same, rfl, _, _, rfl, _, _, rfl, rfl, ?_⟩
      have hsz : (natsV ns).take i = natsV (ns.take i) := by
        unfold natsV
        rw [List.map_take]
      refine ⟨_, rfl, _, rfl, _, rfl, _, rfl, a, _, rfl, SqL.of (S3 _ _ ha), fun c hc => ?_⟩
      rw [cut_to (by rw [natsV_len]; omega), hsz]
      have S4 := S3.trans (same_new (o := .lst (natsV (ns.take i))) hc)
      refine ⟨c, rfl, ⟨_, SqL.of upd_same⟩, fun Dl hDl => ?_⟩
      have hcl := same_new (o := .lst []) hDl _ _ (show upd (upd H2 t (.tup [V.int (i : Int), V.int (one : Int)])) c (.lst (natsV (ns.take i))) c = some (.lst (natsV (ns.take i))) from upd_same)
      refine lc_list (xs := natsV (ns.take i)) (fun j H' => Same (upd (upd H2 t (.tup [V.int (i : Int), V.int (one : Int)])) c (.lst (natsV (ns.take i)))) H' ∧ ∃ acc, H' Dl = some (.lst acc) ∧ acc.length = ((ns.take i).take j).countP (M05.near one)) ⟨same_new hDl, [], upd_same, rfl⟩ (fun j H' _ z => SqL.of (z.1 _ _ upd_same)) ?_ ?_
      · rintro j y H5 hy ⟨S5, acc, hacc, hal⟩
        obtain ⟨n2, hn2, rfl⟩ := natsV_at hy
        have etk : (ns.take i).take (j + 1) = (ns.take i).take j ++ [n2] := by
          rw [List.take_add_one, hn2]
          rfl
        have hca : acc.length ≤ 1000 := by
          rw [hal]
          have h1 := List.countP_le_length (p := M05.near one) (l := (ns.take i).take j)
          rw [List.length_take, List.length_take] at h1
          omega
        refine ⟨rfl, _, rfl, _, rfl, one, n2, rfl, _, rfl, ?_⟩
        refine iteB (fun cb => ?_) (fun cb => ?_)
        · refine ⟨_, rfl, acc, hacc, small1000 hca, fun q o e => ?_, _, upd_same, ?_⟩
          · rw [upd_ne (ne_of_none e hDl)]
            exact S5 _ _ e
          · rw [etk, List.countP_append, List.length_append, hal, List.countP_cons, cb]
            rfl
        · refine ⟨S5, acc, hacc, ?_⟩
          rw [etk, List.countP_append, hal, List.countP_cons, cb]
          rfl
      · rintro H5 ⟨S5, acc, hacc, hal⟩
        rw [natsV_len, List.take_length] at hal
        refine ⟨Dl, acc, rfl, .inl (SqL.of hacc), _, _, rfl, rfl, S4.trans S5, some (.int (i : Int)), some (.int (one : Int)), ?_⟩
        have et : ns.take (i + 1) = ns.take i ++ [one] := by
          rw [List.take_add_one, hone]
          rfl
        show [some (V.ref a), some (V.int (((M05.prs (ns.take i) : Nat) : Int) + ((acc.length : Nat) : Int))), _, _, _] = _
        rw [et, prs_snoc, hal, Int.natCast_add]
    · rintro σ H2 ⟨S2, u, v, rfl⟩
      rw [natsV_len, List.take_length]
      exact ⟨_, rfl, k H2 S2⟩
theorem sc__law_below : FnScope ["many", "ones", "total", "number"] ["many"] (defScope s__law_below) := ⟨rfl, rfl, rfl, by decide +kernel, rfl, by decide +kernel, by decide +kernel⟩
theorem ok__law_below {f : Addr} {fd : FuncData} (F : Fun K "_law_below" "_law_below" s__law_below f fd) (T : Blt mg) : FnOk P w K mg base CX0 1 f fd ["many"] spBelow := by
  refine F.ok sc__law_below (fun vs H Q E h => ?_) (fun cdv A outer s H vs Q E hr h => ?_)
  · obtain ⟨n, rfl, _⟩ := h
    rfl
  · obtain ⟨n, rfl, hn, k⟩ := h
    refine ⟨_, (pss_cons (ps_par (i := 1) (j := 2) (by rfl) sc__law_below.nd rfl rfl (by decide) rfl rfl (pa_cons (pe_lst (pa_cons pe_int pa_nil)) (pa_cons pe_int pa_nil)) (by rfl))
  (pss_cons (ps_for PassesOwn.never rfl (pi_range2 (by rfl) T.n_range (pa_cons pe_int (pa_cons (pv 0) pa_nil))) (pg_name (i := 3) sc__law_below.nd rfl (Or.inl rfl)) (pss_cons (ps_expr (pe_bm PySem.F.plainAttrs_list PySem.F.slot_list_append PySem.F.type_list_append mt_append (pv 1) (pa_cons (pe_op op_add (pe_ix ix_list (pv 1) (pe_op op_fdivW (pv 3) pe_int) (fun _ _ => rfl)) (pe_op op_mod (pe_callTy call_int1 (by rfl) T.n_int (by decide +kernel) (pa_cons (pv 3) pa_nil)) pe_int)) pa_nil)))
  (pss_one (ps_set (i := 2) sc__law_below.nd rfl (Or.inl rfl) (pe_op op_add (pv 2) (pe_ix ix_list (pv 1) (pv 3) (fun _ _ => rfl)))))))
  (pss_one (ps_ret (pv 2))))), ?_⟩
    refine ⟨by show 1 ≤ sizeLine; decide, fun l hl => ⟨_, _, rfl, ?_⟩⟩
    refine ⟨_, rfl, 1, (n : Int), rfl, by omega, ?_⟩
    have en : ((n : Int) - 1).toNat = n - 1 := by omega
    rw [en]
    refine for_range (n := n - 1) (fun i σ H' => Same H H' ∧ H' l = some (.lst (ol (i + 1))) ∧ ∃ v : Option V, σ = [some (.int (n : Int)), some (.ref l), some (.int ((M04.E (i + 1) : Nat) : Int)), v])
      ⟨same_new hl, upd_same, none, rfl⟩ ?_ ?_
    · rintro i σ H2 hi ⟨S2, hl2, v, rfl⟩
      have ei : (1 + (i : Int)) / 2 = (((i + 1) / 2 : Nat) : Int) := by omega
      have ej : ((M04.pc ((i + 1) / 2) : Nat) : Int) + (1 + (i : Int)) % 2 = ((M04.pc (i + 1) : Nat) : Int) := by
        rw [M04.pc_half (i + 1)]
        omega
      have ek : (1 + (i : Int)) = ((i + 1 : Nat) : Int) := by omega
      refine ⟨_, rfl, .inl ⟨rfl, _, SqL.of hl2⟩, _, rfl, _, rfl, _, _, rfl, rfl, wide_div (by show (0 : Int) < 2; decide) two_i (by decide) (by decide), l, _, _, _, rfl, rfl, SqL.of hl2, by rw [ei]; exact atI_nat (ol_get (by omega)), ?_⟩
      refine ⟨_, rfl, .inl ⟨_, rfl, _, _, rfl, rfl, (by show (0 : Int) < 2; decide), _, _, rfl, rfl, l, _, _, rfl, rfl, hl2, ?_, ?_⟩⟩
      · rw [ol_len, sizeLine_eq]
        omega
      have hl3 : upd H2 l (.lst (ol (i + 1) ++ [V.int (((M04.pc ((i + 1) / 2) : Nat) : Int) + (1 + (i : Int)) % 2)])) l = some (.lst (ol (i + 2))) := by
        rw [upd_same, ej, ← ol_next]
      refine ⟨_, rfl, _, rfl, _, rfl, l, _, _, _, rfl, rfl, SqL.of hl3, by rw [ek]; exact atI_nat (ol_get (by omega)), _, _, rfl, rfl, ?_⟩
      refine ⟨fun q o e => ?_, hl3, some (.int (1 + (i : Int))), ?_⟩
      · rw [upd_ne (ne_of_none e hl)]
        exact S2 q o e
      · show [some (V.int (n : Int)), some (V.ref l), some (V.int (((M04.E (i + 1) : Nat) : Int) + ((M04.pc (i + 1) : Nat) : Int))), _] = _
        rfl
    · rintro σ H2 ⟨S2, hl2, v, rfl⟩
      have e : M04.E (n - 1 + 1) = M04.E n := by
        cases n with
        | zero => rfl
        | succ n => rfl
      rw [e]
      exact ⟨_, rfl, k H2 S2⟩
end
end K05
namespace K05
open PySem PySem.Spec PyProof.Rows L2 OB SkE
theorem same_yes {x : V} : decide (x = x) = true := by simp
theorem same_text {x : V} : (!decide (x = x)) = false := by simp
def iv (ns : List Nat) : List Int := ns.map fun (x : Nat) => (x : Int)
theorem iv_V (ns : List Nat) : (iv ns).map V.int = natsV ns := by
  unfold iv natsV
  rw [List.map_map]
  rfl
theorem iv_len (ns : List Nat) : (iv ns).length = ns.length := by
  unfold iv
  rw [List.length_map]
theorem iv_mem {ns : List Nat} {z : Int} (h : z ∈ iv ns) : ∃ x ∈ ns, z = (x : Int) := by
  obtain ⟨x, hx, e⟩ := List.mem_map.mp h
  exact ⟨x, hx, e.symm⟩
theorem iv_nodup {ns : List Nat} (h : ns.Nodup) : (iv ns).Nodup := by
  unfold iv
  exact List.Pairwise.map _ (fun a b e z => e (by omega)) h
theorem log_nat {m : Nat} (h : m < 2 ^ 1000) : (m : Int).natAbs.log2 < 1920 := by
  rw [Int.natAbs_natCast]
  by_cases c : m = 0
  · subst c
    decide
  · have e := (Nat.log2_lt c).mpr h
    omega
theorem log_few {m : Nat} (h : m ≤ 10000000) : (m : Int).natAbs.log2 < 1920 := log_nat (Nat.lt_of_le_of_lt h (Nat.lt_of_lt_of_le (show 10000000 < 2 ^ 30 by decide) (Nat.pow_le_pow_right (by decide) (by decide))))
theorem iv_log {ns : List Nat} (h : ∀ x ∈ ns, x < 2 ^ 1000) : ∀ n ∈ iv ns, n.natAbs.log2 < 1920 := fun n hn => by
  obtain ⟨x, hx, rfl⟩ := iv_mem hn
  exact log_nat (h x hx)
theorem iv_in (ns : List Nat) : ∀ n ∈ iv ns, inB (some 0) none (.int n) = true := fun n hn => by
  obtain ⟨x, hx, rfl⟩ := iv_mem hn
  exact inB_nat x
theorem lot_lst {K : PySem.W.Frag} {H : Hp} {l : Addr} {ns : List Nat} (e : H l = some (.lst (natsV ns))) (h1 : ns.Nodup) (h3 : ns.length ≤ 1050) : IsLot K H (.ref l) (some 0) none (iv ns) :=
  ⟨l, rfl, .inl (SqL.of (by rw [iv_V]; exact e)), by rw [iv_len]; exact h3, fun H' S => isL_lst (S _ _ e), iv_in ns, iv_nodup h1⟩
theorem lot_tup {K : PySem.W.Frag} {H : Hp} {l : Addr} {ns : List Nat} (e : H l = some (.tup (natsV ns))) (h1 : ns.Nodup) (h3 : ns.length ≤ 1050) : IsLot K H (.ref l) (some 0) none (iv ns) :=
  ⟨l, rfl, .inr (SqT.of (by rw [iv_V]; exact e)), by rw [iv_len]; exact h3, fun H' S => isL_tup (S _ _ e), iv_in ns, iv_nodup h1⟩
def spRight (c : Nat) : Sp := fun vs H Q _ => ∃ (p b : Addr) (n : Nat), vs = [.ref p] ∧ Orch H p b n ∧ n + c < 1000000 ∧ ∀ H' : Hp, Orch H' p b (n + c) → But p H H' → Q (.bl true) H'
section
variable {P : Program} {w : World} {K : PySem.W.Frag} {mg : Str → Option Value} {base : Heap}
theorem sc__law_counted_right : FnScope ["hive", "words", "passed", "due", "kept", "told", "most"] ["hive"] (defScope s__law_counted_right) := ⟨rfl, rfl, rfl, by decide +kernel, rfl, by decide +kernel, by decide +kernel⟩
theorem ok__law_counted_right {f f1 f2 f3 f4 f5 f6 CW CM CN : Addr} {fd fd1 fd2 fd3 fd4 fd5 fd6 : FuncData} (F : Fun K "_law_counted_right" "_law_counted_right" s__law_counted_right f fd) (T : Blt mg)
    (D__law_one : Df K mg "_law_one" s__law_one ["hive", "some"] f1 fd1) (G__law_one : FnOk P w K mg base CX0 2 f1 fd1 ["hive", "some"] spOne)
    (D__law_some : Df K mg "_law_some" s__law_some ["hive"] f2 fd2) (G__law_some : FnOk P w K mg base CX0 3 f2 fd2 ["hive"] spSome)
    (D__law_pairs : Df K mg "_law_pairs" s__law_pairs ["words"] f3 fd3) (G__law_pairs : FnOk P w K mg base CX0 2 f3 fd3 ["words"] spPairsD)
    (D__law_below : Df K mg "_law_below" s__law_below ["many"] f4 fd4) (G__law_below : FnOk P w K mg base CX0 1 f4 fd4 ["many"] spBelow)
    (D_pairs_among : Df K mg "pairs_among" s_pairs_among ["words"] f5 fd5) (GX_pairs_among : FnOk P w K mg base (L2.CX P w) 7 f5 fd5 ["words"] (spAmong K CW CM))
    (D_most_pairs : Df K mg "most_pairs" s_most_pairs ["many"] f6 fd6) (GX_most_pairs : FnOk P w K mg base (L2.CX P w) 5 f6 fd6 ["many"] (spPairs K CN)) :
    FnG P w K mg base CX0 9 f fd ["hive"] (spRight 201) := by
  have G_pairs_among := calm_of GX_pairs_among
  have G_most_pairs := calm_of GX_most_pairs
  have kb_pairs_among : KBinds K fd5 ["words"] ["words"] (· ++ ·) (· ++ ·) := kbinds D_pairs_among.F (fun _ _ _ _ _ _ us ws hl => match us, ws, hl with | [_], [], _ => rfl | [], [_], _ => rfl) fun a b => a.append b
  refine okG F sc__law_counted_right (fun vs H Q E h => ?_) (fun cdv A outer s H vs Q E hgd hr h => ?_)
  · obtain ⟨p, b, n, rfl, _⟩ := h
    rfl
  · obtain ⟨p, b, n, rfl, O, hn, q⟩ := h
    refine ⟨_, (pss_cons (ps_set (i := 1) sc__law_counted_right.nd rfl (Or.inl rfl) (pe_call G__law_some (hr.mono (by decide)) (by rfl) D__law_some.g D__law_some.F.kp D__law_some.b .nil pass0 (pa_cons (pv 0) pa_nil)))
  (pss_cons (ps_par (i := 2) (j := 3) (by rfl) sc__law_counted_right.nd rfl rfl (by decide) rfl rfl (pa_cons (pe_call G__law_one (hr.mono (by decide)) (by rfl) D__law_one.g D__law_one.F.kp D__law_one.b .nil pass0 (pa_cons (pv 0) (pa_cons (pe_lst (pa_cons (pv 1) (pa_cons (pe_callTy call_tuple_of (by rfl) T.n_tuple (by decide +kernel) (pa_cons (pv 1) pa_nil)) pa_nil))) pa_nil))) (pa_cons (pe_call G__law_pairs (hr.mono (by decide)) (by rfl) D__law_pairs.g D__law_pairs.F.kp D__law_pairs.b .nil pass0 (pa_cons (pv 1) pa_nil)) pa_nil)) (by rfl))
  (pss_cons (ps_set (i := 4) sc__law_counted_right.nd rfl (Or.inl rfl) (pe_callB (call_reprI hgd hr.units) (by rfl) T.n_repr (by decide +kernel) (pa_cons (pv 2) pa_nil)))
  (pss_cons (ps_par (i := 5) (j := 6) (by rfl) sc__law_counted_right.nd rfl rfl (by decide) rfl rfl (pa_cons (pe_call G_pairs_among (hr.mono (by decide)) (by rfl) D_pairs_among.g D_pairs_among.F.kp D_pairs_among.b .nil pass0 (pa_cons (pv 2) pa_nil)) (pa_cons (pe_call G_most_pairs (hr.mono (by decide)) (by rfl) D_most_pairs.g D_most_pairs.F.kp D_most_pairs.b .nil pass0 (pa_cons (pe_callB call_len_seq (by rfl) T.n_len (by decide +kernel) (pa_cons (pv 1) pa_nil)) pa_nil)) pa_nil)) (by rfl))
  (pss_cons (ps_if (PW.pt (pw_or (pt_cmpR op_ne (pe_callB call_repr_int (by rfl) T.n_repr (by decide +kernel) (pa_cons (pv 5) pa_nil)) (pe_callB call_repr_int (by rfl) T.n_repr (by decide +kernel) (pa_cons (pv 3) pa_nil)) (nomark _)) (pw_or (pt_cmpR op_ne (pe_callB call_repr_int (by rfl) T.n_repr (by decide +kernel) (pa_cons (pe_callKo G_pairs_among (hr.mono (by decide)) (by rfl) D_pairs_among.g D_pairs_among.F.kp kb_pairs_among pass0 (pk_cons (pe_revL (pv 1)) pk_nil)) pa_nil)) (pe_callB call_repr_int (by rfl) T.n_repr (by decide +kernel) (pa_cons (pv 3) pa_nil)) (nomark _)) (pw_or1 (pt_cmpR op_ne (pe_callB (call_reprI hgd hr.units) (by rfl) T.n_repr (by decide +kernel) (pa_cons (pv 2) pa_nil)) (pv 4) (nomark _)))))) (pss_one (ps_ret pe_bl)) pss_nil)
  (pss_one (ps_ret (pe_and (pe_cmpR op_eq (pe_callB call_repr_int (by rfl) T.n_repr (by decide +kernel) (pa_cons (pv 6) pa_nil)) (pe_callB call_repr_int (by rfl) T.n_repr (by decide +kernel) (pa_cons (pe_call G__law_below (hr.mono (by decide)) (by rfl) D__law_below.g D__law_below.F.kp D__law_below.b .nil pass0 (pa_cons (pe_callB call_len_seq (by rfl) T.n_len (by decide +kernel) (pa_cons (pv 1) pa_nil)) pa_nil)) pa_nil)) (nomark _)) (pe_one (pe_cmpR op_le (pv 5) (pv 6) (nomark _))))))))))), ?_⟩
    refine ⟨_, rfl, p, b, n, rfl, O, by omega, fun l ns H2 hl h1 h2 h3 hL O2 B2 => ?_⟩
    have nlp : l ≠ p := by
      obtain ⟨u, hu⟩ := O.pn
      exact (ne_of_none hu hl).symm
    refine ⟨_, rfl, _, rfl, _, rfl, l, _, rfl, .inl ⟨SqL.of hL, fun t ht => ⟨(by show 2 ≤ sizeLine; decide), fun l2 hl2 => ?_⟩⟩⟩
    obtain ⟨up, hup⟩ := O2.pn
    have ntp : t ≠ p := (ne_of_none hup ht).symm
    have S3 := same_new (o := .tup (natsV ns)) ht
    have n2 : l2 ≠ p := (ne_of_none (S3 _ _ hup) hl2).symm
    have S4 := S3.trans (same_new (o := .lst [.ref l, .ref t]) hl2)
    have t4 := same_new (o := .lst [.ref l, .ref t]) hl2 _ _ (upd_same (H := H2) (a := t) (o := .tup (natsV ns)))
    refine ⟨p, b, l2, _, _, rfl, O2.same S4, by omega, upd_same, n2, by show 0 < 2; decide, by show 2 ≤ 1000; decide, fun j x H3 hj O3 B3 => ?_⟩
    have l3 : H3 l = some (.lst (natsV ns)) := B3 _ _ (S4 _ _ hL) nlp
    have t3 : H3 t = some (.tup (natsV ns)) := B3 _ _ t4 ntp
    have hx : x = .ref l ∨ x = .ref t := by
      match j, hj with
      | 0, e => cases e; exact .inl rfl
      | 1, e => cases e; exact .inr rfl
      | j + 2, e => cases e
    have B13 : But p H H3 := B2.trans ((But.of S4).trans B3)
    clear hj
    have hpl : M05.prs ns ≤ 1000 := Nat.le_trans (prs_le ns) (Nat.le_trans (Nat.mul_le_mul h3 h3) (by decide))
    have hmost : M05.prs ns ≤ M04.E ns.length := M05.most 1000 ns h1 h2
    have hE : M04.E ns.length ≤ 1000 := Nat.le_trans (M04.E_le (k := 5) (by omega)) (by omega)
    refine ⟨_, rfl, l, ns, rfl, l3, by omega, fun H4 S5 => ⟨_, _, rfl, ?_⟩⟩
    have l4 := S5 _ _ l3
    have t4' := S5 _ _ t3
    have l4i : H4 l = some (.lst ((iv ns).map V.int)) := by rw [iv_V]; exact l4
    have t4i : H4 t = some (.tup ((iv ns).map V.int)) := by rw [iv_V]; exact t4'
    have lp := log_few (show M05.prs ns ≤ 10000000 by omega)
    have le := log_few (show M04.E ns.length ≤ 10000000 by omega)
    have nsm : ns.length < 2 ^ 1000 := Nat.lt_of_le_of_lt h3 (Nat.lt_of_lt_of_le (show 24 < 2 ^ 5 by decide) (Nat.pow_le_pow_right (by decide) (by decide)))
    rcases hx with ex | ex
    all_goals
      have hlot : IsLot K H4 x (some 0) none (iv ns) := by
        rw [ex]
        first | exact lot_lst l4 h1 (by omega) | exact lot_tup t4' h1 (by omega)
      refine ⟨_, rfl, ?_⟩
      first
        | refine ⟨l, iv ns, congrArg (fun z => [z]) ex, iv_log h2, by rw [iv_len]; omega, .inl ⟨SqL.of l4i, ?_⟩⟩
        | refine ⟨t, iv ns, congrArg (fun z => [z]) ex, iv_log h2, by rw [iv_len]; omega, .inr ⟨SqT.of t4i, ?_⟩⟩
      refine ⟨_, rfl, _, rfl, .inr ⟨ns, hlot, .inr ⟨by omega, h2, fun H5 S6 => ?_⟩⟩⟩
      have l5 := S6 _ _ l4
      refine ⟨_, rfl, l, _, rfl, .inl (SqL.of l5), _, true, rfl, isI_int _, fun _ => ⟨ns.length, by rw [natsV_len], nsm, fun H6 S7 => ⟨_, _, rfl, ?_⟩⟩, fun z => no_nat z⟩
      have l6 := S7 _ _ l5
      refine ⟨_, rfl, _, rfl, lp, _, rfl, _, rfl, lp, rfl, _, rfl, ?_⟩
      rw [same_text]
      refine ⟨_, rfl, l, _, rfl, SqL.of l6, fun r hr => ?_⟩
      have er : (natsV ns).reverse = natsV ns.reverse := by
        unfold natsV
        rw [List.map_reverse]
      rw [er]
      have lr : IsLot K (upd H6 r (.lst (natsV ns.reverse))) (.ref r) (some 0) none (iv ns.reverse) := lot_lst upd_same ((List.reverse_perm ns).nodup_iff.mpr h1) (by rw [List.length_reverse]; omega)
      refine ⟨_, rfl, .inr ⟨ns.reverse, lr, .inr ⟨by rw [List.length_reverse]; omega, fun x hx => h2 x (List.mem_reverse.mp hx), fun H7 S8 => ?_⟩⟩⟩
      rw [M05.prs_perm (List.reverse_perm ns)]
      refine ⟨_, rfl, lp, _, rfl, _, rfl, lp, rfl, _, rfl, ?_⟩
      rw [same_text]
      have S48 : Same H4 H7 := (S6.trans S7).trans ((same_new hr).trans S8)
      refine ⟨_, rfl, ?_⟩
      first
        | refine ⟨l, iv ns, congrArg (fun z => [z]) ex, iv_log h2, by rw [iv_len]; omega, .inl ⟨SqL.of (S48 _ _ l4i), ?_⟩⟩
        | refine ⟨t, iv ns, congrArg (fun z => [z]) ex, iv_log h2, by rw [iv_len]; omega, .inr ⟨SqT.of (S48 _ _ t4i), ?_⟩⟩
      refine ⟨_, rfl, rfl, _, rfl, ?_⟩
      rw [same_text]
      have l7 := S48 _ _ l4
      refine ⟨_, rfl, _, rfl, le, _, rfl, l, _, rfl, .inl (SqL.of l7), ns.length, by rw [natsV_len]; rfl, by omega, fun H8 S9 => ⟨_, rfl, le, rfl, _, rfl, ?_⟩⟩
      rw [same_yes]
      refine ⟨_, rfl, _, rfl, _, _, rfl, rfl, ?_⟩
      have S := (S5.trans S48).trans S9
      have e : decide (((M05.prs ns : Nat) : Int) ≤ ((M04.E ns.length : Nat) : Int)) = true := decide_eq_true (by omega)
      show Q (.bl (decide (((M05.prs ns : Nat) : Int) ≤ ((M04.E ns.length : Nat) : Int)))) _
      rw [e]
      exact q _ ((O3.same S).mono (by omega)) (B13.trans (But.of S))
end
end K05
namespace K05
open PySem PySem.Spec PyProof.Rows L2 OB SkE
theorem G_snoc : ∀ (sp : List Nat) (k n : Nat), M05.G (sp ++ [k]) n = M05.G sp n ^^^ (if n / 2 ^ sp.length % 2 = 1 then 2 ^ k else 0)
  | [], k, n => by
    show (if n % 2 = 1 then 2 ^ k else 0) ^^^ 0 = 0 ^^^ (if n / 2 ^ 0 % 2 = 1 then 2 ^ k else 0)
    rw [Nat.pow_zero, Nat.div_one, Nat.xor_zero, Nat.zero_xor]
  | s :: r, k, n => by
    show (if n % 2 = 1 then 2 ^ s else 0) ^^^ M05.G (r ++ [k]) (n / 2) = ((if n % 2 = 1 then 2 ^ s else 0) ^^^ M05.G r (n / 2)) ^^^ (if n / 2 ^ (r.length + 1) % 2 = 1 then 2 ^ k else 0)
    rw [G_snoc r, Nat.div_div_eq_div_mul, ← Nat.pow_succ', Nat.xor_assoc]
theorem G_inj {sp : List Nat} {a b : Nat} (hn : sp.Nodup) (ha : a < 2 ^ sp.length) (hb : b < 2 ^ sp.length) (h : M05.G sp a = M05.G sp b) : a = b := by
  have e := M05.G_xor sp a b
  rw [h, Nat.xor_self] at e
  have z := (M05.G_pow sp (a ^^^ b) hn (Nat.xor_lt_two_pow ha hb)).1.mp e
  have z2 := Nat.xor_assoc a a b
  rw [Nat.xor_self, Nat.zero_xor, z, Nat.xor_zero] at z2
  exact z2.symm
/-- the words below many, in other bits and turned about -/
def fw (sp : List Nat) (mask many : Nat) : List Nat := (List.range many).map fun i => mask ^^^ M05.G sp i
theorem fw_next (sp : List Nat) (mask i : Nat) : fw sp mask (i + 1) = fw sp mask i ++ [mask ^^^ M05.G sp i] := by
  unfold fw
  rw [List.range_succ, List.map_append]
  rfl
theorem fw_len (sp : List Nat) (mask i : Nat) : (fw sp mask i).length = i := by
  unfold fw
  rw [List.length_map, List.length_range]
theorem fw_nodup {sp : List Nat} {mask many : Nat} (hn : sp.Nodup) (h : many ≤ 2 ^ sp.length) : (fw sp mask many).Nodup := by
  unfold fw
  refine List.Pairwise.map _ (fun a b (e : a ≠ b ∧ a < many ∧ b < many) z => e.1 ?_) (R := fun a b => a ≠ b ∧ a < many ∧ b < many) ?_
  · have z1 : mask ^^^ (mask ^^^ M05.G sp a) = mask ^^^ (mask ^^^ M05.G sp b) := by rw [z]
    rw [← Nat.xor_assoc, ← Nat.xor_assoc, Nat.xor_self, Nat.zero_xor, Nat.zero_xor] at z1
    exact G_inj hn (by omega) (by omega) z1
  · have h1 : (List.range many).Nodup := List.nodup_range
    refine List.Pairwise.imp_of_mem ?_ h1
    intro a b ha hb e
    exact ⟨e, List.mem_range.mp ha, List.mem_range.mp hb⟩
theorem G_lt : ∀ {sp : List Nat} {c : Nat} (n : Nat), (∀ x ∈ sp, x < c) → M05.G sp n < 2 ^ c
  | [], c, n, _ => M07.two_pos c
  | s :: r, c, n, h => by
    show (if n % 2 = 1 then 2 ^ s else 0) ^^^ M05.G r (n / 2) < 2 ^ c
    refine Nat.xor_lt_two_pow ?_ (G_lt _ fun x hx => h x (List.mem_cons_of_mem _ hx))
    by_cases e : n % 2 = 1
    · rw [if_pos e]
      exact Nat.pow_lt_pow_right (by decide) (h s List.mem_cons_self)
    · rw [if_neg e]
      exact M07.two_pos c
theorem rgV_iv (n : Nat) : rgV 0 ((n : Nat) : Int) = (iv (List.range n)).map V.int := by
  unfold rgV iv
  rw [Int.sub_zero, Int.toNat_natCast, List.map_map]
  refine List.map_congr_left fun i _ => ?_
  rw [Int.zero_add]
  rfl
theorem perm_iv {ns : List Int} {l : List Nat} (h : ns.Perm (iv l)) : ∃ sp : List Nat, ns = iv sp ∧ sp.Perm l := by
  refine ⟨ns.map Int.toNat, ?_, ?_⟩
  · unfold iv
    rw [List.map_map]
    have e : ns.map (fun z => z) = ns.map ((fun (x : Nat) => (x : Int)) ∘ Int.toNat) := List.map_congr_left fun z hz => by
      obtain ⟨x, _, rfl⟩ := iv_mem (h.mem_iff.mp hz)
      rfl
    rw [List.map_id'] at e
    exact e
  · have e := h.map Int.toNat
    unfold iv at e
    rw [List.map_map] at e
    have z : l.map (Int.toNat ∘ fun (x : Nat) => (x : Int)) = l.map (fun x => x) := List.map_congr_left fun x _ => rfl
    rw [z, List.map_id'] at e
    exact e
section
variable {P : Program} {w : World} {K : PySem.W.Frag} {mg : Str → Option Value} {base : Heap}
theorem sc__law_full_right : FnScope ["hive", "many", "spots", "mask", "words", "number", "word", "left", "spot", "due"] ["hive"] (defScope s__law_full_right) := ⟨rfl, rfl, rfl, by decide +kernel, rfl, by decide +kernel, by decide +kernel⟩
theorem ok__law_full_right {f f1 f2 f3 f4 f5 f6 CW CM CN : Addr} {fd fd1 fd2 fd3 fd4 fd5 fd6 : FuncData} (F : Fun K "_law_full_right" "_law_full_right" s__law_full_right f fd) (T : Blt mg)
    (D__law_one : Df K mg "_law_one" s__law_one ["hive", "some"] f1 fd1) (G__law_one : FnOk P w K mg base CX0 2 f1 fd1 ["hive", "some"] spOne)
    (D__law_sting : Df K mg "_law_sting" s__law_sting ["hive", "many"] f2 fd2) (G__law_sting : FnOk P w K mg base CX0 1 f2 fd2 ["hive", "many"] spDraw)
    (D__law_mixed : Df K mg "_law_mixed" s__law_mixed ["hive", "some"] f3 fd3) (G__law_mixed : FnOk P w K mg base CX0 2 f3 fd3 ["hive", "some"] spStir)
    (D__law_below : Df K mg "_law_below" s__law_below ["many"] f4 fd4) (G__law_below : FnOk P w K mg base CX0 1 f4 fd4 ["many"] spBelow)
    (D_pairs_among : Df K mg "pairs_among" s_pairs_among ["words"] f5 fd5) (GX_pairs_among : FnOk P w K mg base (L2.CX P w) 7 f5 fd5 ["words"] (spAmong K CW CM))
    (D_most_pairs : Df K mg "most_pairs" s_most_pairs ["many"] f6 fd6) (GX_most_pairs : FnOk P w K mg base (L2.CX P w) 5 f6 fd6 ["many"] (spPairs K CN)) :
    FnOk P w K mg base CX0 9 f fd ["hive"] (spRight 30) := by
  have G_pairs_among := calm_of GX_pairs_among
  have G_most_pairs := calm_of GX_most_pairs
  refine F.ok sc__law_full_right (fun vs H Q E h => ?_) (fun cdv A outer s H vs Q E hr h => ?_)
  · obtain ⟨p, b, n, rfl, _⟩ := h
    rfl
  · obtain ⟨p, b, n, rfl, O, hn, q⟩ := h
    refine ⟨_, (pss_cons (ps_set (i := 1) sc__law_full_right.nd rfl (Or.inl rfl) (pe_call G__law_one (hr.mono (by decide)) (by rfl) D__law_one.g D__law_one.F.kp D__law_one.b .nil pass0 (pa_cons (pv 0) (pa_cons (pe_lst (pa_cons (pe_op op_add pe_int (pe_call G__law_sting (hr.mono (by decide)) (by rfl) D__law_sting.g D__law_sting.F.kp D__law_sting.b .nil pass0 (pa_cons (pv 0) (pa_cons pe_int pa_nil)))) (pa_cons (pe_op op_add pe_int (pe_call G__law_sting (hr.mono (by decide)) (by rfl) D__law_sting.g D__law_sting.F.kp D__law_sting.b .nil pass0 (pa_cons (pv 0) (pa_cons pe_int pa_nil)))) (pa_cons (pe_op op_oneN pe_int (pe_call G__law_sting (hr.mono (by decide)) (by rfl) D__law_sting.g D__law_sting.F.kp D__law_sting.b .nil pass0 (pa_cons (pv 0) (pa_cons pe_int pa_nil)))) pa_nil)))) pa_nil))))
  (pss_cons (ps_par3 (i := 2) (j := 3) (l := 4) (by rfl) sc__law_full_right.nd rfl rfl rfl (by decide) (by decide) (by decide) rfl rfl rfl (pa_cons (pe_slice sl_list (pe_call G__law_mixed (hr.mono (by decide)) (by rfl) D__law_mixed.g D__law_mixed.F.kp D__law_mixed.b .nil pass0 (pa_cons (pv 0) (pa_cons (pe_listRg rfl (by rfl) T.n_list (prg_1 (by rfl) T.n_range pe_int)) pa_nil))) po_none (po_some pe_int)) (pa_cons (pe_call G__law_sting (hr.mono (by decide)) (by rfl) D__law_sting.g D__law_sting.F.kp D__law_sting.b .nil pass0 (pa_cons (pv 0) (pa_cons (pe_op op_oneN pe_int pe_int) pa_nil))) (pa_cons (pe_lst pa_nil) pa_nil))) (by rfl))
  (pss_cons (ps_for PassesOwn.never rfl (pi_range1 (by rfl) T.n_range (pa_cons (pv 1) pa_nil)) (pg_name (i := 5) sc__law_full_right.nd rfl (Or.inl rfl)) (pss_cons (ps_par (i := 6) (j := 7) (by rfl) sc__law_full_right.nd rfl rfl (by decide) rfl rfl (pa_cons (pv 3) (pa_cons (pv 5) pa_nil)) (by rfl))
  (pss_cons (ps_for PassesOwn.never rfl (pi_list (pv 2)) (pg_name (i := 8) sc__law_full_right.nd rfl (Or.inl rfl)) (pss_cons (ps_if (pt_cmpR op_eq (pe_op op_mod (pe_callTy call_int1 (by rfl) T.n_int (by decide +kernel) (pa_cons (pv 7) pa_nil)) pe_int) pe_int (nomark _)) (pss_one (ps_set (i := 6) sc__law_full_right.nd rfl (Or.inl rfl) (pe_op op_xor (pv 6) (pe_op op_oneN pe_int (pv 8))))) pss_nil)
  (pss_one (ps_set (i := 7) sc__law_full_right.nd rfl (Or.inl rfl) (pe_op op_fdivW (pv 7) pe_int)))))
  (pss_one (ps_expr (pe_bm PySem.F.plainAttrs_list PySem.F.slot_list_append PySem.F.type_list_append mt_append (pv 4) (pa_cons (pv 6) pa_nil)))))))
  (pss_cons (ps_set (i := 9) sc__law_full_right.nd rfl (Or.inl rfl) (pe_call G__law_below (hr.mono (by decide)) (by rfl) D__law_below.g D__law_below.F.kp D__law_below.b .nil pass0 (pa_cons (pv 1) pa_nil)))
  (pss_one (ps_ret (pe_and (pe_cmpR op_eq (pe_callB call_repr_int (by rfl) T.n_repr (by decide +kernel) (pa_cons (pe_call G_pairs_among (hr.mono (by decide)) (by rfl) D_pairs_among.g D_pairs_among.F.kp D_pairs_among.b .nil pass0 (pa_cons (pv 4) pa_nil)) pa_nil)) (pe_callB call_repr_int (by rfl) T.n_repr (by decide +kernel) (pa_cons (pv 9) pa_nil)) (nomark _)) (pe_one (pe_cmpR op_eq (pe_callB call_repr_int (by rfl) T.n_repr (by decide +kernel) (pa_cons (pe_call G_most_pairs (hr.mono (by decide)) (by rfl) D_most_pairs.g D_most_pairs.F.kp D_most_pairs.b .nil pass0 (pa_cons (pv 1) pa_nil)) pa_nil)) (pe_callB call_repr_int (by rfl) T.n_repr (by decide +kernel) (pa_cons (pv 9) pa_nil)) (nomark _)))))))))), ?_⟩
    refine ⟨_, rfl, _, rfl, p, b, n, 40, rfl, O, by omega, by decide, by decide, fun r1 H1 r10 r11 O1 B1 => ⟨_, _, rfl, rfl, ?_⟩⟩
    refine ⟨_, rfl, p, b, _, 300, rfl, O1, by omega, by decide, by decide, fun r2 H2 r20 r21 O2 B2 => ⟨_, _, rfl, rfl, ?_⟩⟩
    refine ⟨_, rfl, p, b, _, 7, rfl, O2, by omega, by decide, by decide, fun r3 H3 r30 r31 O3 B3 => ?_⟩
    obtain ⟨k3, rfl⟩ := Int.eq_ofNat_of_zero_le r30
    have hk3 : 2 ^ k3 ≤ 2 ^ 6 := Nat.pow_le_pow_right (by decide) (by omega)
    have hk30 := M07.two_pos k3
    refine ⟨k3, rfl, rfl, by omega, by show 3 ≤ sizeLine; decide, fun l1 hl1 => ?_⟩
    obtain ⟨u3, hu3⟩ := O3.pn
    have nl1 : l1 ≠ p := (ne_of_none hu3 hl1).symm
    have S1 := same_new (o := .lst [V.int (1 + r1), V.int (1 + r2), V.int ((2 ^ k3 : Nat) : Int)]) hl1
    refine ⟨p, b, l1, _, _, rfl, O3.same S1, by omega, upd_same, nl1, by show 0 < 3; decide, by show 3 ≤ 1000; decide, fun j x H4 hj O4 B4 => ?_⟩
    obtain ⟨c, rfl, hc0, hc⟩ : ∃ c : Nat, x = V.int (c : Int) ∧ 1 ≤ c ∧ c ≤ 300 := by
      match j, hj with
      | 0, e =>
        cases e
        obtain ⟨z, rfl⟩ := Int.eq_ofNat_of_zero_le r10
        exact ⟨1 + z, rfl, by omega, by omega⟩
      | 1, e =>
        cases e
        obtain ⟨z, rfl⟩ := Int.eq_ofNat_of_zero_le r20
        exact ⟨1 + z, rfl, by omega, by omega⟩
      | 2, e => cases e; exact ⟨2 ^ k3, rfl, by omega, by omega⟩
      | j + 3, e => cases e
    have B04 : But p H H4 := B1.trans (B2.trans (B3.trans ((But.of S1).trans B4)))
    clear hj
    refine ⟨_, rfl, 12, rfl, RgOk.of_le (by decide) (by decide) (by decide) (by decide), fun l5 hl5 => ?_⟩
    have e12 : rgV 0 12 = (iv (List.range 12)).map V.int := rgV_iv 12
    rw [e12]
    obtain ⟨u4, hu4⟩ := O4.pn
    have nl5 : l5 ≠ p := (ne_of_none hu4 hl5).symm
    have S5 := same_new (o := .lst ((iv (List.range 12)).map V.int)) hl5
    refine ⟨p, b, l5, _, iv (List.range 12), rfl, O4.same S5, by omega, upd_same, nl5, by rw [iv_len]; decide, fun q6 ns' H6 perm hq6 hns O6 B6 => ?_⟩
    obtain ⟨sp0, rfl, perm0⟩ := perm_iv perm
    have h0 : sp0.length = 12 := by rw [perm0.length_eq]; rfl
    have nd0 : sp0.Nodup := perm0.nodup_iff.mpr List.nodup_range
    have lt0 : ∀ x ∈ sp0, x < 12 := fun x hx => List.mem_range.mp (perm0.mem_iff.mp hx)
    obtain ⟨sp, hsp⟩ : ∃ sp, sp = sp0.take 9 := ⟨_, rfl⟩
    have hl9 : sp.length = 9 := by rw [hsp, List.length_take, h0]; rfl
    have nd : sp.Nodup := by rw [hsp]; exact nd0.sublist (List.take_sublist 9 sp0)
    have lt9 : ∀ x ∈ sp, x < 12 := fun x hx => lt0 x (by rw [hsp] at hx; exact List.mem_of_mem_take hx)
    rw [iv_V] at hns
    refine ⟨_, rfl, q6, _, rfl, SqL.of hns, fun c6 hc6 => ?_⟩
    have ecut : cutV (natsV sp0) none (some 9) = natsV sp := by
      have e : cutV (natsV sp0) none (some ((9 : Nat) : Int)) = (natsV sp0).take 9 := cut_to (by rw [natsV_len]; omega)
      rw [hsp]
      unfold natsV at e ⊢
      rw [List.map_take]
      exact e
    rw [ecut]
    obtain ⟨u6, hu6⟩ := O6.pn
    have nc6 : c6 ≠ p := (ne_of_none hu6 hc6).symm
    have S7 := same_new (o := .lst (natsV sp)) hc6
    refine ⟨_, rfl, 12, rfl, rfl, by decide, p, b, _, _, rfl, O6.same S7, by omega, (by show (0 : Int) < ((2 ^ 12 : Nat) : Int); decide), pow_lt9 (by decide), fun r8 H8 r80 r81 O8 B8 => ⟨Nat.zero_le _, fun l hl => ⟨_, _, _, rfl, ?_⟩⟩⟩
    obtain ⟨mask, rfl⟩ := Int.eq_ofNat_of_zero_le r80
    have hmask : mask < 2 ^ 12 := Int.ofNat_lt.mp r81
    have c8 : H8 c6 = some (.lst (natsV sp)) := B8 _ _ upd_same nc6
    have B08 : But p H H8 := B04.trans ((But.of S5).trans (B6.trans ((But.of S7).trans B8)))
    have nlc : c6 ≠ l := ne_of_none c8 hl
    have p300 : 300 < 2 ^ 9 := by decide
    refine ⟨_, rfl, _, rfl, by omega, by omega, ?_⟩
    rw [Int.toNat_natCast]
    refine for_range (n := c) (fun i σ H' => Same H8 H' ∧ H' l = some (.lst (natsV (fw sp mask i))) ∧ ∃ u v w x : Option V, σ = [some (.ref p), some (.int (c : Int)), some (.ref c6), some (.int (mask : Int)), some (.ref l), u, v, w, x, none])
      ⟨same_new hl, upd_same, none, none, none, none, rfl⟩ ?_ ?_
    · rintro i σ H9 hi ⟨S9, hl9', u, v, w, x, rfl⟩
      refine ⟨_, rfl, _, rfl, _, _, rfl, ?_⟩
      have c9 := S9 _ _ c8
      refine ⟨_, rfl, c6, rfl, ⟨_, SqL.of c9⟩, for_list (xs := natsV sp) (fun j σ' H' => H' = H9 ∧ ∃ x : Option V, σ' = [some (.ref p), some (.int (c : Int)), some (.ref c6), some (.int (mask : Int)), some (.ref l), some (.int (0 + (i : Int))), some (.int ((mask ^^^ M05.G (sp.take j) i : Nat) : Int)), some (.int ((i / 2 ^ j : Nat) : Int)), x, none]) ⟨rfl, x, ?_⟩ (fun j σ' H' _ z => by rw [z.1]; exact SqL.of c9) ?_ ?_⟩
      · show [some (V.ref p), some (V.int (c : Int)), some (V.ref c6), some (V.int (mask : Int)), some (V.ref l), some (V.int (0 + (i : Int))), some (V.int (mask : Int)), some (V.int (0 + (i : Int))), x, none] = _
        have e1 : mask ^^^ M05.G (sp.take 0) i = mask := Nat.xor_zero _
        rw [e1, Nat.pow_zero, Nat.div_one, Int.zero_add]
      · rintro j y σ' H' hy ⟨rfl, x2, rfl⟩
        obtain ⟨d, hd, rfl⟩ := natsV_at hy
        have hd12 := lt9 d (List.mem_of_getElem? hd)
        have hj : j < sp.length := (List.getElem?_eq_some_iff.mp hd).1
        have etk : sp.take (j + 1) = sp.take j ++ [d] := by
          rw [List.take_add_one, hd]
          rfl
        have elen : (sp.take j).length = j := by
          rw [List.length_take]
          omega
        have eG : M05.G (sp.take (j + 1)) i = M05.G (sp.take j) i ^^^ (if i / 2 ^ j % 2 = 1 then 2 ^ d else 0) := by rw [etk, G_snoc, elen]
        have ehalf : ((i / 2 ^ j : Nat) : Int) / 2 = ((i / 2 ^ (j + 1) : Nat) : Int) := by
          rw [Nat.pow_succ, ← Nat.div_div_eq_div_mul]
          omega
        refine ⟨_, rfl, .inl ⟨_, rfl, _, _, rfl, rfl, (by show (0 : Int) < 2; decide), rfl, _, rfl, ?_⟩⟩
        refine iteB (fun cb => ?_) (fun cb => ?_)
        · have cb : ((i / 2 ^ j : Nat) : Int) % 2 = 1 := V.int.inj (of_decide_eq_true cb)
          have cb2 : i / 2 ^ j % 2 = 1 := by omega
          rw [if_pos cb2] at eG
          refine ⟨_, rfl, _, rfl, d, rfl, rfl, by omega, _, _, rfl, rfl, _, rfl, _, _, rfl, rfl, wide_div (by show (0 : Int) < 2; decide) two_i (by decide) (by decide), rfl, some (.int (d : Int)), ?_⟩
          show [some (V.ref p), some (V.int (c : Int)), some (V.ref c6), some (V.int (mask : Int)), some (V.ref l), some (V.int (0 + (i : Int))), some (V.int (Builtin.bitXor ((mask ^^^ M05.G (sp.take j) i : Nat) : Int) ((2 ^ d : Nat) : Int))), some (V.int (((i / 2 ^ j : Nat) : Int) / 2)), _, none] = _
          rw [xor_nat, ehalf, eG, Nat.xor_assoc]
        · have cb : ¬ ((i / 2 ^ j : Nat) : Int) % 2 = 1 := fun z => by
            have cb := of_decide_eq_false cb
            exact cb (congrArg V.int z)
          have cb2 : ¬ i / 2 ^ j % 2 = 1 := by omega
          rw [if_neg cb2, Nat.xor_zero] at eG
          refine ⟨_, rfl, _, _, rfl, rfl, wide_div (by show (0 : Int) < 2; decide) two_i (by decide) (by decide), rfl, some (.int (d : Int)), ?_⟩
          show [some (V.ref p), some (V.int (c : Int)), some (V.ref c6), some (V.int (mask : Int)), some (V.ref l), some (V.int (0 + (i : Int))), some (V.int ((mask ^^^ M05.G (sp.take j) i : Nat) : Int)), some (V.int (((i / 2 ^ j : Nat) : Int) / 2)), _, none] = _
          rw [ehalf, eG]
      · rintro σ' H' ⟨rfl, x2, rfl⟩
        refine ⟨_, rfl, .inl ⟨rfl, _, SqL.of hl9'⟩, _, rfl, l, _, _, rfl, rfl, hl9', by rw [natsV_len, fw_len, sizeLine_eq]; omega, ?_⟩
        refine ⟨fun o2 o e => ?_, ?_, _, _, _, _, rfl⟩
        · rw [upd_ne (ne_of_none e hl)]
          exact S9 _ _ e
        · rw [upd_same, fw_next, natsV_snoc, natsV_len, List.take_length]
    · rintro σ H9 ⟨S9, hl9', u, v, w, x, rfl⟩
      have hp9 : c ≤ 2 ^ sp.length := by rw [hl9]; omega
      have hE : M04.E c ≤ 10000000 := Nat.le_trans (M04.E_le (k := 9) (by omega)) (by omega)
      have le := log_few hE
      have csm : c < 2 ^ 1000 := Nat.lt_of_le_of_lt hc (Nat.lt_of_lt_of_le p300 (Nat.pow_le_pow_right (by decide) (by decide)))
      refine ⟨_, rfl, c, rfl, by omega, fun H10 S10 => ?_⟩
      have hl10 := S10 _ _ hl9'
      have hsm : ∀ n ∈ fw sp mask c, n < 2 ^ 1000 := fun n hn => by
        obtain ⟨i, _, rfl⟩ := List.mem_map.mp hn
        exact Nat.lt_trans (Nat.xor_lt_two_pow hmask (G_lt i lt9)) (Nat.pow_lt_pow_right (by decide) (by decide))
      have hpr : M05.prs (fw sp mask c) = M04.E c := M05.prs_G mask c nd hp9
      refine ⟨_, rfl, _, rfl, .inr ⟨fw sp mask c, lot_lst hl10 (fw_nodup nd hp9) (by rw [fw_len]; omega), .inr ⟨by rw [fw_len]; omega, hsm, fun H11 S11 => ?_⟩⟩⟩
      rw [hpr]
      refine ⟨_, rfl, le, _, rfl, _, rfl, le, rfl, _, rfl, ?_⟩
      rw [same_yes]
      refine ⟨_, rfl, _, true, rfl, isI_int _, fun _ => ⟨c, rfl, csm, fun H12 S12 => ⟨_, rfl, le, _, rfl, _, rfl, le, rfl, ?_⟩⟩, fun z => no_nat z⟩
      show Q (.bl (decide (V.str _ = V.str _))) _
      rw [same_yes]
      have S := S9.trans (S10.trans (S11.trans S12))
      exact q _ ((O8.same S).mono (by omega)) (B08.trans (But.of S))
end
end K05
namespace K05
open PySem PySem.Spec PyProof.Rows L2 OB SkE LamX
structure ErrR (K : PySem.W.Frag) (CF C : Addr) : Prop where
  xf : XfC K C
  ec : ExcC K C
  ex : PySem.W.exmOne K (.ref C) (.ref CF) = some true
structure Kinds (K : PySem.W.Frag) (mg : Str → Option Value) (CF CW CM : Addr) : Prop where
  gF : mg "FlipError" = some (.ref CF)
  gW : mg "BadWord" = some (.ref CW)
  gM : mg "TooMany" = some (.ref CM)
  rW : ErrR K CF CW
  rM : ErrR K CF CM
  pW : PySem.W.findIn K (.ref CW) "part" = some none
  wM : PySem.W.findIn K (.ref CM) "what" = some none
  mM : PySem.W.findIn K (.ref CM) "most" = some none
  ww : PySem.W.kitOne K (.ref CW) (.ref CW) = some true
  mm : PySem.W.kitOne K (.ref CM) (.ref CM) = some true
def spRefused (K : PySem.W.Frag) : Sp := fun vs H Q _ => ∃ (x : V) (kind : Str), vs = [x, .str kind] ∧ ((kind = "none" ∧ NoLot K H x (some 0) none) ∨ (kind = "many" ∧ ∃ ns : List Nat, IsLot K H x (some 0) none (iv ns) ∧ 1024 < ns.length)) ∧ ∀ H', Same H H' → Q (.bl true) H'
section
variable {P : Program} {w : World} {K : PySem.W.Frag} {mg : Str → Option Value} {base : Heap}
theorem sc__law_is_refused : FnScope ["words", "kind", "caught", "error"] ["words", "kind"] (defScope s__law_is_refused) := ⟨rfl, rfl, rfl, by decide +kernel, rfl, by decide +kernel, by decide +kernel⟩
theorem ok__law_is_refused {f f1 CF CW CM : Addr} {fd fd1 : FuncData} (F : Fun K "_law_is_refused" "_law_is_refused" s__law_is_refused f fd) (T : Blt mg) (Z : Kinds K mg CF CW CM)
    (D_pairs_among : Df K mg "pairs_among" s_pairs_among ["words"] f1 fd1) (G_pairs_among : FnOk P w K mg base (L2.CX P w) 7 f1 fd1 ["words"] (spAmong K CW CM)) :
    FnOk P w K mg base CX0 9 f fd ["words", "kind"] (spRefused K) := by
  have g_FlipError := Z.gF
  have g_BadWord := Z.gW
  have g_TooMany := Z.gM
  refine F.ok sc__law_is_refused (fun vs H Q E h => ?_) (fun cdv A outer s H vs Q E hr h => ?_)
  · obtain ⟨x, kind, rfl, _⟩ := h
    rfl
  · obtain ⟨x, kind, rfl, h, k⟩ := h
    refine ⟨_, (pss_cons (ps_set (i := 2) sc__law_is_refused.nd rfl (Or.inl rfl) pe_non)
  (pss_cons (ps_try_keep (i := 3) (j := 2) (Wout := fun _ _ _ _ => False) rfl rfl rfl sc__law_is_refused.nd rfl rfl rfl rfl ⟨by rfl, by decide, .inl g_FlipError⟩ L2.takes0 (fun W pn xe tk _ => (pss_one (ps_expr (pe_callS G_pairs_among (hr.mono (by decide)) (by rfl) D_pairs_among.g D_pairs_among.F.kp D_pairs_among.b (fun σ => passAt tk σ) (pa_cons (pv 0) pa_nil))))))
  (pss_cons (ps_if (pt_cmpR op_eq (pv 1) pe_str (nomark _)) (pss_one (ps_ret (pe_and (pe_callB (call_or call_isX call_isi) (by rfl) T.n_isinstance (by decide +kernel) (pa_cons (pv 2) (pa_cons (pe_glob (v := .ref _) (by rfl) g_TooMany rfl) pa_nil))) (pe_one (pe_cmpR (op_eqD hr.units) (pe_tup (pa_cons (pe_xa (pv 2)) (pa_cons (pe_xa (pv 2)) pa_nil))) (pe_tup (pa_cons pe_str (pa_cons pe_int pa_nil))) (nomark _)))))) pss_nil)
  (pss_one (ps_ret (pe_and (pe_callB (call_or call_isX call_isi) (by rfl) T.n_isinstance (by decide +kernel) (pa_cons (pv 2) (pa_cons (pe_glob (v := .ref _) (by rfl) g_BadWord rfl) pa_nil))) (pe_one (pe_cmpR op_eq (pe_xa (pv 2)) pe_str (nomark _))))))))), ?_⟩
    rcases h with ⟨rfl, hn⟩ | ⟨rfl, ns, hl, hlen⟩
    · refine ⟨_, rfl, _, rfl, .inl ⟨hn, fun H1 S1 dd hd => ?_⟩⟩
      refine ⟨true, Z.rW.ex, fun _ a ha => ?_, fun z => nomatch z⟩
      have nad : dd ≠ a := ne_of_none upd_same ha
      have hd1 : (upd (upd H1 dd (.xd [(("part" : Str), .str "words")])) a (ExA (.ref CW) (some dd) a)) dd = some (.xd [(("part" : Str), .str "words")]) := by
        rw [upd_ne nad, upd_same]
      refine ⟨_, rfl, rfl, _, rfl, iteB (fun c => absurd c (by decide +kernel)) fun _ => ?_⟩
      refine ⟨_, rfl, .inl ⟨a, CW, some dd, .ref CW, .ref CW, true, rfl, Z.rW.ec, upd_same, fun z e => by cases e; exact ⟨_, hd1⟩, .own CW, Z.ww, ?_⟩⟩
      refine ⟨true, rfl, _, rfl, a, CW, dd, _, _, rfl, Z.rW.xf, Z.pW, upd_same, hd1, rfl, rfl, ?_⟩
      rw [same_yes]
      exact k _ (S1.trans ((same_new hd).trans (same_new ha)))
    · refine ⟨_, rfl, _, rfl, .inr ⟨ns, hl, .inl ⟨hlen, fun H1 S1 dd hd => ?_⟩⟩⟩
      refine ⟨true, Z.rM.ex, fun _ a ha => ?_, fun z => nomatch z⟩
      have nad : dd ≠ a := ne_of_none upd_same ha
      have hd1 : (upd (upd H1 dd (.xd [(("most" : Str), .int 1024), (("what" : Str), .str "words")])) a (ExA (.ref CM) (some dd) a)) dd = some (.xd [(("most" : Str), .int 1024), (("what" : Str), .str "words")]) := by
        rw [upd_ne nad, upd_same]
      refine ⟨_, rfl, rfl, _, rfl, iteB (fun _ => ?_) fun c => absurd c (by decide +kernel)⟩
      refine ⟨_, rfl, .inl ⟨a, CM, some dd, .ref CM, .ref CM, true, rfl, Z.rM.ec, upd_same, fun z e => by cases e; exact ⟨_, hd1⟩, .own CM, Z.mm, ?_⟩⟩
      refine ⟨true, rfl, ?_⟩
      refine ⟨_, rfl, a, CM, dd, _, _, rfl, Z.rM.xf, Z.wM, upd_same, hd1, rfl, _, rfl, a, CM, dd, _, _, rfl, Z.rM.xf, Z.mM, upd_same, hd1, rfl, by show 2 ≤ sizeLine; decide, fun t1 ht1 => ⟨by show 2 ≤ sizeLine; decide, fun t2 ht2 => ?_⟩⟩
      have g1 := same_new (o := .tup [.str "words", .int 1024]) ht2 _ _ (upd_same (H := upd (upd H1 dd (.xd [(("most" : Str), .int 1024), (("what" : Str), .str "words")])) a (ExA (.ref CM) (some dd) a)) (a := t1) (o := .tup [.str "words", .int 1024]))
      refine ⟨.tuple [.str "words", .int 1024], .tuple [.str "words", .int 1024], Dp.tup (SqT.of g1) (.cons (.str _) (.cons (.int _) .nil)), Dp.tup (SqT.of upd_same) (.cons (.str _) (.cons (.int _) .nil)), by decide +kernel, by decide +kernel, ?_⟩
      rw [show PyData.eqv (.tuple [.str "words", .int 1024]) (.tuple [.str "words", .int 1024]) = true by decide +kernel]
      exact k _ (S1.trans ((same_new hd).trans ((same_new ha).trans ((same_new ht1).trans (same_new ht2)))))
end
end K05
namespace K05
open PySem PySem.Spec PyProof.Rows L2 OB SkE LamX
theorem cut_from {xs : List V} {k : Nat} (h : k ≤ xs.length) : cutV xs (some (k : Int)) none = xs.drop k := by
  unfold cutV
  have a : HT.sIx xs.length xs.length none = xs.length := rfl
  rw [a, HT.sIx_nat, Nat.min_eq_left h, List.take_of_length_le]
  rw [List.length_drop]
  exact Nat.le_refl _
/-- one odd item among words -/
def OddItem (K : PySem.W.Frag) (H : Hp) (v : V) : Prop := ∃ c, EvI K H v c ∧ (c && inB (some 0) none v) = false
theorem no_bad {K : PySem.W.Frag} {H : Hp} {a : Addr} {la lb : List Nat} {v : V} (h : H a = some (.lst (natsV la ++ [v] ++ natsV lb))) (hl : la.length + lb.length ≤ 1000) (ho : OddItem K H v) : NoLot K H (.ref a) (some 0) none := by
  obtain ⟨c, hc, hb⟩ := ho
  have hall : ∀ (l : List Nat) (w : V), w ∈ natsV l → ∃ n : Nat, w = V.int (n : Int) := fun l w hw => by
    obtain ⟨n, _, e⟩ := List.mem_map.mp hw
    exact ⟨n, e.symm⟩
  refine .inr ⟨a, _, List.replicate la.length true ++ [false] ++ List.replicate lb.length true, rfl, .inl (SqL.of h), ?_, fun H' S => isL_lst (S _ _ h), ?_, ?_, ?_⟩
  · rw [List.length_append, List.length_append, natsV_len, natsV_len, List.length_singleton]
    omega
  · rw [List.length_append, List.length_append, List.length_append, List.length_append, natsV_len, natsV_len, List.length_replicate, List.length_replicate]
    rfl
  · intro i w b hw hb2
    have nat_ok : ∀ n : Nat, ∃ c, EvI K H (V.int (n : Int)) c ∧ true = (c && inB (some 0) none (V.int (n : Int))) := fun n => ⟨true, fun H' _ => isI_int _, by rw [inB_nat]; rfl⟩
    by_cases h1 : i < la.length
    · rw [List.append_assoc, List.getElem?_append_left (by rw [natsV_len]; exact h1)] at hw
      rw [List.append_assoc, List.getElem?_append_left (by rw [List.length_replicate]; exact h1), List.getElem?_replicate, if_pos h1] at hb2
      obtain ⟨n, _, rfl⟩ := natsV_at hw
      cases hb2
      exact nat_ok n
    · by_cases h2 : i = la.length
      · subst h2
        rw [List.append_assoc, List.getElem?_append_right (by rw [natsV_len]; exact Nat.le_refl _), natsV_len, Nat.sub_self] at hw
        rw [List.append_assoc, List.getElem?_append_right (by rw [List.length_replicate]; exact Nat.le_refl _), List.length_replicate, Nat.sub_self] at hb2
        cases hw
        cases hb2
        exact ⟨c, hc, hb.symm⟩
      · have e1 : (natsV la ++ [v]).length = la.length + 1 := by rw [List.length_append, natsV_len]; rfl
        have e2 : (List.replicate la.length true ++ [false]).length = la.length + 1 := by rw [List.length_append, List.length_replicate]; rfl
        rw [List.getElem?_append_right (by rw [e1]; omega), e1] at hw
        rw [List.getElem?_append_right (by rw [e2]; omega), e2, List.getElem?_replicate] at hb2
        obtain ⟨n, _, rfl⟩ := natsV_at hw
        by_cases h3 : i - (la.length + 1) < lb.length
        · rw [if_pos h3] at hb2
          cases hb2
          exact nat_ok n
        · rw [if_neg h3] at hb2
          cases hb2
  · intro z
    rw [List.all_append, List.all_append] at z
    simp at z
theorem no_twice {K : PySem.W.Frag} {H : Hp} {a : Addr} {l : List Nat} (h : H a = some (.lst (natsV l))) (hl : l.length ≤ 1050) (hn : ¬ l.Nodup) : NoLot K H (.ref a) (some 0) none := by
  refine .inr ⟨a, _, l.map fun _ => true, rfl, .inl (SqL.of h), by rw [natsV_len]; exact hl, fun H' S => isL_lst (S _ _ h), by rw [natsV_len, List.length_map], ?_, fun _ => ⟨iv l, (iv_V l).symm, fun z => hn ?_⟩⟩
  · intro i w b hw hb2
    obtain ⟨n, hn2, rfl⟩ := natsV_at hw
    rw [List.getElem?_map, hn2] at hb2
    cases hb2
    exact ⟨true, fun H' _ => isI_int _, by rw [inB_nat]; rfl⟩
  · unfold iv at z
    exact (List.pairwise_map.mp z).imp fun e q => e (by rw [q])
theorem E_pow (k : Nat) : M04.E (2 ^ k) * 2 = k * 2 ^ k := by
  induction k with
  | zero => rfl
  | succ k ih =>
    rw [Nat.pow_succ, Nat.mul_comm (2 ^ k) 2, M04.E_two, Nat.add_mul k 1, Nat.one_mul]
    have e : k * (2 * 2 ^ k) = 2 * (k * 2 ^ k) := by rw [← Nat.mul_assoc, Nat.mul_comm k 2, Nat.mul_assoc]
    omega
theorem E1024 : M04.E 1024 = 5120 := by
  have h := E_pow 10
  have e : (2 : Nat) ^ 10 = 1024 := by decide
  rw [e] at h
  omega
theorem same_new2 {H : Hp} {d : Addr} {o1 o2 : HO} (hd : H d = none) : Same H (upd (upd H d o1) d o2) := fun q o e => by
  rw [upd_ne (ne_of_none e hd), upd_ne (ne_of_none e hd)]
  exact e
theorem rgV_nats (n : Nat) : rgV 0 ((n : Nat) : Int) = natsV (List.range n) := by
  rw [rgV_iv, iv_V]
section
variable {P : Program} {w : World} {K : PySem.W.Frag} {mg : Str → Option Value} {base : Heap}
theorem sc__law_refused_right : FnScope ["hive", "words", "at", "odd", "bent", "more"] ["hive"] (defScope s__law_refused_right) := ⟨rfl, rfl, rfl, by decide +kernel, rfl, by decide +kernel, by decide +kernel⟩
theorem ok__law_refused_right {f f1 f2 f3 f4 CW CM : Addr} {fd fd1 fd2 fd3 fd4 : FuncData} (F : Fun K "_law_refused_right" "_law_refused_right" s__law_refused_right f fd) (T : Blt mg)
    (D__law_one : Df K mg "_law_one" s__law_one ["hive", "some"] f1 fd1) (G__law_one : FnOk P w K mg base CX0 2 f1 fd1 ["hive", "some"] spOne)
    (D__law_sting : Df K mg "_law_sting" s__law_sting ["hive", "many"] f2 fd2) (G__law_sting : FnOk P w K mg base CX0 1 f2 fd2 ["hive", "many"] spDraw)
    (D__law_is_refused : Df K mg "_law_is_refused" s__law_is_refused ["words", "kind"] f3 fd3) (G__law_is_refused : FnOk P w K mg base CX0 9 f3 fd3 ["words", "kind"] (spRefused K))
    (D_pairs_among : Df K mg "pairs_among" s_pairs_among ["words"] f4 fd4) (GX_pairs_among : FnOk P w K mg base (L2.CX P w) 7 f4 fd4 ["words"] (spAmong K CW CM)) :
    FnOk P w K mg base CX0 10 f fd ["hive"] (spRight 10) := by
  have G_pairs_among := calm_of GX_pairs_among
  refine F.ok sc__law_refused_right (fun vs H Q E h => ?_) (fun cdv A outer s H vs Q E hr h => ?_)
  · obtain ⟨p, b, n, rfl, _⟩ := h
    rfl
  · obtain ⟨p, b, n, rfl, O, hn, q⟩ := h
    refine ⟨_, (pss_cons (ps_set (i := 1) sc__law_refused_right.nd rfl (Or.inl rfl) (pe_op op_cat (pe_lst (pa_cons pe_int (pa_cons pe_int (pa_cons pe_int pa_nil)))) (pe_lst (pa_cons (pe_op op_add pe_int (pe_call G__law_sting (hr.mono (by decide)) (by rfl) D__law_sting.g D__law_sting.F.kp D__law_sting.b .nil pass0 (pa_cons (pv 0) (pa_cons pe_int pa_nil)))) pa_nil))))
  (pss_cons (ps_par (i := 2) (j := 3) (by rfl) sc__law_refused_right.nd rfl rfl (by decide) rfl rfl (pa_cons (pe_call G__law_sting (hr.mono (by decide)) (by rfl) D__law_sting.g D__law_sting.F.kp D__law_sting.b .nil pass0 (pa_cons (pv 0) (pa_cons pe_int pa_nil))) (pa_cons (pe_call G__law_one (hr.mono (by decide)) (by rfl) D__law_one.g D__law_one.F.kp D__law_one.b .nil pass0 (pa_cons (pv 0) (pa_cons (pe_lst (pa_cons pe_non (pa_cons (pe_un un_neg pe_int) (pa_cons pe_bl (pa_cons pe_str (pa_cons (pe_lst (pa_cons pe_int pa_nil)) (pa_cons (pe_tup pa_nil) (pa_cons pe_int (pa_cons pe_int pa_nil))))))))) pa_nil))) pa_nil)) (by rfl))
  (pss_cons (ps_set (i := 4) sc__law_refused_right.nd rfl (Or.inl rfl) (pe_op op_cat (pe_op op_cat (pe_slice sl_list (pv 1) po_none (po_some (pv 2))) (pe_lst (pa_cons (pv 3) pa_nil))) (pe_slice sl_list (pv 1) (po_some (pv 2)) po_none)))
  (pss_cons (ps_if (PW.pt (pw_or (pt_not (pt_val (pe_call G__law_is_refused (hr.mono (by decide)) (by rfl) D__law_is_refused.g D__law_is_refused.F.kp D__law_is_refused.b .nil pass0 (pa_cons (pv 4) (pa_cons pe_str pa_nil))))) (pw_or1 (pt_not (pt_val (pe_call G__law_is_refused (hr.mono (by decide)) (by rfl) D__law_is_refused.g D__law_is_refused.F.kp D__law_is_refused.b .nil pass0 (pa_cons (pe_call G__law_one (hr.mono (by decide)) (by rfl) D__law_one.g D__law_one.F.kp D__law_one.b .nil pass0 (pa_cons (pv 0) (pa_cons (pe_lst (pa_cons pe_non (pa_cons pe_int (pa_cons pe_str (pa_cons pe_dnewK (pa_cons (pe_disp (pps_cons pe_int pe_int pps_nil) (by rfl) (by rfl) (fun z => by cases z) (by decide)) (pa_cons pe_bl pa_nil))))))) pa_nil))) (pa_cons pe_str pa_nil)))))))) (pss_one (ps_ret pe_bl)) pss_nil)
  (pss_cons (ps_set (i := 5) sc__law_refused_right.nd rfl (Or.inl rfl) (pe_listRg rfl (by rfl) T.n_list (prg_1 (by rfl) T.n_range (pe_op op_add pe_int (pe_call G__law_sting (hr.mono (by decide)) (by rfl) D__law_sting.g D__law_sting.F.kp D__law_sting.b .nil pass0 (pa_cons (pv 0) (pa_cons pe_int pa_nil)))))))
  (pss_cons (ps_if (PW.pt (pw_or (pt_not (pt_val (pe_call G__law_is_refused (hr.mono (by decide)) (by rfl) D__law_is_refused.g D__law_is_refused.F.kp D__law_is_refused.b .nil pass0 (pa_cons (pv 5) (pa_cons pe_str pa_nil))))) (pw_or1 (pt_not (pt_val (pe_call G__law_is_refused (hr.mono (by decide)) (by rfl) D__law_is_refused.g D__law_is_refused.F.kp D__law_is_refused.b .nil pass0 (pa_cons (pe_op op_cat (pv 5) (pe_lst (pa_cons pe_int pa_nil))) (pa_cons pe_str pa_nil)))))))) (pss_one (ps_ret pe_bl)) pss_nil)
  (pss_one (ps_ret (pe_and (pe_cmpR op_eq (pe_call G_pairs_among (hr.mono (by decide)) (by rfl) D_pairs_among.g D_pairs_among.F.kp D_pairs_among.b .nil pass0 (pa_cons (pe_lst pa_nil) pa_nil)) pe_int (nomark _)) (pe_one (pe_cmpR op_eq (pe_call G_pairs_among (hr.mono (by decide)) (by rfl) D_pairs_among.g D_pairs_among.F.kp D_pairs_among.b .nil pass0 (pa_cons (pe_listRg rfl (by rfl) T.n_list (prg_1 (by rfl) T.n_range pe_int)) pa_nil)) pe_int (nomark _)))))))))))), ?_⟩
    refine ⟨by show 3 ≤ sizeLine; decide, fun l1 hl1 => ?_⟩
    have S1 := same_new (o := .lst [.int 3, .int 1, .int 8]) hl1
    refine ⟨_, rfl, p, b, n, 9, rfl, O.same S1, by omega, by decide, by decide, fun r2 H2 r20 r21 O2 B2 => ⟨_, _, rfl, rfl, by show 1 ≤ sizeLine; decide, fun l2 hl2 => ?_⟩⟩
    obtain ⟨k2, rfl⟩ := Int.eq_ofNat_of_zero_le r20
    obtain ⟨up, hup⟩ := O.pn
    have nl1 : l1 ≠ p := (ne_of_none hup hl1).symm
    have h1 : H2 l1 = some (.lst [.int 3, .int 1, .int 8]) := B2 _ _ upd_same nl1
    have B02 : But p H H2 := (But.of S1).trans B2
    have S2 := same_new (o := .lst [V.int (16 + (k2 : Int))]) hl2
    refine ⟨l1, l2, _, _, rfl, rfl, S2 _ _ h1, upd_same, by show 4 ≤ sizeLine; decide, fun w hw => ?_⟩
    have ew : ([V.int 3, V.int 1, V.int 8] ++ [V.int (16 + (k2 : Int))] : List V) = natsV [3, 1, 8, 16 + k2] := rfl
    rw [ew]
    have S3 := S2.trans (same_new (o := .lst (natsV [3, 1, 8, 16 + k2])) hw)
    have O3 := O2.same S3
    obtain ⟨u3, hu3⟩ := O2.pn
    have nwp : w ≠ p := (ne_of_none (S2 _ _ hu3) hw).symm
    refine ⟨_, rfl, p, b, _, 5, rfl, O3, by omega, by decide, by decide, fun r4 H4 r40 r41 O4 B4 => ?_⟩
    obtain ⟨at4, rfl⟩ := Int.eq_ofNat_of_zero_le r40
    have w4 : H4 w = some (.lst (natsV [3, 1, 8, 16 + k2])) := B4 _ _ upd_same nwp
    have B04 : But p H H4 := B02.trans ((But.of S3).trans B4)
    refine ⟨_, rfl, _, rfl, by show 1 ≤ sizeLine; decide, fun a1 ha1 => ⟨by show 0 ≤ sizeLine; decide, fun a2 ha2 => ⟨by show 8 ≤ sizeLine; decide, fun l5 hl5 => ?_⟩⟩⟩
    have T1 := same_new (o := .lst [.int 1]) ha1
    have T2 := same_new (o := .tup []) ha2
    obtain ⟨u4, hu4⟩ := O4.pn
    have nl5 : l5 ≠ p := (ne_of_none (T2 _ _ (T1 _ _ hu4)) hl5).symm
    have na1 : a1 ≠ p := (ne_of_none hu4 ha1).symm
    have na2 : a2 ≠ p := (ne_of_none (T1 _ _ hu4) ha2).symm
    have T3 := same_new (o := .lst [.non, .int (-1), .bl true, .str "2", .ref a1, .ref a2, .int 8, .int 1]) hl5
    have T13 := (T1.trans T2).trans T3
    refine ⟨p, b, l5, _, _, rfl, O4.same T13, by omega, upd_same, nl5, by show 0 < 8; decide, by show 8 ≤ 1000; decide, fun j x H5 hj O5 B5 => ⟨_, _, rfl, ?_⟩⟩
    have w5 : H5 w = some (.lst (natsV [3, 1, 8, 16 + k2])) := B5 _ _ (T13 _ _ w4) nwp
    have g1 : H5 a1 = some (.lst [.int 1]) := B5 _ _ (T3 _ _ (T2 _ _ upd_same)) na1
    have g2 : H5 a2 = some (.tup []) := B5 _ _ (T3 _ _ upd_same) na2
    have B05 : But p H H5 := B04.trans ((But.of T13).trans B5)
    have hodd : OddItem K H5 x ∨ ∃ d : Nat, x = V.int (d : Int) ∧ d ∈ [3, 1, 8, 16 + k2] := by
      match j, hj with
      | 0, e => cases e; exact .inl ⟨false, fun H' _ => isI_non, rfl⟩
      | 1, e => cases e; exact .inl ⟨true, fun H' _ => isI_int _, by decide +kernel⟩
      | 2, e => cases e; exact .inl ⟨false, fun H' _ => isI_bl _, rfl⟩
      | 3, e => cases e; exact .inl ⟨false, fun H' _ => isI_str _, rfl⟩
      | 4, e => cases e; exact .inl ⟨false, fun H' S => isI_lst (S _ _ g1), rfl⟩
      | 5, e => cases e; exact .inl ⟨false, fun H' S => isI_tup (S _ _ g2), rfl⟩
      | 6, e => cases e; exact .inr ⟨8, rfl, by simp⟩
      | 7, e => cases e; exact .inr ⟨1, rfl, by simp⟩
      | j + 8, e => cases e
    have hat : at4 ≤ (natsV [3, 1, 8, 16 + k2]).length := by
      show at4 ≤ 4
      omega
    have etk : (natsV [3, 1, 8, 16 + k2]).take at4 = natsV ([3, 1, 8, 16 + k2].take at4) := by unfold natsV; rw [List.map_take]
    have edr : (natsV [3, 1, 8, 16 + k2]).drop at4 = natsV ([3, 1, 8, 16 + k2].drop at4) := by unfold natsV; rw [List.map_drop]
    refine ⟨_, rfl, _, rfl, _, rfl, w, _, rfl, SqL.of w5, fun c1 hc1 => ?_⟩
    rw [cut_to hat, etk]
    have Z1 := same_new (o := .lst (natsV ([3, 1, 8, 16 + k2].take at4))) hc1
    refine ⟨_, rfl, by show 1 ≤ sizeLine; decide, fun c2 hc2 => ?_⟩
    have Z2 := same_new (o := .lst [x]) hc2
    have hlt : (natsV ([3, 1, 8, 16 + k2].take at4)).length ≤ 4 := by
      rw [natsV_len, List.length_take]
      exact Nat.min_le_right _ _
    have hld : (natsV ([3, 1, 8, 16 + k2].drop at4)).length ≤ 4 := by
      rw [natsV_len, List.length_drop]
      exact Nat.sub_le _ _
    refine ⟨c1, c2, _, _, rfl, rfl, Z2 _ _ upd_same, upd_same, by rw [sizeLine_eq]; show _ + 1 ≤ _; omega, fun c3 hc3 => ?_⟩
    have Z3 := same_new (o := .lst (natsV ([3, 1, 8, 16 + k2].take at4) ++ [x])) hc3
    have Z13 := (Z1.trans Z2).trans Z3
    refine ⟨_, rfl, _, rfl, _, rfl, w, _, rfl, SqL.of (Z13 _ _ w5), fun c4 hc4 => ?_⟩
    rw [cut_from hat, edr]
    have Z4 := same_new (o := .lst (natsV ([3, 1, 8, 16 + k2].drop at4))) hc4
    refine ⟨c3, c4, _, _, rfl, rfl, Z4 _ _ upd_same, upd_same, by rw [sizeLine_eq, List.length_append]; show _ + 1 + _ ≤ _; omega, fun c5 hc5 => ?_⟩
    have Z5 := same_new (o := .lst (natsV ([3, 1, 8, 16 + k2].take at4) ++ [x] ++ natsV ([3, 1, 8, 16 + k2].drop at4))) hc5
    have Z15 := (Z13.trans Z4).trans Z5
    have hno : NoLot K (upd (upd (upd (upd (upd H5 c1 (.lst (natsV ([3, 1, 8, 16 + k2].take at4)))) c2 (.lst [x])) c3 (.lst (natsV ([3, 1, 8, 16 + k2].take at4) ++ [x]))) c4 (.lst (natsV ([3, 1, 8, 16 + k2].drop at4)))) c5 (.lst (natsV ([3, 1, 8, 16 + k2].take at4) ++ [x] ++ natsV ([3, 1, 8, 16 + k2].drop at4)))) (.ref c5) (some 0) none := by
      rw [natsV_len] at hlt hld
      rcases hodd with ⟨c, hc, hb⟩ | ⟨d, rfl, hd⟩
      · exact no_bad upd_same (by omega) ⟨c, fun H' S => hc H' (Z15.trans S), hb⟩
      · have e : natsV ([3, 1, 8, 16 + k2].take at4) ++ [V.int (d : Int)] ++ natsV ([3, 1, 8, 16 + k2].drop at4) = natsV ([3, 1, 8, 16 + k2].take at4 ++ [d] ++ [3, 1, 8, 16 + k2].drop at4) := by
          unfold natsV
          rw [List.map_append, List.map_append]
          rfl
        rw [e]
        refine no_twice upd_same (by rw [List.length_append, List.length_append]; show _ + 1 + _ ≤ _; omega) fun z => ?_
        have z2 := List.nodup_append.mp z
        have z3 := List.nodup_append.mp z2.1
        rw [← List.take_append_drop at4 [3, 1, 8, 16 + k2]] at hd
        rcases List.mem_append.mp hd with m | m
        · exact z3.2.2 d m d List.mem_cons_self rfl
        · exact z2.2.2 d (List.mem_append_right _ List.mem_cons_self) d m rfl
    refine ⟨_, rfl, .ref c5, "none", rfl, .inl ⟨rfl, hno⟩, fun H6 S6 => ⟨true, rfl, ?_⟩⟩
    have O6 := O5.same (Z15.trans S6)
    have B06 : But p H H6 := B05.trans (But.of (Z15.trans S6))
    refine ⟨_, rfl, fun d1 hd1 => fun d2 hd2 => ?_⟩
    have D1 := same_new (o := .dK []) hd1
    have D2 := same_new2 (o1 := .dK []) (o2 := .dK (mergeK [] [((Sum.inl 1 : Key), V.int 2)])) hd2
    refine ⟨upd_same, [(Sum.inl 1, .int 2)], rfl, by decide, by show 6 ≤ sizeLine; decide, fun l6 hl6 => ?_⟩
    have D12 := D1.trans D2
    obtain ⟨u6, hu6⟩ := O6.pn
    have nd1 : d1 ≠ p := (ne_of_none hu6 hd1).symm
    have nd2 : d2 ≠ p := (ne_of_none (D1 _ _ hu6) hd2).symm
    have nl6 : l6 ≠ p := (ne_of_none (D12 _ _ hu6) hl6).symm
    have D3 := same_new (o := .lst [.non, .int 7, .str "13", .ref d1, .ref d2, .bl true]) hl6
    have D13 := D12.trans D3
    refine ⟨p, b, l6, _, _, rfl, O6.same D13, by omega, upd_same, nl6, by show 0 < 6; decide, by show 6 ≤ 1000; decide, fun j2 x2 H7 hj2 O7 B7 => ?_⟩
    have f1 : H7 d1 = some (.dK []) := B7 _ _ (D3 _ _ (D2 _ _ upd_same)) nd1
    have f2 : H7 d2 = some (.dK (mergeK [] [((Sum.inl 1 : Key), V.int 2)])) := B7 _ _ (D3 _ _ upd_same) nd2
    have hev : EvL K H7 x2 false := by
      match j2, hj2 with
      | 0, e => cases e; exact fun H' _ => isL_non
      | 1, e => cases e; exact fun H' _ => isL_int _
      | 2, e => cases e; exact fun H' _ => isL_str _
      | 3, e => cases e; exact fun H' S => isL_dK (S _ _ f1)
      | 4, e => cases e; exact fun H' S => isL_dK (S _ _ f2)
      | 5, e => cases e; exact fun H' _ => isL_bl _
      | j + 6, e => cases e
    have B07 : But p H H7 := B06.trans ((But.of D13).trans B7)
    refine ⟨x2, "none", rfl, .inl ⟨rfl, .inl hev⟩, fun H8 S8 => ⟨true, rfl, ?_⟩⟩
    refine ⟨_, rfl, p, b, _, 3, rfl, O7.same S8, by omega, by decide, by decide, fun r9 H9 r90 r91 O9 B9 => ?_⟩
    obtain ⟨k9, rfl⟩ := Int.eq_ofNat_of_zero_le r90
    have e9 : rgV 0 (1025 + (k9 : Int)) = natsV (List.range (1025 + k9)) := rgV_nats (1025 + k9)
    refine ⟨_, _, rfl, rfl, _, rfl, RgOk.of_le (by decide) (by show (1025 + (k9 : Int)) ≤ 16777216; omega) (by decide) (by show (0 : Int) ≤ 1025 + (k9 : Int); omega), fun l9 hl9 => ?_⟩
    have hgo : upd H9 l9 (.lst (natsV (List.range (1025 + k9)))) = upd H9 l9 (.lst (rgV 0 (1025 + (k9 : Int)))) := by rw [e9]
    have h9 : upd H9 l9 (.lst (rgV 0 (1025 + (k9 : Int)))) l9 = some (.lst (natsV (List.range (1025 + k9)))) := by rw [e9, upd_same]
    have W9 := same_new (o := .lst (rgV 0 (1025 + (k9 : Int)))) hl9
    have hlr : (List.range (1025 + k9)).length = 1025 + k9 := List.length_range
    refine ⟨_, rfl, .ref l9, "many", rfl, .inr ⟨rfl, List.range (1025 + k9), lot_lst h9 List.nodup_range (by rw [hlr]; omega), by rw [hlr]; omega⟩, fun H10 S10 => ⟨true, rfl, ?_⟩⟩
    refine ⟨_, rfl, by show 1 ≤ sizeLine; decide, fun f5 hf5 => ?_⟩
    have W5 := same_new (o := .lst [V.int 5]) hf5
    have h10 := W5 _ _ (S10 _ _ h9)
    refine ⟨l9, f5, _, _, rfl, rfl, h10, upd_same, by rw [natsV_len, hlr, sizeLine_eq]; show _ + 1 ≤ _; omega, fun f6 hf6 => ?_⟩
    have W6 := same_new (o := .lst (natsV (List.range (1025 + k9)) ++ [V.int 5])) hf6
    have e6 : natsV (List.range (1025 + k9)) ++ [V.int 5] = natsV (List.range (1025 + k9) ++ [5]) := (natsV_snoc _ 5).symm
    refine ⟨.ref f6, "none", rfl, .inl ⟨rfl, ?_⟩, fun H11 S11 => ⟨true, rfl, ?_⟩⟩
    · rw [e6]
      refine no_twice upd_same (by rw [List.length_append, hlr]; show _ + 1 ≤ _; omega) fun z => ?_
      exact (List.nodup_append.mp z).2.2 5 (List.mem_range.mpr (by omega)) 5 List.mem_cons_self rfl
    have W := ((W9.trans S10).trans (W5.trans W6)).trans S11
    refine ⟨Nat.zero_le _, fun g1 hg1 => ?_⟩
    have V1 := same_new (o := .lst []) hg1
    have m0 : IsLot K (upd H11 g1 (.lst [])) (.ref g1) (some 0) none (iv []) := lot_lst upd_same List.nodup_nil (Nat.zero_le _)
    refine ⟨_, rfl, .inr ⟨[], m0, .inr ⟨Nat.zero_le _, fun x hx => (nomatch hx), fun H12 S12 => ⟨rfl, _, rfl, ?_⟩⟩⟩⟩
    refine iteB (fun _ => ?_) fun c => absurd c (by decide)
    refine ⟨1024, rfl, RgOk.of_le (by decide) (by decide) (by decide) (by decide), fun g2 hg2 => ?_⟩
    have e2 : rgV 0 1024 = natsV (List.range 1024) := rgV_nats 1024
    rw [e2]
    have V2 := same_new (o := .lst (natsV (List.range 1024))) hg2
    have hl4 : (List.range 1024).length = 1024 := List.length_range
    have p1024 : 1024 < 2 ^ 1000 := Nat.lt_of_lt_of_le (show 1024 < 2 ^ 11 by decide) (Nat.pow_le_pow_right (by decide) (by decide))
    have m1 : IsLot K (upd H12 g2 (.lst (natsV (List.range 1024)))) (.ref g2) (some 0) none (iv (List.range 1024)) := lot_lst upd_same List.nodup_range (by rw [hl4]; decide)
    refine ⟨_, rfl, .inr ⟨List.range 1024, m1, .inr ⟨by rw [hl4]; exact Nat.le_refl _, fun x hx => Nat.lt_trans (List.mem_range.mp hx) p1024, fun H13 S13 => ?_⟩⟩⟩
    rw [M05.prs_range, E1024]
    refine ⟨rfl, ?_⟩
    show Q (.bl (decide (V.int ((5120 : Nat) : Int) = V.int 5120))) _
    rw [show decide (V.int ((5120 : Nat) : Int) = V.int 5120) = true from rfl]
    have U := S8
    have S9' := (W.trans V1).trans (S12.trans (V2.trans S13))
    exact q _ ((O9.same S9').mono (by omega)) (B07.trans ((But.of S8).trans (B9.trans (But.of S9'))))
end
end K05
namespace K05
open PySem PySem.Spec PyProof.Rows L2 OB SkE LamX
def spLaw (K : PySem.W.Frag) : Sp := fun vs H Q _ => ∃ (a : Addr) (ns : List Int), vs = [.ref a] ∧ SqL K H a (ns.map V.int) ∧ ns.length ≤ 63 ∧ ∀ H', Q (.bl true) H'
section
variable {P : Program} {w : World} {K : PySem.W.Frag} {mg : Str → Option Value} {base : Heap} {f : Addr}
theorem sc_law : FnScope ["script", "hive", "turn"] ["script"] (defScope s_law) := ⟨rfl, rfl, rfl, by decide +kernel, rfl, by decide +kernel, by decide +kernel⟩
abbrev N_law : List Str := ["script", "hive", "turn"]
theorem ok_law {f1 f2 f3 f4 : Addr} {fd1 fd2 fd3 fd4 : FuncData} {oc kV doc pm ct cd : Value} {od an : Option Addr} {osl : Array (Option Value)} (T : Blt mg)
    (lk : K.lookup f = some ⟨oc, od, .func (PySem.W.fnOf "law" "law" (defArgs s_law) (defBody s_law) (defScope s_law) .none kV doc pm an cd ct), osl⟩) (hcd : PySem.W.codeIn K cd "law" = true)
    (D__law_hive : Df K mg "_law_hive" s__law_hive ["script"] f1 fd1) (G__law_hive : FnOk P w K mg base CX0 1 f1 fd1 ["script"] (spLot K))
    (D__law_counted_right : Df K mg "_law_counted_right" s__law_counted_right ["hive"] f2 fd2) (G__law_counted_right : FnG P w K mg base CX0 9 f2 fd2 ["hive"] (spRight 201))
    (D__law_full_right : Df K mg "_law_full_right" s__law_full_right ["hive"] f3 fd3) (G__law_full_right : FnOk P w K mg base CX0 9 f3 fd3 ["hive"] (spRight 30))
    (D__law_refused_right : Df K mg "_law_refused_right" s__law_refused_right ["hive"] f4 fd4) (G__law_refused_right : FnOk P w K mg base CX0 10 f4 fd4 ["hive"] (spRight 10)) :
    FnG P w K mg base CX0 12 f (PySem.W.fnOf "law" "law" (defArgs s_law) (defBody s_law) (defScope s_law) .none kV doc pm an cd ct) ["script"] (spLaw K) := by
  refine fnG_of lk hcd sc_law (fun vs H Q E h => ?_) fun A outer s H vs Q E hgd hr h => ?_
  · obtain ⟨a, ns, rfl, _⟩ := h
    rfl
  · obtain ⟨a, ns, rfl, hS, hl, k⟩ := h
    have t0 : ∃ t, PSs (cxOf CX0 P w K mg base ["script", "hive", "turn"] "law" (defScope s_law) f cd A outer s H E).nox (defBody s_law) t ∧ t { nx := fun _ H' => Q .non H', rt := Q } (L2.start ["script", "hive", "turn"] [.ref a]) H := by
      refine ⟨_, (pss_cons (ps_set (i := 1) sc_law.nd rfl (Or.inl rfl) (pe_call G__law_hive (hr.mono (by decide)) (by rfl) D__law_hive.g D__law_hive.F.kp D__law_hive.b .nil pass0 (pa_cons (pv 0) pa_nil)))
  (pss_cons (ps_for PassesOwn.never rfl (pi_range1 (by rfl) T.n_range (pa_cons pe_int pa_nil)) (pg_name (i := 2) sc_law.nd rfl (Or.inl rfl)) (pss_one (ps_if (pt_not (pt_val (pe_callG G__law_counted_right hgd (hr.mono (by decide)) (by rfl) D__law_counted_right.g D__law_counted_right.F.kp D__law_counted_right.b .nil pass0 (pa_cons (pv 1) pa_nil)))) (pss_one (ps_ret pe_bl)) pss_nil)))
  (pss_one (ps_ret (pe_and (pe_call G__law_full_right (hr.mono (by decide)) (by rfl) D__law_full_right.g D__law_full_right.F.kp D__law_full_right.b .nil pass0 (pa_cons (pv 1) pa_nil)) (pe_one (pe_call G__law_refused_right (hr.mono (by decide)) (by rfl) D__law_refused_right.g D__law_refused_right.F.kp D__law_refused_right.b .nil pass0 (pa_cons (pv 1) pa_nil)))))))), ?_⟩
      refine ⟨_, rfl, a, ns, rfl, hS, hl, fun p b H1 hp hb O S1 => ?_⟩
      refine ⟨4, rfl, by decide, by decide, ?_⟩
      refine for_range (n := 4) (fun i σ H' => Orch H' p b (201 * i) ∧ ∃ u : Option V, σ = [some (.ref a), some (.ref p), u]) ⟨O, none, rfl⟩ ?_ ?_
      · rintro i σ H2 hi ⟨O2, u, rfl⟩
        refine ⟨_, rfl, p, b, _, rfl, O2, by omega, fun H3 O3 B3 => ⟨true, rfl, ?_⟩⟩
        exact ⟨O3.mono (by omega), _, rfl⟩
      · rintro σ H2 ⟨O2, u, rfl⟩
        refine ⟨_, rfl, p, b, _, rfl, O2, by omega, fun H3 O3 B3 => ⟨true, rfl, ?_⟩⟩
        exact ⟨_, rfl, p, b, _, rfl, O3, by omega, fun H4 O4 B4 => k H4⟩
    obtain ⟨t, h1, h2⟩ := t0
    exact ⟨t, h1.nox, h2⟩
end
end K05
namespace K05
open PySem PySem.Spec PyProof.Rows L2 OB SkE LamX
theorem sc_initN : FnScope ["self", "part"] ["self", "part"] (defScope s_initN) := ⟨rfl, rfl, rfl, by decide +kernel, rfl, by decide +kernel, by decide +kernel⟩
theorem sc_initW : FnScope ["self", "part"] ["self", "part"] (defScope s_initW) := ⟨rfl, rfl, rfl, by decide +kernel, rfl, by decide +kernel, by decide +kernel⟩
theorem sc_initM : FnScope ["self", "what", "most"] ["self", "what", "most"] (defScope s_initM) := ⟨rfl, rfl, rfl, by decide +kernel, rfl, by decide +kernel, by decide +kernel⟩
theorem all_mk {l : PySem.W.OpenLaw} {w : World} {K : PySem.W.Frag} {h : Heap} {mg : Str → Option Value} {fa f_is_integer f_is_within f_is_list f_are_unlike f_need_number f__bits_of f_ones_in f_most_pairs f_pairs_among f__need_words f__pairs_of f__is_one_bit f__law_hive f__law_sting f__law_one f__law_mixed f__law_some f__law_is_near f__law_pairs f__law_below f__law_counted_right f__law_full_right f__law_is_refused f__law_refused_right f_law CF C_BadNumber fi_BadNumber N_BadNumber C_BadWord fi_BadWord N_BadWord C_TooMany fi_TooMany N_TooMany : Addr} {cd_is_integer oc_is_integer kV_is_integer dc_is_integer pm_is_integer ct_is_integer cd_is_within oc_is_within kV_is_within dc_is_within pm_is_within ct_is_within cd_is_list oc_is_list kV_is_list dc_is_list pm_is_list ct_is_list cd_are_unlike oc_are_unlike kV_are_unlike dc_are_unlike pm_are_unlike ct_are_unlike cd_need_number oc_need_number kV_need_number dc_need_number pm_need_number ct_need_number cd__bits_of oc__bits_of kV__bits_of dc__bits_of pm__bits_of ct__bits_of cd_ones_in oc_ones_in kV_ones_in dc_ones_in pm_ones_in ct_ones_in cd_most_pairs oc_most_pairs kV_most_pairs dc_most_pairs pm_most_pairs ct_most_pairs cd_pairs_among oc_pairs_among kV_pairs_among dc_pairs_among pm_pairs_among ct_pairs_among cd__need_words oc__need_words kV__need_words dc__need_words pm__need_words ct__need_words cd__pairs_of oc__pairs_of kV__pairs_of dc__pairs_of pm__pairs_of ct__pairs_of cd__is_one_bit oc__is_one_bit kV__is_one_bit dc__is_one_bit pm__is_one_bit ct__is_one_bit cd__law_hive oc__law_hive kV__law_hive dc__law_hive pm__law_hive ct__law_hive cd__law_sting oc__law_sting kV__law_sting dc__law_sting pm__law_sting ct__law_sting cd__law_one oc__law_one kV__law_one dc__law_one pm__law_one ct__law_one cd__law_mixed oc__law_mixed kV__law_mixed dc__law_mixed pm__law_mixed ct__law_mixed cd__law_some oc__law_some kV__law_some dc__law_some pm__law_some ct__law_some cd__law_is_near oc__law_is_near kV__law_is_near dc__law_is_near pm__law_is_near ct__law_is_near cd__law_pairs oc__law_pairs kV__law_pairs dc__law_pairs pm__law_pairs ct__law_pairs cd__law_below oc__law_below kV__law_below dc__law_below pm__law_below ct__law_below cd__law_counted_right oc__law_counted_right kV__law_counted_right dc__law_counted_right pm__law_counted_right ct__law_counted_right cd__law_full_right oc__law_full_right kV__law_full_right dc__law_full_right pm__law_full_right ct__law_full_right cd__law_is_refused oc__law_is_refused kV__law_is_refused dc__law_is_refused pm__law_is_refused ct__law_is_refused cd__law_refused_right oc__law_refused_right kV__law_refused_right dc__law_refused_right pm__law_refused_right ct__law_refused_right cd_law oc_law kV_law dc_law pm_law ct_law oi_BadNumber kVi_BadNumber dci_BadNumber pmi_BadNumber cti_BadNumber cdi_BadNumber oi_BadWord kVi_BadWord dci_BadWord pmi_BadWord cti_BadWord cdi_BadWord oi_TooMany kVi_TooMany dci_TooMany pmi_TooMany cti_TooMany cdi_TooMany : Value} {od_is_integer an_is_integer od_is_within an_is_within od_is_list an_is_list od_are_unlike an_are_unlike od_need_number an_need_number od__bits_of an__bits_of od_ones_in an_ones_in od_most_pairs an_most_pairs od_pairs_among an_pairs_among od__need_words an__need_words od__pairs_of an__pairs_of od__is_one_bit an__is_one_bit od__law_hive an__law_hive od__law_sting an__law_sting od__law_one an__law_one od__law_mixed an__law_mixed od__law_some an__law_some od__law_is_near an__law_is_near od__law_pairs an__law_pairs od__law_below an__law_below od__law_counted_right an__law_counted_right od__law_full_right an__law_full_right od__law_is_refused an__law_is_refused od__law_refused_right an__law_refused_right od_law an_law odi_BadNumber ani_BadNumber dd_BadNumber odi_BadWord ani_BadWord dd_BadWord odi_TooMany ani_TooMany dd_TooMany : Option Addr} {sl_is_integer sl_is_within sl_is_list sl_are_unlike sl_need_number sl__bits_of sl_ones_in sl_most_pairs sl_pairs_among sl__need_words sl__pairs_of sl__is_one_bit sl__law_hive sl__law_sting sl__law_one sl__law_mixed sl__law_some sl__law_is_near sl__law_pairs sl__law_below sl__law_counted_right sl__law_full_right sl__law_is_refused sl__law_refused_right sl_law sli_BadNumber sli_BadWord sli_TooMany : Array (Option Value)} {t_MOST_WORDS : Tok} {nm_BadNumber q_BadNumber : Str} {bs_BadNumber sub_BadNumber : List Value} {sn_BadNumber : List Str} {ab_BadNumber : Bool} {col_BadNumber : Option Bool} {m0_BadNumber m1_BadNumber m2_BadNumber m3_BadNumber m5_BadNumber : Option Value} {nm_BadWord q_BadWord : Str} {bs_BadWord sub_BadWord : List Value} {sn_BadWord : List Str} {ab_BadWord : Bool} {col_BadWord : Option Bool} {m0_BadWord m1_BadWord m2_BadWord m3_BadWord m5_BadWord : Option Value} {nm_TooMany q_TooMany : Str} {bs_TooMany sub_TooMany : List Value} {sn_TooMany : List Str} {ab_TooMany : Bool} {col_TooMany : Option Bool} {m0_TooMany m1_TooMany m2_TooMany m3_TooMany m5_TooMany : Option Value}
    (X : K.In h) (G : h.Ns mainGlobals mg) (hfa : mg "law" = some (.ref fa))
    (a_is_integer : PySem.W.nsIn K mainGlobals "is_integer" = some (some (.ref f_is_integer)))
    (l_is_integer : K.lookup f_is_integer = some ⟨oc_is_integer, od_is_integer, .func (PySem.W.fnOf "is_integer" "is_integer" (defArgs s_is_integer) (defBody s_is_integer) (defScope s_is_integer) .none kV_is_integer dc_is_integer pm_is_integer an_is_integer cd_is_integer ct_is_integer), sl_is_integer⟩)
    (c_is_integer : PySem.W.codeIn K cd_is_integer "is_integer" = true)
    (k_is_integer : PySem.W.keepIn K (.ref f_is_integer) = true)
    (a_is_within : PySem.W.nsIn K mainGlobals "is_within" = some (some (.ref f_is_within)))
    (l_is_within : K.lookup f_is_within = some ⟨oc_is_within, od_is_within, .func (PySem.W.fnOf "is_within" "is_within" (defArgs s_is_within) (defBody s_is_within) (defScope s_is_within) .none kV_is_within dc_is_within pm_is_within an_is_within cd_is_within ct_is_within), sl_is_within⟩)
    (c_is_within : PySem.W.codeIn K cd_is_within "is_within" = true)
    (k_is_within : PySem.W.keepIn K (.ref f_is_within) = true)
    (a_is_list : PySem.W.nsIn K mainGlobals "is_list" = some (some (.ref f_is_list)))
    (l_is_list : K.lookup f_is_list = some ⟨oc_is_list, od_is_list, .func (PySem.W.fnOf "is_list" "is_list" (defArgs s_is_list) (defBody s_is_list) (defScope s_is_list) .none kV_is_list dc_is_list pm_is_list an_is_list cd_is_list ct_is_list), sl_is_list⟩)
    (c_is_list : PySem.W.codeIn K cd_is_list "is_list" = true)
    (k_is_list : PySem.W.keepIn K (.ref f_is_list) = true)
    (a_are_unlike : PySem.W.nsIn K mainGlobals "are_unlike" = some (some (.ref f_are_unlike)))
    (l_are_unlike : K.lookup f_are_unlike = some ⟨oc_are_unlike, od_are_unlike, .func (PySem.W.fnOf "are_unlike" "are_unlike" (defArgs s_are_unlike) (defBody s_are_unlike) (defScope s_are_unlike) .none kV_are_unlike dc_are_unlike pm_are_unlike an_are_unlike cd_are_unlike ct_are_unlike), sl_are_unlike⟩)
    (c_are_unlike : PySem.W.codeIn K cd_are_unlike "are_unlike" = true)
    (k_are_unlike : PySem.W.keepIn K (.ref f_are_unlike) = true)
    (a_need_number : PySem.W.nsIn K mainGlobals "need_number" = some (some (.ref f_need_number)))
    (l_need_number : K.lookup f_need_number = some ⟨oc_need_number, od_need_number, .func (PySem.W.fnOf "need_number" "need_number" (defArgs s_need_number) (defBody s_need_number) (defScope s_need_number) .none kV_need_number dc_need_number pm_need_number an_need_number cd_need_number ct_need_number), sl_need_number⟩)
    (c_need_number : PySem.W.codeIn K cd_need_number "need_number" = true)
    (k_need_number : PySem.W.keepIn K (.ref f_need_number) = true)
    (a__bits_of : PySem.W.nsIn K mainGlobals "_bits_of" = some (some (.ref f__bits_of)))
    (l__bits_of : K.lookup f__bits_of = some ⟨oc__bits_of, od__bits_of, .func (PySem.W.fnOf "_bits_of" "_bits_of" (defArgs s__bits_of) (defBody s__bits_of) (defScope s__bits_of) .none kV__bits_of dc__bits_of pm__bits_of an__bits_of cd__bits_of ct__bits_of), sl__bits_of⟩)
    (c__bits_of : PySem.W.codeIn K cd__bits_of "_bits_of" = true)
    (k__bits_of : PySem.W.keepIn K (.ref f__bits_of) = true)
    (a_ones_in : PySem.W.nsIn K mainGlobals "ones_in" = some (some (.ref f_ones_in)))
    (l_ones_in : K.lookup f_ones_in = some ⟨oc_ones_in, od_ones_in, .func (PySem.W.fnOf "ones_in" "ones_in" (defArgs s_ones_in) (defBody s_ones_in) (defScope s_ones_in) .none kV_ones_in dc_ones_in pm_ones_in an_ones_in cd_ones_in ct_ones_in), sl_ones_in⟩)
    (c_ones_in : PySem.W.codeIn K cd_ones_in "ones_in" = true)
    (k_ones_in : PySem.W.keepIn K (.ref f_ones_in) = true)
    (a_most_pairs : PySem.W.nsIn K mainGlobals "most_pairs" = some (some (.ref f_most_pairs)))
    (l_most_pairs : K.lookup f_most_pairs = some ⟨oc_most_pairs, od_most_pairs, .func (PySem.W.fnOf "most_pairs" "most_pairs" (defArgs s_most_pairs) (defBody s_most_pairs) (defScope s_most_pairs) .none kV_most_pairs dc_most_pairs pm_most_pairs an_most_pairs cd_most_pairs ct_most_pairs), sl_most_pairs⟩)
    (c_most_pairs : PySem.W.codeIn K cd_most_pairs "most_pairs" = true)
    (k_most_pairs : PySem.W.keepIn K (.ref f_most_pairs) = true)
    (a_pairs_among : PySem.W.nsIn K mainGlobals "pairs_among" = some (some (.ref f_pairs_among)))
    (l_pairs_among : K.lookup f_pairs_among = some ⟨oc_pairs_among, od_pairs_among, .func (PySem.W.fnOf "pairs_among" "pairs_among" (defArgs s_pairs_among) (defBody s_pairs_among) (defScope s_pairs_among) .none kV_pairs_among dc_pairs_among pm_pairs_among an_pairs_among cd_pairs_among ct_pairs_among), sl_pairs_among⟩)
    (c_pairs_among : PySem.W.codeIn K cd_pairs_among "pairs_among" = true)
    (k_pairs_among : PySem.W.keepIn K (.ref f_pairs_among) = true)
    (a__need_words : PySem.W.nsIn K mainGlobals "_need_words" = some (some (.ref f__need_words)))
    (l__need_words : K.lookup f__need_words = some ⟨oc__need_words, od__need_words, .func (PySem.W.fnOf "_need_words" "_need_words" (defArgs s__need_words) (defBody s__need_words) (defScope s__need_words) .none kV__need_words dc__need_words pm__need_words an__need_words cd__need_words ct__need_words), sl__need_words⟩)
    (c__need_words : PySem.W.codeIn K cd__need_words "_need_words" = true)
    (k__need_words : PySem.W.keepIn K (.ref f__need_words) = true)
    (a__pairs_of : PySem.W.nsIn K mainGlobals "_pairs_of" = some (some (.ref f__pairs_of)))
    (l__pairs_of : K.lookup f__pairs_of = some ⟨oc__pairs_of, od__pairs_of, .func (PySem.W.fnOf "_pairs_of" "_pairs_of" (defArgs s__pairs_of) (defBody s__pairs_of) (defScope s__pairs_of) .none kV__pairs_of dc__pairs_of pm__pairs_of an__pairs_of cd__pairs_of ct__pairs_of), sl__pairs_of⟩)
    (c__pairs_of : PySem.W.codeIn K cd__pairs_of "_pairs_of" = true)
    (k__pairs_of : PySem.W.keepIn K (.ref f__pairs_of) = true)
    (a__is_one_bit : PySem.W.nsIn K mainGlobals "_is_one_bit" = some (some (.ref f__is_one_bit)))
    (l__is_one_bit : K.lookup f__is_one_bit = some ⟨oc__is_one_bit, od__is_one_bit, .func (PySem.W.fnOf "_is_one_bit" "_is_one_bit" (defArgs s__is_one_bit) (defBody s__is_one_bit) (defScope s__is_one_bit) .none kV__is_one_bit dc__is_one_bit pm__is_one_bit an__is_one_bit cd__is_one_bit ct__is_one_bit), sl__is_one_bit⟩)
    (c__is_one_bit : PySem.W.codeIn K cd__is_one_bit "_is_one_bit" = true)
    (k__is_one_bit : PySem.W.keepIn K (.ref f__is_one_bit) = true)
    (a__law_hive : PySem.W.nsIn K mainGlobals "_law_hive" = some (some (.ref f__law_hive)))
    (l__law_hive : K.lookup f__law_hive = some ⟨oc__law_hive, od__law_hive, .func (PySem.W.fnOf "_law_hive" "_law_hive" (defArgs s__law_hive) (defBody s__law_hive) (defScope s__law_hive) .none kV__law_hive dc__law_hive pm__law_hive an__law_hive cd__law_hive ct__law_hive), sl__law_hive⟩)
    (c__law_hive : PySem.W.codeIn K cd__law_hive "_law_hive" = true)
    (k__law_hive : PySem.W.keepIn K (.ref f__law_hive) = true)
    (a__law_sting : PySem.W.nsIn K mainGlobals "_law_sting" = some (some (.ref f__law_sting)))
    (l__law_sting : K.lookup f__law_sting = some ⟨oc__law_sting, od__law_sting, .func (PySem.W.fnOf "_law_sting" "_law_sting" (defArgs s__law_sting) (defBody s__law_sting) (defScope s__law_sting) .none kV__law_sting dc__law_sting pm__law_sting an__law_sting cd__law_sting ct__law_sting), sl__law_sting⟩)
    (c__law_sting : PySem.W.codeIn K cd__law_sting "_law_sting" = true)
    (k__law_sting : PySem.W.keepIn K (.ref f__law_sting) = true)
    (a__law_one : PySem.W.nsIn K mainGlobals "_law_one" = some (some (.ref f__law_one)))
    (l__law_one : K.lookup f__law_one = some ⟨oc__law_one, od__law_one, .func (PySem.W.fnOf "_law_one" "_law_one" (defArgs s__law_one) (defBody s__law_one) (defScope s__law_one) .none kV__law_one dc__law_one pm__law_one an__law_one cd__law_one ct__law_one), sl__law_one⟩)
    (c__law_one : PySem.W.codeIn K cd__law_one "_law_one" = true)
    (k__law_one : PySem.W.keepIn K (.ref f__law_one) = true)
    (a__law_mixed : PySem.W.nsIn K mainGlobals "_law_mixed" = some (some (.ref f__law_mixed)))
    (l__law_mixed : K.lookup f__law_mixed = some ⟨oc__law_mixed, od__law_mixed, .func (PySem.W.fnOf "_law_mixed" "_law_mixed" (defArgs s__law_mixed) (defBody s__law_mixed) (defScope s__law_mixed) .none kV__law_mixed dc__law_mixed pm__law_mixed an__law_mixed cd__law_mixed ct__law_mixed), sl__law_mixed⟩)
    (c__law_mixed : PySem.W.codeIn K cd__law_mixed "_law_mixed" = true)
    (k__law_mixed : PySem.W.keepIn K (.ref f__law_mixed) = true)
    (a__law_some : PySem.W.nsIn K mainGlobals "_law_some" = some (some (.ref f__law_some)))
    (l__law_some : K.lookup f__law_some = some ⟨oc__law_some, od__law_some, .func (PySem.W.fnOf "_law_some" "_law_some" (defArgs s__law_some) (defBody s__law_some) (defScope s__law_some) .none kV__law_some dc__law_some pm__law_some an__law_some cd__law_some ct__law_some), sl__law_some⟩)
    (c__law_some : PySem.W.codeIn K cd__law_some "_law_some" = true)
    (k__law_some : PySem.W.keepIn K (.ref f__law_some) = true)
    (a__law_is_near : PySem.W.nsIn K mainGlobals "_law_is_near" = some (some (.ref f__law_is_near)))
    (l__law_is_near : K.lookup f__law_is_near = some ⟨oc__law_is_near, od__law_is_near, .func (PySem.W.fnOf "_law_is_near" "_law_is_near" (defArgs s__law_is_near) (defBody s__law_is_near) (defScope s__law_is_near) .none kV__law_is_near dc__law_is_near pm__law_is_near an__law_is_near cd__law_is_near ct__law_is_near), sl__law_is_near⟩)
    (c__law_is_near : PySem.W.codeIn K cd__law_is_near "_law_is_near" = true)
    (k__law_is_near : PySem.W.keepIn K (.ref f__law_is_near) = true)
    (a__law_pairs : PySem.W.nsIn K mainGlobals "_law_pairs" = some (some (.ref f__law_pairs)))
    (l__law_pairs : K.lookup f__law_pairs = some ⟨oc__law_pairs, od__law_pairs, .func (PySem.W.fnOf "_law_pairs" "_law_pairs" (defArgs s__law_pairs) (defBody s__law_pairs) (defScope s__law_pairs) .none kV__law_pairs dc__law_pairs pm__law_pairs an__law_pairs cd__law_pairs ct__law_pairs), sl__law_pairs⟩)
    (c__law_pairs : PySem.W.codeIn K cd__law_pairs "_law_pairs" = true)
    (k__law_pairs : PySem.W.keepIn K (.ref f__law_pairs) = true)
    (a__law_below : PySem.W.nsIn K mainGlobals "_law_below" = some (some (.ref f__law_below)))
    (l__law_below : K.lookup f__law_below = some ⟨oc__law_below, od__law_below, .func (PySem.W.fnOf "_law_below" "_law_below" (defArgs s__law_below) (defBody s__law_below) (defScope s__law_below) .none kV__law_below dc__law_below pm__law_below an__law_below cd__law_below ct__law_below), sl__law_below⟩)
    (c__law_below : PySem.W.codeIn K cd__law_below "_law_below" = true)
    (k__law_below : PySem.W.keepIn K (.ref f__law_below) = true)
    (a__law_counted_right : PySem.W.nsIn K mainGlobals "_law_counted_right" = some (some (.ref f__law_counted_right)))
    (l__law_counted_right : K.lookup f__law_counted_right = some ⟨oc__law_counted_right, od__law_counted_right, .func (PySem.W.fnOf "_law_counted_right" "_law_counted_right" (defArgs s__law_counted_right) (defBody s__law_counted_right) (defScope s__law_counted_right) .none kV__law_counted_right dc__law_counted_right pm__law_counted_right an__law_counted_right cd__law_counted_right ct__law_counted_right), sl__law_counted_right⟩)
    (c__law_counted_right : PySem.W.codeIn K cd__law_counted_right "_law_counted_right" = true)
    (k__law_counted_right : PySem.W.keepIn K (.ref f__law_counted_right) = true)
    (a__law_full_right : PySem.W.nsIn K mainGlobals "_law_full_right" = some (some (.ref f__law_full_right)))
    (l__law_full_right : K.lookup f__law_full_right = some ⟨oc__law_full_right, od__law_full_right, .func (PySem.W.fnOf "_law_full_right" "_law_full_right" (defArgs s__law_full_right) (defBody s__law_full_right) (defScope s__law_full_right) .none kV__law_full_right dc__law_full_right pm__law_full_right an__law_full_right cd__law_full_right ct__law_full_right), sl__law_full_right⟩)
    (c__law_full_right : PySem.W.codeIn K cd__law_full_right "_law_full_right" = true)
    (k__law_full_right : PySem.W.keepIn K (.ref f__law_full_right) = true)
    (a__law_is_refused : PySem.W.nsIn K mainGlobals "_law_is_refused" = some (some (.ref f__law_is_refused)))
    (l__law_is_refused : K.lookup f__law_is_refused = some ⟨oc__law_is_refused, od__law_is_refused, .func (PySem.W.fnOf "_law_is_refused" "_law_is_refused" (defArgs s__law_is_refused) (defBody s__law_is_refused) (defScope s__law_is_refused) .none kV__law_is_refused dc__law_is_refused pm__law_is_refused an__law_is_refused cd__law_is_refused ct__law_is_refused), sl__law_is_refused⟩)
    (c__law_is_refused : PySem.W.codeIn K cd__law_is_refused "_law_is_refused" = true)
    (k__law_is_refused : PySem.W.keepIn K (.ref f__law_is_refused) = true)
    (a__law_refused_right : PySem.W.nsIn K mainGlobals "_law_refused_right" = some (some (.ref f__law_refused_right)))
    (l__law_refused_right : K.lookup f__law_refused_right = some ⟨oc__law_refused_right, od__law_refused_right, .func (PySem.W.fnOf "_law_refused_right" "_law_refused_right" (defArgs s__law_refused_right) (defBody s__law_refused_right) (defScope s__law_refused_right) .none kV__law_refused_right dc__law_refused_right pm__law_refused_right an__law_refused_right cd__law_refused_right ct__law_refused_right), sl__law_refused_right⟩)
    (c__law_refused_right : PySem.W.codeIn K cd__law_refused_right "_law_refused_right" = true)
    (k__law_refused_right : PySem.W.keepIn K (.ref f__law_refused_right) = true)
    (a_law : PySem.W.nsIn K mainGlobals "law" = some (some (.ref f_law)))
    (l_law : K.lookup f_law = some ⟨oc_law, od_law, .func (PySem.W.fnOf "law" "law" (defArgs s_law) (defBody s_law) (defScope s_law) .none kV_law dc_law pm_law an_law cd_law ct_law), sl_law⟩)
    (c_law : PySem.W.codeIn K cd_law "law" = true)
    (k_law : PySem.W.keepIn K (.ref f_law) = true)
    (aF : PySem.W.nsIn K mainGlobals "FlipError" = some (some (.ref CF)))
    (eF : PySem.W.subIn K (.ref CF) (.type "BaseException") = some true)
    (dF : PySem.W.hasDictIn K CF = true)
    (tF : PySem.W.typeIn K (.ref CF) = some (.type "type"))
    (a_BadNumber : PySem.W.nsIn K mainGlobals "BadNumber" = some (some (.ref C_BadNumber)))
    (x_BadNumber : K.lookup C_BadNumber = some (excClassObj nm_BadNumber q_BadNumber C_BadNumber N_BadNumber bs_BadNumber [.ref CF, .type "ValueError", .type "Exception", .type "BaseException", .type "object"] true sn_BadNumber sub_BadNumber ab_BadNumber col_BadNumber dd_BadNumber m0_BadNumber m1_BadNumber m2_BadNumber m3_BadNumber m5_BadNumber "ValueError.__new__"))
    (sa_BadNumber : PySem.W.findIn K (.ref C_BadNumber) "__setattr__" = some (some (.builtin "object.__setattr__")))
    (e_BadNumber : PySem.W.subIn K (.ref C_BadNumber) (.type "BaseException") = some true)
    (t_BadNumber : PySem.W.typeIn K (.ref C_BadNumber) = some (.type "type"))
    (k_BadNumber : PySem.W.keepIn K (.ref C_BadNumber) = true)
    (i_BadNumber : PySem.W.findIn K (.ref C_BadNumber) "__init__" = some (some (.ref fi_BadNumber)))
    (ti_BadNumber : PySem.W.typeIn K (.ref fi_BadNumber) = some (.type "function"))
    (li_BadNumber : K.lookup fi_BadNumber = some ⟨oi_BadNumber, odi_BadNumber, .func (PySem.W.fnOf "__init__" "BadNumber.__init__" (defArgs s_initN) (defBody s_initN) (defScope s_initN) .none kVi_BadNumber dci_BadNumber pmi_BadNumber ani_BadNumber cdi_BadNumber cti_BadNumber), sli_BadNumber⟩)
    (ci_BadNumber : PySem.W.codeIn K cdi_BadNumber "BadNumber.__init__" = true)
    (ki_BadNumber : PySem.W.keepIn K (.ref fi_BadNumber) = true)
    (no_BadNumber_part : PySem.W.findIn K (.ref C_BadNumber) "part" = some none)
    (ga_BadNumber : PySem.W.findIn K (.ref C_BadNumber) "__getattribute__" = some (some (.builtin "BaseException.__getattribute__")))
    (gg_BadNumber : PySem.W.findIn K (.ref C_BadNumber) "__getattr__" = some none)
    (hd_BadNumber : PySem.W.hasDictIn K C_BadNumber = true)
    (ha_BadNumber : PySem.W.findIn K (.ref C_BadNumber) "__class__" = some (some (.builtin "object.__class__")))
    (hm_BadNumber : PySem.W.mroIn K C_BadNumber (.type "object") = some true)
    (sf_BadNumber : PySem.W.subIn K (.ref C_BadNumber) (.ref CF) = some true)
    (is_BadNumber : PySem.W.isClsIn K C_BadNumber = true)
    (z_BadNumber : PySem.W.subIn K (.type "NoneType") (.ref C_BadNumber) = some false)
    (a_BadWord : PySem.W.nsIn K mainGlobals "BadWord" = some (some (.ref C_BadWord)))
    (x_BadWord : K.lookup C_BadWord = some (excClassObj nm_BadWord q_BadWord C_BadWord N_BadWord bs_BadWord [.ref CF, .type "ValueError", .type "Exception", .type "BaseException", .type "object"] true sn_BadWord sub_BadWord ab_BadWord col_BadWord dd_BadWord m0_BadWord m1_BadWord m2_BadWord m3_BadWord m5_BadWord "ValueError.__new__"))
    (sa_BadWord : PySem.W.findIn K (.ref C_BadWord) "__setattr__" = some (some (.builtin "object.__setattr__")))
    (e_BadWord : PySem.W.subIn K (.ref C_BadWord) (.type "BaseException") = some true)
    (t_BadWord : PySem.W.typeIn K (.ref C_BadWord) = some (.type "type"))
    (k_BadWord : PySem.W.keepIn K (.ref C_BadWord) = true)
    (i_BadWord : PySem.W.findIn K (.ref C_BadWord) "__init__" = some (some (.ref fi_BadWord)))
    (ti_BadWord : PySem.W.typeIn K (.ref fi_BadWord) = some (.type "function"))
    (li_BadWord : K.lookup fi_BadWord = some ⟨oi_BadWord, odi_BadWord, .func (PySem.W.fnOf "__init__" "BadWord.__init__" (defArgs s_initW) (defBody s_initW) (defScope s_initW) .none kVi_BadWord dci_BadWord pmi_BadWord ani_BadWord cdi_BadWord cti_BadWord), sli_BadWord⟩)
    (ci_BadWord : PySem.W.codeIn K cdi_BadWord "BadWord.__init__" = true)
    (ki_BadWord : PySem.W.keepIn K (.ref fi_BadWord) = true)
    (no_BadWord_part : PySem.W.findIn K (.ref C_BadWord) "part" = some none)
    (ga_BadWord : PySem.W.findIn K (.ref C_BadWord) "__getattribute__" = some (some (.builtin "BaseException.__getattribute__")))
    (gg_BadWord : PySem.W.findIn K (.ref C_BadWord) "__getattr__" = some none)
    (hd_BadWord : PySem.W.hasDictIn K C_BadWord = true)
    (ha_BadWord : PySem.W.findIn K (.ref C_BadWord) "__class__" = some (some (.builtin "object.__class__")))
    (hm_BadWord : PySem.W.mroIn K C_BadWord (.type "object") = some true)
    (sf_BadWord : PySem.W.subIn K (.ref C_BadWord) (.ref CF) = some true)
    (is_BadWord : PySem.W.isClsIn K C_BadWord = true)
    (z_BadWord : PySem.W.subIn K (.type "NoneType") (.ref C_BadWord) = some false)
    (a_TooMany : PySem.W.nsIn K mainGlobals "TooMany" = some (some (.ref C_TooMany)))
    (x_TooMany : K.lookup C_TooMany = some (excClassObj nm_TooMany q_TooMany C_TooMany N_TooMany bs_TooMany [.ref CF, .type "ValueError", .type "Exception", .type "BaseException", .type "object"] true sn_TooMany sub_TooMany ab_TooMany col_TooMany dd_TooMany m0_TooMany m1_TooMany m2_TooMany m3_TooMany m5_TooMany "ValueError.__new__"))
    (sa_TooMany : PySem.W.findIn K (.ref C_TooMany) "__setattr__" = some (some (.builtin "object.__setattr__")))
    (e_TooMany : PySem.W.subIn K (.ref C_TooMany) (.type "BaseException") = some true)
    (t_TooMany : PySem.W.typeIn K (.ref C_TooMany) = some (.type "type"))
    (k_TooMany : PySem.W.keepIn K (.ref C_TooMany) = true)
    (i_TooMany : PySem.W.findIn K (.ref C_TooMany) "__init__" = some (some (.ref fi_TooMany)))
    (ti_TooMany : PySem.W.typeIn K (.ref fi_TooMany) = some (.type "function"))
    (li_TooMany : K.lookup fi_TooMany = some ⟨oi_TooMany, odi_TooMany, .func (PySem.W.fnOf "__init__" "TooMany.__init__" (defArgs s_initM) (defBody s_initM) (defScope s_initM) .none kVi_TooMany dci_TooMany pmi_TooMany ani_TooMany cdi_TooMany cti_TooMany), sli_TooMany⟩)
    (ci_TooMany : PySem.W.codeIn K cdi_TooMany "TooMany.__init__" = true)
    (ki_TooMany : PySem.W.keepIn K (.ref fi_TooMany) = true)
    (no_TooMany_what : PySem.W.findIn K (.ref C_TooMany) "what" = some none)
    (no_TooMany_most : PySem.W.findIn K (.ref C_TooMany) "most" = some none)
    (ga_TooMany : PySem.W.findIn K (.ref C_TooMany) "__getattribute__" = some (some (.builtin "BaseException.__getattribute__")))
    (gg_TooMany : PySem.W.findIn K (.ref C_TooMany) "__getattr__" = some none)
    (hd_TooMany : PySem.W.hasDictIn K C_TooMany = true)
    (ha_TooMany : PySem.W.findIn K (.ref C_TooMany) "__class__" = some (some (.builtin "object.__class__")))
    (hm_TooMany : PySem.W.mroIn K C_TooMany (.type "object") = some true)
    (sf_TooMany : PySem.W.subIn K (.ref C_TooMany) (.ref CF) = some true)
    (is_TooMany : PySem.W.isClsIn K C_TooMany = true)
    (z_TooMany : PySem.W.subIn K (.type "NoneType") (.ref C_TooMany) = some false)
    (sub_BadNumber_BadNumber : PySem.W.subIn K (.ref C_BadNumber) (.ref C_BadNumber) = some true)
    (sub_BadNumber_BadWord : PySem.W.subIn K (.ref C_BadNumber) (.ref C_BadWord) = some false)
    (sub_BadNumber_TooMany : PySem.W.subIn K (.ref C_BadNumber) (.ref C_TooMany) = some false)
    (sub_BadWord_BadNumber : PySem.W.subIn K (.ref C_BadWord) (.ref C_BadNumber) = some false)
    (sub_BadWord_BadWord : PySem.W.subIn K (.ref C_BadWord) (.ref C_BadWord) = some true)
    (sub_BadWord_TooMany : PySem.W.subIn K (.ref C_BadWord) (.ref C_TooMany) = some false)
    (sub_TooMany_BadNumber : PySem.W.subIn K (.ref C_TooMany) (.ref C_BadNumber) = some false)
    (sub_TooMany_BadWord : PySem.W.subIn K (.ref C_TooMany) (.ref C_BadWord) = some false)
    (sub_TooMany_TooMany : PySem.W.subIn K (.ref C_TooMany) (.ref C_TooMany) = some true)
    (spn : PySem.W.specialIn K (.builtin "object.__class__") "__get__" = some (some (.builtin "getset_descriptor.__get__")))
    (tkn : PySem.W.takesIn K (.builtin "object.__class__") = some true)
    (a_MOST_WORDS : PySem.W.nsIn K mainGlobals "MOST_WORDS" = some (some (.int 1024 t_MOST_WORDS)))
    (n_isinstance : PySem.W.nsIn K mainGlobals "isinstance" = some none)
    (n_int : PySem.W.nsIn K mainGlobals "int" = some none)
    (n_bool : PySem.W.nsIn K mainGlobals "bool" = some none)
    (n_len : PySem.W.nsIn K mainGlobals "len" = some none)
    (n_abs : PySem.W.nsIn K mainGlobals "abs" = some none)
    (n_range : PySem.W.nsIn K mainGlobals "range" = some none)
    (n_list : PySem.W.nsIn K mainGlobals "list" = some none)
    (n_tuple : PySem.W.nsIn K mainGlobals "tuple" = some none)
    (n_enumerate : PySem.W.nsIn K mainGlobals "enumerate" = some none)
    (n_all : PySem.W.nsIn K mainGlobals "all" = some none)
    (n_set : PySem.W.nsIn K mainGlobals "set" = some none)
    (n_repr : PySem.W.nsIn K mainGlobals "repr" = some none)
    (n_reversed : PySem.W.nsIn K mainGlobals "reversed" = some none) :
    OB.LawG l w K CX0 12 63 "script" mg fa h := by
  have efa := hfa.symm.trans (PySem.W.mg_of X G a_law)
  cases efa
  have D_is_integer : Df K mg "is_integer" s_is_integer ["value"] f_is_integer _ := ⟨fun_mk (st := s_is_integer) l_is_integer c_is_integer k_is_integer, PySem.W.mg_of X G a_is_integer, (fun_mk (st := s_is_integer) l_is_integer c_is_integer k_is_integer).binds (ps := ["value"]) fun _ _ _ _ _ _ us hl => match us, hl with | [_], _ => rfl⟩
  have D_is_within : Df K mg "is_within" s_is_within ["value", "least", "most"] f_is_within _ := ⟨fun_mk (st := s_is_within) l_is_within c_is_within k_is_within, PySem.W.mg_of X G a_is_within, (fun_mk (st := s_is_within) l_is_within c_is_within k_is_within).binds (ps := ["value", "least", "most"]) fun _ _ _ _ _ _ us hl => match us, hl with | [_, _, _], _ => rfl⟩
  have D_is_list : Df K mg "is_list" s_is_list ["value"] f_is_list _ := ⟨fun_mk (st := s_is_list) l_is_list c_is_list k_is_list, PySem.W.mg_of X G a_is_list, (fun_mk (st := s_is_list) l_is_list c_is_list k_is_list).binds (ps := ["value"]) fun _ _ _ _ _ _ us hl => match us, hl with | [_], _ => rfl⟩
  have D_are_unlike : Df K mg "are_unlike" s_are_unlike ["value", "least", "most"] f_are_unlike _ := ⟨fun_mk (st := s_are_unlike) l_are_unlike c_are_unlike k_are_unlike, PySem.W.mg_of X G a_are_unlike, (fun_mk (st := s_are_unlike) l_are_unlike c_are_unlike k_are_unlike).binds (ps := ["value", "least", "most"]) fun _ _ _ _ _ _ us hl => match us, hl with | [_, _, _], _ => rfl⟩
  have D_need_number : Df K mg "need_number" s_need_number ["value", "part", "least", "most"] f_need_number _ := ⟨fun_mk (st := s_need_number) l_need_number c_need_number k_need_number, PySem.W.mg_of X G a_need_number, (fun_mk (st := s_need_number) l_need_number c_need_number k_need_number).binds (ps := ["value", "part", "least", "most"]) fun _ _ _ _ _ _ us hl => match us, hl with | [_, _, _, _], _ => rfl⟩
  have D__bits_of : Df K mg "_bits_of" s__bits_of ["word"] f__bits_of _ := ⟨fun_mk (st := s__bits_of) l__bits_of c__bits_of k__bits_of, PySem.W.mg_of X G a__bits_of, (fun_mk (st := s__bits_of) l__bits_of c__bits_of k__bits_of).binds (ps := ["word"]) fun _ _ _ _ _ _ us hl => match us, hl with | [_], _ => rfl⟩
  have D_ones_in : Df K mg "ones_in" s_ones_in ["number"] f_ones_in _ := ⟨fun_mk (st := s_ones_in) l_ones_in c_ones_in k_ones_in, PySem.W.mg_of X G a_ones_in, (fun_mk (st := s_ones_in) l_ones_in c_ones_in k_ones_in).binds (ps := ["number"]) fun _ _ _ _ _ _ us hl => match us, hl with | [_], _ => rfl⟩
  have D_most_pairs : Df K mg "most_pairs" s_most_pairs ["many"] f_most_pairs _ := ⟨fun_mk (st := s_most_pairs) l_most_pairs c_most_pairs k_most_pairs, PySem.W.mg_of X G a_most_pairs, (fun_mk (st := s_most_pairs) l_most_pairs c_most_pairs k_most_pairs).binds (ps := ["many"]) fun _ _ _ _ _ _ us hl => match us, hl with | [_], _ => rfl⟩
  have D_pairs_among : Df K mg "pairs_among" s_pairs_among ["words"] f_pairs_among _ := ⟨fun_mk (st := s_pairs_among) l_pairs_among c_pairs_among k_pairs_among, PySem.W.mg_of X G a_pairs_among, (fun_mk (st := s_pairs_among) l_pairs_among c_pairs_among k_pairs_among).binds (ps := ["words"]) fun _ _ _ _ _ _ us hl => match us, hl with | [_], _ => rfl⟩
  have D__need_words : Df K mg "_need_words" s__need_words ["words"] f__need_words _ := ⟨fun_mk (st := s__need_words) l__need_words c__need_words k__need_words, PySem.W.mg_of X G a__need_words, (fun_mk (st := s__need_words) l__need_words c__need_words k__need_words).binds (ps := ["words"]) fun _ _ _ _ _ _ us hl => match us, hl with | [_], _ => rfl⟩
  have D__pairs_of : Df K mg "_pairs_of" s__pairs_of ["words"] f__pairs_of _ := ⟨fun_mk (st := s__pairs_of) l__pairs_of c__pairs_of k__pairs_of, PySem.W.mg_of X G a__pairs_of, (fun_mk (st := s__pairs_of) l__pairs_of c__pairs_of k__pairs_of).binds (ps := ["words"]) fun _ _ _ _ _ _ us hl => match us, hl with | [_], _ => rfl⟩
  have D__is_one_bit : Df K mg "_is_one_bit" s__is_one_bit ["word"] f__is_one_bit _ := ⟨fun_mk (st := s__is_one_bit) l__is_one_bit c__is_one_bit k__is_one_bit, PySem.W.mg_of X G a__is_one_bit, (fun_mk (st := s__is_one_bit) l__is_one_bit c__is_one_bit k__is_one_bit).binds (ps := ["word"]) fun _ _ _ _ _ _ us hl => match us, hl with | [_], _ => rfl⟩
  have D__law_hive : Df K mg "_law_hive" s__law_hive ["script"] f__law_hive _ := ⟨fun_mk (st := s__law_hive) l__law_hive c__law_hive k__law_hive, PySem.W.mg_of X G a__law_hive, (fun_mk (st := s__law_hive) l__law_hive c__law_hive k__law_hive).binds (ps := ["script"]) fun _ _ _ _ _ _ us hl => match us, hl with | [_], _ => rfl⟩
  have D__law_sting : Df K mg "_law_sting" s__law_sting ["hive", "many"] f__law_sting _ := ⟨fun_mk (st := s__law_sting) l__law_sting c__law_sting k__law_sting, PySem.W.mg_of X G a__law_sting, (fun_mk (st := s__law_sting) l__law_sting c__law_sting k__law_sting).binds (ps := ["hive", "many"]) fun _ _ _ _ _ _ us hl => match us, hl with | [_, _], _ => rfl⟩
  have D__law_one : Df K mg "_law_one" s__law_one ["hive", "some"] f__law_one _ := ⟨fun_mk (st := s__law_one) l__law_one c__law_one k__law_one, PySem.W.mg_of X G a__law_one, (fun_mk (st := s__law_one) l__law_one c__law_one k__law_one).binds (ps := ["hive", "some"]) fun _ _ _ _ _ _ us hl => match us, hl with | [_, _], _ => rfl⟩
  have D__law_mixed : Df K mg "_law_mixed" s__law_mixed ["hive", "some"] f__law_mixed _ := ⟨fun_mk (st := s__law_mixed) l__law_mixed c__law_mixed k__law_mixed, PySem.W.mg_of X G a__law_mixed, (fun_mk (st := s__law_mixed) l__law_mixed c__law_mixed k__law_mixed).binds (ps := ["hive", "some"]) fun _ _ _ _ _ _ us hl => match us, hl with | [_, _], _ => rfl⟩
  have D__law_some : Df K mg "_law_some" s__law_some ["hive"] f__law_some _ := ⟨fun_mk (st := s__law_some) l__law_some c__law_some k__law_some, PySem.W.mg_of X G a__law_some, (fun_mk (st := s__law_some) l__law_some c__law_some k__law_some).binds (ps := ["hive"]) fun _ _ _ _ _ _ us hl => match us, hl with | [_], _ => rfl⟩
  have D__law_is_near : Df K mg "_law_is_near" s__law_is_near ["one", "other"] f__law_is_near _ := ⟨fun_mk (st := s__law_is_near) l__law_is_near c__law_is_near k__law_is_near, PySem.W.mg_of X G a__law_is_near, (fun_mk (st := s__law_is_near) l__law_is_near c__law_is_near k__law_is_near).binds (ps := ["one", "other"]) fun _ _ _ _ _ _ us hl => match us, hl with | [_, _], _ => rfl⟩
  have D__law_pairs : Df K mg "_law_pairs" s__law_pairs ["words"] f__law_pairs _ := ⟨fun_mk (st := s__law_pairs) l__law_pairs c__law_pairs k__law_pairs, PySem.W.mg_of X G a__law_pairs, (fun_mk (st := s__law_pairs) l__law_pairs c__law_pairs k__law_pairs).binds (ps := ["words"]) fun _ _ _ _ _ _ us hl => match us, hl with | [_], _ => rfl⟩
  have D__law_below : Df K mg "_law_below" s__law_below ["many"] f__law_below _ := ⟨fun_mk (st := s__law_below) l__law_below c__law_below k__law_below, PySem.W.mg_of X G a__law_below, (fun_mk (st := s__law_below) l__law_below c__law_below k__law_below).binds (ps := ["many"]) fun _ _ _ _ _ _ us hl => match us, hl with | [_], _ => rfl⟩
  have D__law_counted_right : Df K mg "_law_counted_right" s__law_counted_right ["hive"] f__law_counted_right _ := ⟨fun_mk (st := s__law_counted_right) l__law_counted_right c__law_counted_right k__law_counted_right, PySem.W.mg_of X G a__law_counted_right, (fun_mk (st := s__law_counted_right) l__law_counted_right c__law_counted_right k__law_counted_right).binds (ps := ["hive"]) fun _ _ _ _ _ _ us hl => match us, hl with | [_], _ => rfl⟩
  have D__law_full_right : Df K mg "_law_full_right" s__law_full_right ["hive"] f__law_full_right _ := ⟨fun_mk (st := s__law_full_right) l__law_full_right c__law_full_right k__law_full_right, PySem.W.mg_of X G a__law_full_right, (fun_mk (st := s__law_full_right) l__law_full_right c__law_full_right k__law_full_right).binds (ps := ["hive"]) fun _ _ _ _ _ _ us hl => match us, hl with | [_], _ => rfl⟩
  have D__law_is_refused : Df K mg "_law_is_refused" s__law_is_refused ["words", "kind"] f__law_is_refused _ := ⟨fun_mk (st := s__law_is_refused) l__law_is_refused c__law_is_refused k__law_is_refused, PySem.W.mg_of X G a__law_is_refused, (fun_mk (st := s__law_is_refused) l__law_is_refused c__law_is_refused k__law_is_refused).binds (ps := ["words", "kind"]) fun _ _ _ _ _ _ us hl => match us, hl with | [_, _], _ => rfl⟩
  have D__law_refused_right : Df K mg "_law_refused_right" s__law_refused_right ["hive"] f__law_refused_right _ := ⟨fun_mk (st := s__law_refused_right) l__law_refused_right c__law_refused_right k__law_refused_right, PySem.W.mg_of X G a__law_refused_right, (fun_mk (st := s__law_refused_right) l__law_refused_right c__law_refused_right k__law_refused_right).binds (ps := ["hive"]) fun _ _ _ _ _ _ us hl => match us, hl with | [_], _ => rfl⟩
  have FI_BadNumber := fun_mk (st := s_initN) li_BadNumber ci_BadNumber ki_BadNumber
  have BI_BadNumber := FI_BadNumber.binds (ps := ["self", "part"]) fun _ _ _ _ _ _ us hl => match us, hl with | [_, _], _ => rfl
  have O_BadNumber : OexC K C_BadNumber := ⟨⟨_, _, _, _, _, _, _, _, _, _, _, _, _, _, _, x_BadNumber, by rfl⟩, sa_BadNumber, e_BadNumber, t_BadNumber, k_BadNumber⟩
  have XF_BadNumber : XfC K C_BadNumber := ⟨ga_BadNumber, gg_BadNumber, e_BadNumber, hd_BadNumber⟩
  have EC_BadNumber : ExcC K C_BadNumber := ⟨ga_BadNumber, gg_BadNumber, e_BadNumber, hd_BadNumber, ha_BadNumber, spn, tkn, hm_BadNumber⟩
  have EX_BadNumber : PySem.W.exmOne K (.ref C_BadNumber) (.ref CF) = some true := PySem.W.exm_ref eF dF tF sf_BadNumber
  have kit_BadNumber_BadNumber : PySem.W.kitOne K (.ref C_BadNumber) (.ref C_BadNumber) = some true := kit_sub is_BadNumber t_BadNumber sub_BadNumber_BadNumber sub_BadNumber_BadNumber
  have kit_BadWord_BadNumber : PySem.W.kitOne K (.ref C_BadWord) (.ref C_BadNumber) = some false := kit_sub is_BadNumber t_BadNumber sub_BadNumber_BadNumber sub_BadWord_BadNumber
  have kit_TooMany_BadNumber : PySem.W.kitOne K (.ref C_TooMany) (.ref C_BadNumber) = some false := kit_sub is_BadNumber t_BadNumber sub_BadNumber_BadNumber sub_TooMany_BadNumber
  have kz_BadNumber : PySem.W.kitOne K (.type "NoneType") (.ref C_BadNumber) = some false := kit_sub is_BadNumber t_BadNumber sub_BadNumber_BadNumber z_BadNumber
  have g_BadNumber : mg "BadNumber" = some (.ref C_BadNumber) := PySem.W.mg_of X G a_BadNumber
  have FI_BadWord := fun_mk (st := s_initW) li_BadWord ci_BadWord ki_BadWord
  have BI_BadWord := FI_BadWord.binds (ps := ["self", "part"]) fun _ _ _ _ _ _ us hl => match us, hl with | [_, _], _ => rfl
  have O_BadWord : OexC K C_BadWord := ⟨⟨_, _, _, _, _, _, _, _, _, _, _, _, _, _, _, x_BadWord, by rfl⟩, sa_BadWord, e_BadWord, t_BadWord, k_BadWord⟩
  have XF_BadWord : XfC K C_BadWord := ⟨ga_BadWord, gg_BadWord, e_BadWord, hd_BadWord⟩
  have EC_BadWord : ExcC K C_BadWord := ⟨ga_BadWord, gg_BadWord, e_BadWord, hd_BadWord, ha_BadWord, spn, tkn, hm_BadWord⟩
  have EX_BadWord : PySem.W.exmOne K (.ref C_BadWord) (.ref CF) = some true := PySem.W.exm_ref eF dF tF sf_BadWord
  have kit_BadNumber_BadWord : PySem.W.kitOne K (.ref C_BadNumber) (.ref C_BadWord) = some false := kit_sub is_BadWord t_BadWord sub_BadWord_BadWord sub_BadNumber_BadWord
  have kit_BadWord_BadWord : PySem.W.kitOne K (.ref C_BadWord) (.ref C_BadWord) = some true := kit_sub is_BadWord t_BadWord sub_BadWord_BadWord sub_BadWord_BadWord
  have kit_TooMany_BadWord : PySem.W.kitOne K (.ref C_TooMany) (.ref C_BadWord) = some false := kit_sub is_BadWord t_BadWord sub_BadWord_BadWord sub_TooMany_BadWord
  have kz_BadWord : PySem.W.kitOne K (.type "NoneType") (.ref C_BadWord) = some false := kit_sub is_BadWord t_BadWord sub_BadWord_BadWord z_BadWord
  have g_BadWord : mg "BadWord" = some (.ref C_BadWord) := PySem.W.mg_of X G a_BadWord
  have FI_TooMany := fun_mk (st := s_initM) li_TooMany ci_TooMany ki_TooMany
  have BI_TooMany := FI_TooMany.binds (ps := ["self", "what", "most"]) fun _ _ _ _ _ _ us hl => match us, hl with | [_, _, _], _ => rfl
  have O_TooMany : OexC K C_TooMany := ⟨⟨_, _, _, _, _, _, _, _, _, _, _, _, _, _, _, x_TooMany, by rfl⟩, sa_TooMany, e_TooMany, t_TooMany, k_TooMany⟩
  have XF_TooMany : XfC K C_TooMany := ⟨ga_TooMany, gg_TooMany, e_TooMany, hd_TooMany⟩
  have EC_TooMany : ExcC K C_TooMany := ⟨ga_TooMany, gg_TooMany, e_TooMany, hd_TooMany, ha_TooMany, spn, tkn, hm_TooMany⟩
  have EX_TooMany : PySem.W.exmOne K (.ref C_TooMany) (.ref CF) = some true := PySem.W.exm_ref eF dF tF sf_TooMany
  have kit_BadNumber_TooMany : PySem.W.kitOne K (.ref C_BadNumber) (.ref C_TooMany) = some false := kit_sub is_TooMany t_TooMany sub_TooMany_TooMany sub_BadNumber_TooMany
  have kit_BadWord_TooMany : PySem.W.kitOne K (.ref C_BadWord) (.ref C_TooMany) = some false := kit_sub is_TooMany t_TooMany sub_TooMany_TooMany sub_BadWord_TooMany
  have kit_TooMany_TooMany : PySem.W.kitOne K (.ref C_TooMany) (.ref C_TooMany) = some true := kit_sub is_TooMany t_TooMany sub_TooMany_TooMany sub_TooMany_TooMany
  have kz_TooMany : PySem.W.kitOne K (.type "NoneType") (.ref C_TooMany) = some false := kit_sub is_TooMany t_TooMany sub_TooMany_TooMany z_TooMany
  have g_TooMany : mg "TooMany" = some (.ref C_TooMany) := PySem.W.mg_of X G a_TooMany
  have T : Blt mg := ⟨⟨_, PySem.W.mg_of X G a_MOST_WORDS⟩, PySem.W.mg_none_of X G n_isinstance, PySem.W.mg_none_of X G n_int, PySem.W.mg_none_of X G n_bool, PySem.W.mg_none_of X G n_len, PySem.W.mg_none_of X G n_abs, PySem.W.mg_none_of X G n_range, PySem.W.mg_none_of X G n_list, PySem.W.mg_none_of X G n_tuple, PySem.W.mg_none_of X G n_enumerate, PySem.W.mg_none_of X G n_all, PySem.W.mg_none_of X G n_set, PySem.W.mg_none_of X G n_repr, PySem.W.mg_none_of X G n_reversed⟩
  refine ⟨PySem.W.fnOf "law" "law" (defArgs s_law) (defBody s_law) (defScope s_law) .none kV_law dc_law pm_law an_law cd_law ct_law, [], spLaw K, ⟨fun p hp => (nomatch hp), fun p hp => (nomatch hp), fun p hp => (nomatch hp)⟩, fun s u => .of_eq rfl, fun H a ns hl _ hP hS => ⟨a, ns, rfl, hS, hl, fun _ => rfl⟩, fun base hK hG hTB => ?_⟩
  · have R_BadNumber : Err l.prog w K mg base "BadNumber" "part" C_BadNumber fi_BadNumber _ := ⟨O_BadNumber, i_BadNumber, ti_BadNumber, ok_init1 FI_BadNumber sc_initN rfl (.inl rfl) (.inl rfl), BI_BadNumber, g_BadNumber, no_BadNumber_part⟩
    have R_BadWord : Err l.prog w K mg base "BadWord" "part" C_BadWord fi_BadWord _ := ⟨O_BadWord, i_BadWord, ti_BadWord, ok_init1 FI_BadWord sc_initW rfl (.inl rfl) (.inl rfl), BI_BadWord, g_BadWord, no_BadWord_part⟩
    have R_TooMany : Err2 l.prog w K mg base "TooMany" "what" "most" C_TooMany fi_TooMany _ := ⟨O_TooMany, i_TooMany, ti_TooMany, ok_init2 FI_TooMany sc_initM (by decide) rfl (.inl rfl) (.inl rfl) (.inl rfl), BI_TooMany, g_TooMany, no_TooMany_what, no_TooMany_most⟩
    have Z : Kinds K mg CF C_BadWord C_TooMany := ⟨PySem.W.mg_of X G aF, g_BadWord, g_TooMany, ⟨XF_BadWord, EC_BadWord, EX_BadWord⟩, ⟨XF_TooMany, EC_TooMany, EX_TooMany⟩, no_BadWord_part, no_TooMany_what, no_TooMany_most, kit_BadWord_BadWord, kit_TooMany_TooMany⟩
    have G_are_unlike := ok_are_unlike (P := l.prog) (w := w) (base := base) D_are_unlike.F T D_is_list D_is_within D_is_integer
    have G_need_number := ok_need_number (P := l.prog) (w := w) (base := base) D_need_number.F D_is_within D_is_integer T R_BadNumber
    have G_ones_in := ok_ones_in (P := l.prog) (w := w) (base := base) D_ones_in.F D_need_number G_need_number
    have G_most_pairs := ok_most_pairs (P := l.prog) (w := w) (base := base) D_most_pairs.F T D_need_number D__bits_of G_need_number
    have G__need_words := ok__need_words (P := l.prog) (w := w) (base := base) D__need_words.F T D_are_unlike G_are_unlike R_BadWord R_TooMany
    have G__pairs_of := ok__pairs_of (P := l.prog) (w := w) (base := base) D__pairs_of.F T D_ones_in G_ones_in D__is_one_bit
    have G_pairs_among := ok_pairs_among (P := l.prog) (w := w) (base := base) D_pairs_among.F T D__need_words G__need_words D__pairs_of G__pairs_of
    have G__law_hive := ok__law_hive (P := l.prog) (w := w) (base := base) D__law_hive.F T
    have G__law_sting := ok__law_sting (P := l.prog) (w := w) (base := base) D__law_sting.F T
    have G__law_one := ok__law_one (P := l.prog) (w := w) (base := base) D__law_one.F T D__law_sting
    have G__law_mixed := ok__law_mixed (P := l.prog) (w := w) (base := base) D__law_mixed.F T D__law_sting
    have G__law_some := ok__law_some (P := l.prog) (w := w) (base := base) D__law_some.F T D__law_sting D__law_one
    have G__law_pairs := ok__law_pairs (P := l.prog) (w := w) (base := base) D__law_pairs.F T D__law_is_near
    have G__law_below := ok__law_below (P := l.prog) (w := w) (base := base) D__law_below.F T
    have G__law_counted_right := ok__law_counted_right (P := l.prog) (w := w) (base := base) D__law_counted_right.F T D__law_one G__law_one D__law_some G__law_some D__law_pairs G__law_pairs D__law_below G__law_below D_pairs_among G_pairs_among D_most_pairs G_most_pairs
    have G__law_full_right := ok__law_full_right (P := l.prog) (w := w) (base := base) D__law_full_right.F T D__law_one G__law_one D__law_sting G__law_sting D__law_mixed G__law_mixed D__law_below G__law_below D_pairs_among G_pairs_among D_most_pairs G_most_pairs
    have G__law_is_refused := ok__law_is_refused (P := l.prog) (w := w) (base := base) D__law_is_refused.F T Z D_pairs_among G_pairs_among
    have G__law_refused_right := ok__law_refused_right (P := l.prog) (w := w) (base := base) D__law_refused_right.F T D__law_one G__law_one D__law_sting G__law_sting D__law_is_refused G__law_is_refused D_pairs_among G_pairs_among
    exact ok_law T l_law c_law D__law_hive G__law_hive D__law_counted_right G__law_counted_right D__law_full_right G__law_full_right D__law_refused_right G__law_refused_right
end K05
open PySem PySem.W PyProof.Rows
set_option maxRecDepth 100000 in
set_option maxHeartbeats 0 in
theorem PySem.Challenge.cw_oneflip_k05_whole_no_words_have_more_pai_holds : PySem.Challenge.rw_oneflip_k05_whole_no_words_have_more_pai.Holds := by
  w_on; o_law; k_head; (case hw => w_witness2)
  k_fill
  refine OB.walk_G (l := PySem.Challenge.rw_oneflip_k05_whole_no_words_have_more_pai) (n := 63) (k := 12) (x := "script") (CX := fun _ => L2.CX0) rfl (by decide) rfl ⟨rfl, by decide, by decide⟩ (fun w h Y => PySem.W.kIn_of Y) ?F (fun _ _ _ _ _ z => z)
  case F =>
    intro w mg fa h Y KX G hmg
    refine' K05.all_mk KX G hmg ?a_is_integer ?l_is_integer ?c_is_integer ?k_is_integer ?a_is_within ?l_is_within ?c_is_within ?k_is_within ?a_is_list ?l_is_list ?c_is_list ?k_is_list ?a_are_unlike ?l_are_unlike ?c_are_unlike ?k_are_unlike ?a_need_number ?l_need_number ?c_need_number ?k_need_number ?a__bits_of ?l__bits_of ?c__bits_of ?k__bits_of ?a_ones_in ?l_ones_in ?c_ones_in ?k_ones_in ?a_most_pairs ?l_most_pairs ?c_most_pairs ?k_most_pairs ?a_pairs_among ?l_pairs_among ?c_pairs_among ?k_pairs_among ?a__need_words ?l__need_words ?c__need_words ?k__need_words ?a__pairs_of ?l__pairs_of ?c__pairs_of ?k__pairs_of ?a__is_one_bit ?l__is_one_bit ?c__is_one_bit ?k__is_one_bit ?a__law_hive ?l__law_hive ?c__law_hive ?k__law_hive ?a__law_sting ?l__law_sting ?c__law_sting ?k__law_sting ?a__law_one ?l__law_one ?c__law_one ?k__law_one ?a__law_mixed ?l__law_mixed ?c__law_mixed ?k__law_mixed ?a__law_some ?l__law_some ?c__law_some ?k__law_some ?a__law_is_near ?l__law_is_near ?c__law_is_near ?k__law_is_near ?a__law_pairs ?l__law_pairs ?c__law_pairs ?k__law_pairs ?a__law_below ?l__law_below ?c__law_below ?k__law_below ?a__law_counted_right ?l__law_counted_right ?c__law_counted_right ?k__law_counted_right ?a__law_full_right ?l__law_full_right ?c__law_full_right ?k__law_full_right ?a__law_is_refused ?l__law_is_refused ?c__law_is_refused ?k__law_is_refused ?a__law_refused_right ?l__law_refused_right ?c__law_refused_right ?k__law_refused_right ?a_law ?l_law ?c_law ?k_law ?aF ?eF ?dF ?tF ?a_BadNumber ?x_BadNumber ?sa_BadNumber ?e_BadNumber ?t_BadNumber ?k_BadNumber ?i_BadNumber ?ti_BadNumber ?li_BadNumber ?ci_BadNumber ?ki_BadNumber ?no_BadNumber_part ?ga_BadNumber ?gg_BadNumber ?hd_BadNumber ?ha_BadNumber ?hm_BadNumber ?sf_BadNumber ?is_BadNumber ?z_BadNumber ?a_BadWord ?x_BadWord ?sa_BadWord ?e_BadWord ?t_BadWord ?k_BadWord ?i_BadWord ?ti_BadWord ?li_BadWord ?ci_BadWord ?ki_BadWord ?no_BadWord_part ?ga_BadWord ?gg_BadWord ?hd_BadWord ?ha_BadWord ?hm_BadWord ?sf_BadWord ?is_BadWord ?z_BadWord ?a_TooMany ?x_TooMany ?sa_TooMany ?e_TooMany ?t_TooMany ?k_TooMany ?i_TooMany ?ti_TooMany ?li_TooMany ?ci_TooMany ?ki_TooMany ?no_TooMany_what ?no_TooMany_most ?ga_TooMany ?gg_TooMany ?hd_TooMany ?ha_TooMany ?hm_TooMany ?sf_TooMany ?is_TooMany ?z_TooMany ?sub_BadNumber_BadNumber ?sub_BadNumber_BadWord ?sub_BadNumber_TooMany ?sub_BadWord_BadNumber ?sub_BadWord_BadWord ?sub_BadWord_TooMany ?sub_TooMany_BadNumber ?sub_TooMany_BadWord ?sub_TooMany_TooMany ?spn ?tkn ?a_MOST_WORDS ?n_isinstance ?n_int ?n_bool ?n_len ?n_abs ?n_range ?n_list ?n_tuple ?n_enumerate ?n_all ?n_set ?n_repr ?n_reversed
    (case a_is_integer => k_is)
    (case l_is_integer => k_is)
    (case c_is_integer => k_is)
    (case k_is_integer => k_is)
    (case a_is_within => k_is)
    (case l_is_within => k_is)
    (case c_is_within => k_is)
    (case k_is_within => k_is)
    (case a_is_list => k_is)
    (case l_is_list => k_is)
    (case c_is_list => k_is)
    (case k_is_list => k_is)
    (case a_are_unlike => k_is)
    (case l_are_unlike => k_is)
    (case c_are_unlike => k_is)
    (case k_are_unlike => k_is)
    (case a_need_number => k_is)
    (case l_need_number => k_is)
    (case c_need_number => k_is)
    (case k_need_number => k_is)
    (case a__bits_of => k_is)
    (case l__bits_of => k_is)
    (case c__bits_of => k_is)
    (case k__bits_of => k_is)
    (case a_ones_in => k_is)
    (case l_ones_in => k_is)
    (case c_ones_in => k_is)
    (case k_ones_in => k_is)
    (case a_most_pairs => k_is)
    (case l_most_pairs => k_is)
    (case c_most_pairs => k_is)
    (case k_most_pairs => k_is)
    (case a_pairs_among => k_is)
    (case l_pairs_among => k_is)
    (case c_pairs_among => k_is)
    (case k_pairs_among => k_is)
    (case a__need_words => k_is)
    (case l__need_words => k_is)
    (case c__need_words => k_is)
    (case k__need_words => k_is)
    (case a__pairs_of => k_is)
    (case l__pairs_of => k_is)
    (case c__pairs_of => k_is)
    (case k__pairs_of => k_is)
    (case a__is_one_bit => k_is)
    (case l__is_one_bit => k_is)
    (case c__is_one_bit => k_is)
    (case k__is_one_bit => k_is)
    (case a__law_hive => k_is)
    (case l__law_hive => k_is)
    (case c__law_hive => k_is)
    (case k__law_hive => k_is)
    (case a__law_sting => k_is)
    (case l__law_sting => k_is)
    (case c__law_sting => k_is)
    (case k__law_sting => k_is)
    (case a__law_one => k_is)
    (case l__law_one => k_is)
    (case c__law_one => k_is)
    (case k__law_one => k_is)
    (case a__law_mixed => k_is)
    (case l__law_mixed => k_is)
    (case c__law_mixed => k_is)
    (case k__law_mixed => k_is)
    (case a__law_some => k_is)
    (case l__law_some => k_is)
    (case c__law_some => k_is)
    (case k__law_some => k_is)
    (case a__law_is_near => k_is)
    (case l__law_is_near => k_is)
    (case c__law_is_near => k_is)
    (case k__law_is_near => k_is)
    (case a__law_pairs => k_is)
    (case l__law_pairs => k_is)
    (case c__law_pairs => k_is)
    (case k__law_pairs => k_is)
    (case a__law_below => k_is)
    (case l__law_below => k_is)
    (case c__law_below => k_is)
    (case k__law_below => k_is)
    (case a__law_counted_right => k_is)
    (case l__law_counted_right => k_is)
    (case c__law_counted_right => k_is)
    (case k__law_counted_right => k_is)
    (case a__law_full_right => k_is)
    (case l__law_full_right => k_is)
    (case c__law_full_right => k_is)
    (case k__law_full_right => k_is)
    (case a__law_is_refused => k_is)
    (case l__law_is_refused => k_is)
    (case c__law_is_refused => k_is)
    (case k__law_is_refused => k_is)
    (case a__law_refused_right => k_is)
    (case l__law_refused_right => k_is)
    (case c__law_refused_right => k_is)
    (case k__law_refused_right => k_is)
    (case a_law => k_is)
    (case l_law => k_is)
    (case c_law => k_is)
    (case k_law => k_is)
    (case aF => k_is)
    (case eF => k_is)
    (case dF => k_is)
    (case tF => k_is)
    (case a_BadNumber => k_is)
    (case x_BadNumber => k_is)
    (case sa_BadNumber => k_is)
    (case e_BadNumber => k_is)
    (case t_BadNumber => k_is)
    (case k_BadNumber => k_is)
    (case i_BadNumber => k_is)
    (case ti_BadNumber => k_is)
    (case li_BadNumber => k_is)
    (case ci_BadNumber => k_is)
    (case ki_BadNumber => k_is)
    (case no_BadNumber_part => k_is)
    (case ga_BadNumber => k_is)
    (case gg_BadNumber => k_is)
    (case hd_BadNumber => k_is)
    (case ha_BadNumber => k_is)
    (case hm_BadNumber => k_is)
    (case sf_BadNumber => k_is)
    (case is_BadNumber => k_is)
    (case z_BadNumber => k_is)
    (case a_BadWord => k_is)
    (case x_BadWord => k_is)
    (case sa_BadWord => k_is)
    (case e_BadWord => k_is)
    (case t_BadWord => k_is)
    (case k_BadWord => k_is)
    (case i_BadWord => k_is)
    (case ti_BadWord => k_is)
    (case li_BadWord => k_is)
    (case ci_BadWord => k_is)
    (case ki_BadWord => k_is)
    (case no_BadWord_part => k_is)
    (case ga_BadWord => k_is)
    (case gg_BadWord => k_is)
    (case hd_BadWord => k_is)
    (case ha_BadWord => k_is)
    (case hm_BadWord => k_is)
    (case sf_BadWord => k_is)
    (case is_BadWord => k_is)
    (case z_BadWord => k_is)
    (case a_TooMany => k_is)
    (case x_TooMany => k_is)
    (case sa_TooMany => k_is)
    (case e_TooMany => k_is)
    (case t_TooMany => k_is)
    (case k_TooMany => k_is)
    (case i_TooMany => k_is)
    (case ti_TooMany => k_is)
    (case li_TooMany => k_is)
    (case ci_TooMany => k_is)
    (case ki_TooMany => k_is)
    (case no_TooMany_what => k_is)
    (case no_TooMany_most => k_is)
    (case ga_TooMany => k_is)
    (case gg_TooMany => k_is)
    (case hd_TooMany => k_is)
    (case ha_TooMany => k_is)
    (case hm_TooMany => k_is)
    (case sf_TooMany => k_is)
    (case is_TooMany => k_is)
    (case z_TooMany => k_is)
    (case sub_BadNumber_BadNumber => k_is)
    (case sub_BadNumber_BadWord => k_is)
    (case sub_BadNumber_TooMany => k_is)
    (case sub_BadWord_BadNumber => k_is)
    (case sub_BadWord_BadWord => k_is)
    (case sub_BadWord_TooMany => k_is)
    (case sub_TooMany_BadNumber => k_is)
    (case sub_TooMany_BadWord => k_is)
    (case sub_TooMany_TooMany => k_is)
    (case spn => k_is)
    (case tkn => k_is)
    (case a_MOST_WORDS => k_is)
    (case n_isinstance => k_is)
    (case n_int => k_is)
    (case n_bool => k_is)
    (case n_len => k_is)
    (case n_abs => k_is)
    (case n_range => k_is)
    (case n_list => k_is)
    (case n_tuple => k_is)
    (case n_enumerate => k_is)
    (case n_all => k_is)
    (case n_set => k_is)
    (case n_repr => k_is)
    (case n_reversed => k_is)
    
