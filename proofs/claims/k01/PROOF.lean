import PyProof.Rows.All
import Wide.All
import OpenK.AllK
import Wide.FinOn
import PyProof.StrWalks
import PyProof.Draws
import KE.KExcSuper
import HandS.ForMost
import HandS.Exc
import HandS.ExcInit
import HandS.ExcField
import HandS.ExcOwn
import HandS.FStr
import HandS.Defaults
import KE.KStateDown
import HandS.MakeKwOnly
import HandS.Head0
import HandS.Head1
import HandS.Head2
import HandS.HeadEnd
import HandS.HeadHook1
import HandS.HeadHook2
import KE.KRevIter
import HandS.RevTup
import HandS.Text
import HandS.Rev
import PyProof.JoinWalk
import HandS.Style
import HandS.Flow
import HandS.WideBits
import HandS.Codes
import HandS.StrMore
import HandS.Call
import HandS.Deep
import PySem.Challenge.RW_sixdot_k01_pieces_of_a_line
set_option Elab.async false
set_option linter.all false
set_option maxRecDepth 100000
set_option maxHeartbeats 4000000
/-! rules that the layer lacks: enumerate over a text; two except clauses of which the first one has a name; super().__init__ of an own exception -/
namespace SxK
open PySem PySem.Spec PyProof.Rows L2
abbrev sgn (c : Nat) : Str := ⟨#[c]⟩
/-! ### for i, c in enumerate(text) -/
def Ise (z : Str) : It :=
  ⟨fun i _ => i < z.cps.size, fun i H v H' => ∃ T c, v = .ref T ∧ H T = none ∧ H' = upd H T (.tup [.int (i : Nat), .str (sgn c)]) ∧ z.cps[i]? = some c, fun i _ => z.cps.size ≤ i⟩
theorem drawsT {P : Program} {w : World} {A : Around} (hh : A.handled = none) (it : Addr) (z : Str) (t : Tok) : Draws P w A it [it] z.cps.size (SignAt z) (fun i h => h.IsStrIter it (strIterType z) z t i) := by
  unfold strIterType
  cases z.cps.all (· < 128)
  · exact Draws.strWide hh it z t
  · exact Draws.strAscii hh it z t
theorem turn_enumT {P : Program} {w : World} {K : PySem.W.Frag} {elts : List Expr} {kk : Nat} {tpos : Pos} (z : Str) (t : Tok) (e it : Addr) :
    Turn P w K (.Tuple elts kk tpos) (Ise z) [e, it] e (fun i h => (∃ old, IsEnum h e it ((i : Nat) : Int) old) ∧ h.IsStrIter it (strIterType z) z t i ∧ e ≠ it ∧ i ≤ z.cps.size) where
  mem := List.mem_cons_self
  obj := fun i h st b hb => by
    obtain ⟨⟨old, he⟩, ⟨o, ho, hcl, hdt⟩, _, _⟩ := st
    rcases List.mem_cons.mp hb with q | q
    · subst q; exact ⟨_, he, fun v n => nomatch n⟩
    · rw [List.mem_singleton.mp q]; exact ⟨o, ho, fun v n => by rw [hdt] at n; cases n⟩
  keep := fun i h h' st k => by
    obtain ⟨⟨old, he⟩, ⟨o, ho, r⟩, hne, hle⟩ := st
    exact ⟨⟨old, k e List.mem_cons_self _ he⟩, ⟨o, k it (List.mem_cons_of_mem _ List.mem_cons_self) o ho, r⟩, hne, hle⟩
  item := by
    intro X hP hw hK hc i pins s σ H E I hf st hg
    subst hP hw hK
    obtain ⟨⟨old, he⟩, hit, hne, hle⟩ := st
    have el : e < s.heap.objs.size := Heap.lt_size he
    have il : it < s.heap.objs.size := by
      obtain ⟨_, q, _⟩ := id hit
      exact Heap.lt_size q
    have D : Draws X.prog X.w X.A.in1 it [it] z.cps.size (SignAt z) (fun i h => h.IsStrIter it (strIterType z) z t i) := drawsT (A := X.A.in1) (show X.A.in1.handled = none from I.ok.hd hc) it z t
    refine wpAny_pyNext_enum_itemD D he hit hg hne (fun q => hne (List.mem_singleton.mp q)) fun x h' tk hx ho hit' hT hsz hk => ?_
    obtain ⟨c, u, hcz, rfl⟩ := hx
    refine ⟨_, rfl, wpAny_letOwnedTupleGo_enum (s := { s with heap := h', toks := tk + 1 }) ho fun h2 he2 sb => ?_⟩
    have hT2 : h2.get? s.heap.objs.size = some { cls := .type "tuple", data := .seq #[.int i tk, .str ⟨#[c]⟩ u] } := (sb.2 _ (Nat.ne_of_gt el)).trans hT
    have nw : ObjOk X.prog X.w (upd H s.heap.objs.size (.tup [.int (i : Nat), .str (sgn c)])) h2 s.heap.objs.size (.tup [.int (i : Nat), .str (sgn c)]) :=
      ⟨(by show 2 ≤ sizeLine; decide), [.int i tk, .str ⟨#[c]⟩ u], .cons ⟨_, rfl⟩ (.cons ⟨_, rfl⟩ .nil), ⟨_, hT2, rfl, _, rfl⟩⟩
    have I1 : Inv X pins σ (upd H s.heap.objs.size (.tup [.int (i : Nat), .str (sgn c)])) { s with heap := h2, toks := tk + 1 } :=
      I.turnedNew (ch := [e, it]) (fun b ob hb q => by
        have b1 : b ≠ e := fun n => hb (by rw [n]; exact List.mem_cons_self)
        have b2 : b ≠ it := fun n => hb (by rw [n]; exact List.mem_cons_of_mem _ List.mem_cons_self)
        exact (sb.2 b b1).trans (hk b ob b1 b2 q)) hf (Nat.le_refl _) nw
    have e1 : ((i + 1 : Nat) : Int) = (i : Int) + 1 := by omega
    refine ⟨.ref s.heap.objs.size, _, I1, rfl, ⟨_, c, rfl, I.hok.fresh (Nat.le_refl _), rfl, hcz⟩, ⟨⟨_, by rw [e1]; exact he2⟩, ?_, hne, Nat.succ_le_of_lt hg⟩, fun b hb => ?_⟩
    · obtain ⟨o, ho2, r⟩ := hit'
      exact ⟨o, (sb.2 it (Ne.symm hne)).trans ho2, r⟩
    · have lt : b < s.heap.objs.size := by
        rcases List.mem_cons.mp hb with q | q
        · rw [q]; exact el
        · rw [List.mem_singleton.mp q]; exact il
      rw [upd_ne (Nat.ne_of_lt lt)]
      exact (hf b hb).1
  done := by
    intro X hP hw hK hc i pins s σ H E I hf st hg
    subst hP hw hK
    obtain ⟨⟨old, he⟩, hit, hne, hle⟩ := st
    have D : Draws X.prog X.w X.A.in1 it [it] z.cps.size (SignAt z) (fun i h => h.IsStrIter it (strIterType z) z t i) := drawsT (A := X.A.in1) (show X.A.in1.handled = none from I.ok.hd hc) it z t
    obtain ⟨f0, f1, f2, f3, f4, f5⟩ := hf it (List.mem_cons_of_mem _ List.mem_cons_self)
    have ei : i = z.cps.size := Nat.le_antisymm hle hg
    subst ei
    exact wpAny_pyNext_enum_endD D he hit fun h' eb => ⟨rfl, I.turned (t' := s.toks) (fun b o hb q => eb b o hb q) f0 f1 f3 f4 f5⟩
  self := fun A i s Q E st h => by
    obtain ⟨⟨_, he⟩, _⟩ := st
    exact wpAny_pyIter_enum he h
def iEnumT (ta : TA) : TI := fun σ H R => ta σ H fun vs H1 => ∃ z : Str, vs = [.str z] ∧ R (Ise z) H1
theorem pi_enumT {X : Cx} {e : Expr} {ta : TA} {p pos tpos : Pos} {elts : List Expr} {kk : Nat} (hg : Gl X "enumerate") (hm : X.mg "enumerate" = none) (ha : PA X [e] ta) (hs : starEach [e] X.env = [(false, eval e X.env)] := by rfl) :
    PI X (.Tuple elts kk tpos) (.Call (.Name "enumerate" p) [e] [] pos) (iEnumT ta) := by
  refine ⟨fun pins s σ H R I h => ?_⟩
  refine Call_ (ld_blt I hg hm boot_enumerate (PyProof.Rows.callWith_type1 (thn (ha.run pos pins s σ H _ I h) fun us s1 ⟨vs, H1, I1, r1, z, ez, q⟩ => ?_) hs rfl))
  subst ez
  cases r1 with
  | cons r rr =>
    cases rr
    obtain ⟨t, rfl⟩ := r
    have gt : ∀ b, b ∈ [s1.heap.objs.size + 1, s1.heap.objs.size] → s1.heap.objs.size ≤ b := fun b hb => by
      rcases List.mem_cons.mp hb with n | n
      · rw [n]; exact Nat.le_add_right _ _
      · rw [List.mem_singleton.mp n]; exact Nat.le_refl _
    refine call_enumerate_str fun h' he hit hsz hk => wpAny_pyIter_enum he ?_
    exact ⟨s1.heap.objs.size + 1, [s1.heap.objs.size + 1, s1.heap.objs.size], _, _, H1, rfl, I1.kept (t' := s1.toks) hk, turn_enumT z t (s1.heap.objs.size + 1) s1.heap.objs.size,
      ⟨⟨.none, he⟩, hit, Nat.succ_ne_self _, Nat.zero_le _⟩, fun b hb => I1.fpOk (gt b hb) (I1.hok.fresh (gt b hb)), q⟩
theorem for_enumT {z : Str} {g : TG} {tb : TS} {D : Ends} {σ : L2.St} {H : Hp} (Pv : Nat → L2.St → Hp → Prop) (h0 : Pv 0 σ H)
    (hs : ∀ (i c : Nat) (T : Addr) (σ : L2.St) (H : Hp), z.cps.toList[i]? = some c → Pv i σ H → H T = none → g (.ref T) σ (upd H T (.tup [.int (i : Nat), .str (sgn c)])) fun σ2 H2 => tb { D with nx := Pv (i + 1), ct := Pv (i + 1), bk := D.nx } σ2 H2)
    (hd : ∀ σ H, Pv z.cps.toList.length σ H → D.nx σ H) :
    ∃ W : Nat → Nat → L2.St → Hp → Prop, (∃ m, W 0 m σ H) ∧ ∀ i m σ H, W i m σ H → ((Ise z).stop i H ∧ D.nx σ H) ∨ ((Ise z).go i H ∧ ∃ N : L2.St → Hp → Prop, (∀ σ' H', N σ' H' → ∃ m', m' < m ∧ W (i + 1) m' σ' H') ∧
      ∀ v H', (Ise z).yld i H v H' → g v σ H' fun σ2 H2 => tb { D with nx := N, ct := N, bk := D.nx } σ2 H2) := by
  have hsz : z.cps.size = z.cps.toList.length := by simp
  refine ⟨fun i m σ H => m = z.cps.toList.length - i ∧ i ≤ z.cps.toList.length ∧ Pv i σ H, ⟨z.cps.toList.length, rfl, Nat.zero_le _, h0⟩, ?_⟩
  rintro i m σ H ⟨rfl, hi, p⟩
  by_cases lt : i < z.cps.toList.length
  · refine .inr ⟨by show i < z.cps.size; omega, Pv (i + 1), fun σ' H' q => ⟨z.cps.toList.length - (i + 1), by omega, rfl, lt, q⟩, ?_⟩
    rintro v H' ⟨T, c, rfl, hT, rfl, hc⟩
    exact hs i c T σ _ (by rw [Array.getElem?_toList]; exact hc) p hT
  · have e : i = z.cps.toList.length := by omega
    subst e
    exact .inl ⟨by show z.cps.size ≤ z.cps.toList.length; omega, hd σ H p⟩
end SxK

set_option Elab.async false
set_option linter.all false
set_option maxRecDepth 100000
set_option maxHeartbeats 4000000
namespace SxK
open PySem PySem.Spec PyProof.Rows L2
/-! ### try with clauses of which the first one, with a name, takes every exception that is due -/
/-- the ends behind a suite whose name in slot i goes -/
def dropAt (i : Nat) (D : Ends) : Ends := { nx := fun σ' H' => D.nx (σ'.set i none) H', rt := D.rt, bk := fun σ' H' => D.bk (σ'.set i none) H', ct := fun σ' H' => D.ct (σ'.set i none) H' }
def wFirst (K : PySem.W.Frag) (c : Value) (i : Nat) (ts : Addr → Value → Option Addr → TS) (D : Ends) : WX := fun cls d σ H =>
  PySem.W.exmOne K cls c = some true ∧ ∀ a, H a = none → ts a cls d (dropAt i D) (σ.set i (some (.ref a))) H
section
variable {X : Cx} {x n : Str} {c : Value} {i : Nat} {body suite : List Stmt} {b₀ : Stmt} {np pos pos' : Pos} {more : List ExceptHandler} {tb : WX → TS} {ts : Addr → Value → Option Addr → TS}
theorem ps_try_first (st : X.stack = X.env :: X.outer) (fr : X.env.frame = some X.env.locals) (nd : X.N.Nodup) (ni : X.N[i]? = some n) (nl : X.env.kindOf n = some .local) (nc : Names X x c)
    (tryB : ∀ (W : WX) (pn : List (Addr × Obj)) (xe : Value → Shared → Prop), Takes (X.tr pn xe) W → PassesOwn (model X.prog X.w) X.A X.env xe → PSs (X.tr pn xe) body (tb W))
    (suiteB : ∀ (a : Addr) (oe : Obj) (cls : Value) (d : Option Addr) (pn : List (Addr × Obj)), Zc cls d oe → (∃ vs, oe.data = .fields vs) → PSs (X.suite a ((a, oe) :: pn)) (b₀ :: suite) (ts a cls d)) :
    PS X (.Try body (.ExceptHandler (some (.Name x np)) (some n) (b₀ :: suite) pos' :: more) [] [] pos) (fun D σ H => tb (wFirst X.K c i ts D) D σ H) := by
  refine ⟨fun pins s σ H D I h => ?_⟩
  have okX := I.ok
  have afr : X.A.frames = some (X.env :: X.outer) := by rw [okX.frames, st]
  refine wpAny_Try_except (wpAny_mono ((tryB (wFirst X.K c i ts D) (X.pn ++ pins) _ (fun u s2 y => ?_) PassesOwn.looking).run [] s σ H D (I.toTry _) h) (fun f s1 q => ?_) (fun e s1 q => q))
  · obtain ⟨a, B, sJ, pins2, τ, G, cls, d, rfl, J0, inB, upS, air, free, osJ, gnJ, mt, wish⟩ := y
    have J : Inv X pins τ G sJ := J0.ofTry okX
    have air2 : Sky B (X.env :: X.outer) a (Zc cls d) X.env.locals s2.heap := by rw [← st]; exact air
    show wpAny (model X.prog X.w) X.A (noteFrame (.ref a) X.env) _ _ _
    refine Sky.land Zc.steady afr fr air2 fun hL flL upL => ?_
    have JL : Inv X pins τ G { s2 with heap := hL } := J.landed inB flL.1 (upS.trans upL) osJ gnJ
    obtain ⟨oL, vL, eL, zL, dL⟩ := flL.there
    have off : a ∉ frs (X.env :: X.outer) := fun hm => by
      obtain ⟨_, o', e', hnf⟩ := flL.2.2.1.mem hm
      rw [eL] at e'
      cases e'
      exact hnf _ dL
    have aL : a ≠ X.env.locals := fun z => off (List.mem_filterMap.mpr ⟨X.env, List.mem_cons_self, by rw [fr, z]⟩)
    have aF : a ∉ X.fs := fun hm => by
      obtain ⟨e, he, q⟩ := List.mem_filterMap.mp hm
      exact off (List.mem_filterMap.mpr ⟨e, List.mem_cons_of_mem _ he, q⟩)
    have SL := JL.suite eL dL free aL aF
    refine wpAny_handleBy_cons (codeAny_handlers_test ?_) (fun q => by cases q)
    have tyL : PySem.W.Looks (model X.prog X.w) hL (typeOf (.ref a)) cls := fun A Q E s k q => wpAny_typeOf_ref (k _ _ eL) (by rw [zL.1]; exact q)
    have mtL := PySem.W.exm_one (M := model X.prog X.w) JL.kIn tyL mt
    have named : ∀ {Q : Value → Shared → Prop} {E : Value → Shared → Prop}, Q c { s2 with heap := hL } → wpAny (model X.prog X.w) (X.A.mark (some (.ref a))) (eval (.Name x np) X.env) Q E { s2 with heap := hL } := fun {Q E} q => by
      rcases nc with ⟨g1, g2, m1 | ⟨m1, m2, m3⟩⟩
      · exact ld_glob (X := X.suite a ((a, oL) :: (X.pn ++ pins))) SL g1 m1 q g2
      · exact ld_blt (X := X.suite a ((a, oL) :: (X.pn ++ pins))) SL g1 m1 m2 q m3 g2
    refine named (mtL.here (codeAny_handlers_suite_as (HandSPX.lands_againZ flL fun hR flR upR => ?_)))
    have JR : Inv X pins τ G { s2 with heap := hR } := J.landed inB flR.1 ((upS.trans upL).trans upR) osJ gnJ
    obtain ⟨oR, vR, eR, zR, dR⟩ := flR.there
    refine store_ok (X := X.suite a ((a, oR) :: (X.pn ++ pins))) (v := .ref a) (JR.suite eR dR free aL aF) nd ni (.inl nl) rfl (fun s5 S5 => ?_) (.inr nl)
    refine wpAny_mono ((suiteB a oR cls d (X.pn ++ pins) zR ⟨_, dR⟩).run [] s5 _ G _ S5 (wish a free)) (fun f s6 q => ?_) (fun _ _ z => z.elim)
    have goes : ∀ {ρ : L2.St} {F : Hp} {Q : Shared → Prop}, Inv (X.suite a ((a, oR) :: (X.pn ++ pins))) [] ρ F s6 → (∀ s7, Inv X pins (ρ.set i none) F s7 → Q s7) →
        wpAny (model X.prog X.w) X.A (do bindName X.env n .none; unbindBehindTheSuite X.env n pos') (fun _ s7 => Q s7) X.xe s6 := fun {ρ F Q} Sx hq => gone_ok (Sx.unsuite okX) nd ni nl hq
    cases f with
    | ret u =>
      obtain ⟨v, ρ, F, Sx, rv, q⟩ := q
      exact goes Sx fun s7 J7 => ⟨_, _, _, J7, rv, q⟩
    | next =>
      obtain ⟨ρ, F, Sx, q⟩ := q
      exact goes Sx fun s7 J7 => ⟨_, _, J7, q⟩
    | brk =>
      obtain ⟨ρ, F, Sx, q⟩ := q
      exact goes Sx fun s7 J7 => ⟨_, _, J7, q⟩
    | cont =>
      obtain ⟨ρ, F, Sx, q⟩ := q
      exact goes Sx fun s7 J7 => ⟨_, _, J7, q⟩
  · cases f with
    | ret u =>
      obtain ⟨v, τ, G, J, rv, q⟩ := q
      exact ⟨v, τ, G, J.ofTry okX, rv, q⟩
    | next =>
      obtain ⟨τ, G, J, q⟩ := q
      exact wpAny_execs_nil ⟨τ, G, J.ofTry okX, q⟩
    | brk =>
      obtain ⟨τ, G, J, q⟩ := q
      exact ⟨τ, G, J.ofTry okX, q⟩
    | cont =>
      obtain ⟨τ, G, J, q⟩ := q
      exact ⟨τ, G, J.ofTry okX, q⟩
end
end SxK

set_option Elab.async false
set_option linter.all false
set_option maxRecDepth 100000
set_option maxHeartbeats 4000000
namespace SxK
open PySem PySem.Spec PyProof.Rows L2 PySem.Calls
/-! ### an __init__ whose first statement is super().__init__(e), the base's one ValueError's -/
structure SupC (P : Program) (K : PySem.W.Frag) (mg : Str → Option Value) (C fI cc cda : Addr) (nm q : Str) (params : Arguments) (body : List Stmt) (scope : Scope) (fd : FuncData) : Prop where
  ex : OexC K C
  fn : ∃ oc od kV doc pm an ct osl, fd = PySem.W.ksFn nm q params body scope .none kV doc pm an (.ref cda) ct cc ∧ K.lookup fI = some ⟨oc, od, .func fd, osl⟩
  cod : PySem.W.codeIn K (.ref cda) q = true
  file : ∃ cl cd vs sl tf file, K.lookup cda = some ⟨cl, cd, .fields vs, sl⟩ ∧ vs[2]? = some (.str file tf) ∧ ((P.main.file : Str) == file) = true
  cell : ∃ cl cd sl, K.lookup cc = some ⟨cl, cd, .cell (some (.ref C)), sl⟩
  opq : PySem.W.nsIn K cStatics "thirdparty.any" = some none
  ini : PySem.W.ks_superIn K C C "__init__" = some (some (.builtin "ValueError.__init__"))
  sub : PySem.W.mroIn K C (.ref C) = some true
  isB : PySem.W.subIn K (.ref C) (.type "ValueError") = some true
  sup : mg "super" = none
  top : (P.main.scope.names.lookup ("super" : Str)).isSome = false
  iC : PySem.W.findIn K (.ref C) "__init__" = some (some (.ref fI))
  tI : PySem.W.typeIn K (.ref fI) = some (.type "function")
section
variable {X : Cx} {pins : List (Addr × Obj)} {σ : L2.St} {H : Hp} {s : Shared} {a C u : Addr} {us : List Value} {Q : Value → Shared → Prop} {E : Value → Shared → Prop}
/-- the bound ValueError.__init__ is called: nothing of it is told -/
theorem mw_call (T : OexC X.K C) (I : Inv X pins σ H s) (e : H a = some (exo a C none)) (hu : s.heap.get? u = some (PySem.W.kxs_mw "ValueError.__init__" a)) (hl : us.length ≤ sizeLine) (h : ∀ s', Inv X pins σ H s' → Q .none s') :
    wpAny (model X.prog X.w) X.A (call (.ref u) us) Q E s := by
  obtain ⟨nm, q, N, bs, bm, sn, sub, ab, col, dd, k0, k1, k2, k3, k5, hC, hbm⟩ := T.cls
  obtain ⟨t1, ho⟩ := exo_at I.hok e
  obtain ⟨hp, g, d, t, os⟩ := s
  have FB := F.excBase_ValueError
  have mt : (Value.type "method-wrapper" == Value.type "method" || Value.type "method-wrapper" == Value.type "builtin_function_or_method" || Value.type "method-wrapper" == Value.type "method-wrapper") = true := by decide
  refine wpAny_call (codeAny_of_tree ?_); show wpAny _ X.A.in1 (callAny (.ref u) ⟨us, []⟩) _ _ _
  simp only [callAny]; refine wpAny_bind (wpAny_load hu ?_)
  simp only [PySem.W.kxs_mw, mt, if_true]
  refine PySem.W.KFB.if_so (by decide) (wpAny_bind (PySem.W.check_bound_init FB.toExcCallFacts (I.kIn _ _ hC) ho rfl (wpAny_bind (wpAny_pure (wpAny_pure ?_)))))
  refine ⟨plainId_quiet FB.init.plain _, codeAny_builtin FB.initEntry (PySem.W.exc_init_tree (cls := .ref C) (t0 := t1) (dv := none) (c2 := .none) (c3 := .none) (b4 := .bool false) ho hl fun h' k hx _ => ?_)⟩
  have J := I.write (t' := t) (x := a) (e := a) (o := exo a C none) (by rw [e]; exact True.intro) (.inl rfl) k ⟨_, hx⟩ (exo_ok hx)
  have eu : upd H a (exo a C none) = H := funext fun b => by
    by_cases hb : b = a
    · rw [hb, upd_same, e]
    · exact upd_ne hb
  rw [eu] at J
  exact h _ J
end
end SxK

set_option Elab.async false
set_option linter.all false
set_option maxRecDepth 100000
set_option maxHeartbeats 4000000
namespace SxK
open PySem PySem.Spec PyProof.Rows L2 PySem.Calls
/-- the context of such an __init__ -/
def cxSup (CX : CXT) (P : Program) (w : World) (K : PySem.W.Frag) (mg : Str → Option Value) (base : Heap) (N : List Str) (q : Str) (scope : Scope) (f cda cc : Addr) (A : Around) (outer : List Env) (s : Shared) (H : Hp) (E : XK) : Cx :=
  { prog := P, w := w, K := K, mg := mg, base := base, A := A.deeper (PySem.W.ksEnv q scope s.heap.objs.size f (.ref cda) cc), N := N, s_0 := s, H_0 := H, env := PySem.W.ksEnv q scope s.heap.objs.size f (.ref cda) cc, outer := outer,
    stack := PySem.W.ksEnv q scope s.heap.objs.size f (.ref cda) cc :: outer, ex := [], calm := true, fn := fun x => !(x == ("__class__" : Str)), pn := [],
    xe := fun e s' => wpAny (model P w) (A.deeper (PySem.W.ksEnv q scope s.heap.objs.size f (.ref cda) cc)) (leaving (PySem.W.ksEnv q scope s.heap.objs.size f (.ref cda) cc) e) (fun _ s'' => CX outer H s E e s'') (fun e' s'' => CX outer H s E e' s'') s' }
structure ScSup (scope : Scope) (ps : List Str) : Prop where
  kind : scope.kind = .function
  co : scope.isCoroutine = false
  gen : scope.isGenerator = false
  nd : ps.Nodup
  par : ∀ x ∈ ps, scope.names.lookup x = some .local
  nocell : ∀ y ∈ scope.names, y.2 ≠ .cell
  fre : ∀ y ∈ scope.names, y.2 = .free → y.1 = ("__class__" : Str)
  ks : scope.names.lookup ("super" : Str) = some .globalImplicit
  kc : scope.names.lookup ("__class__" : Str) = some .free
section
variable {CX : CXT} {P : Program} {w : World} {K : PySem.W.Frag} {mg : Str → Option Value} {base : Heap} {N ps : List Str} {q nm : Str} {scope : Scope} {C fI cda cc a : Addr} {A : Around} {outer : List Env} {s0 s : Shared} {H0 H : Hp} {E : XK}
  {params : Arguments} {body body2 : List Stmt} {fd : FuncData} {σ : L2.St} {p0 p1 p2 p3 p4 : Pos} {arg : Expr} {t : TA} {G : Hp → Prop} {m : Str → Option Value} {ar : Arg} {pl : Sem Bool}
theorem sup_first (S : SupC P K mg C fI cc cda nm q params body scope fd) (Z : ScSup scope ps) (hp : (params.posonlyargs ++ params.args).head? = some ar) (hpa : ar.arg ∈ ps)
    (I : Inv (cxSup CX P w K mg base N q scope fI cda cc A outer s0 H0 E) [] σ H s) (hns : s.heap.Ns s0.heap.objs.size m) (hv : m ar.arg = some (.ref a)) (e : H a = some (exo a C none))
    (ha : PA (cxSup CX P w K mg base N q scope fI cda cc A outer s0 H0 E) [arg] t)
    (hq : t σ H fun vs H1 => vs.length ≤ 1000 ∧ H1 a = some (exo a C none) ∧ G H1)
    (hs : starEach [arg] (PySem.W.ksEnv q scope s0.heap.objs.size fI (.ref cda) cc) = (false, eval arg (PySem.W.ksEnv q scope s0.heap.objs.size fI (.ref cda) cc)) :: starEach [] (PySem.W.ksEnv q scope s0.heap.objs.size fI (.ref cda) cc) := by rfl)
    (hi : interactive (PySem.W.ksEnv q scope s0.heap.objs.size fI (.ref cda) cc) = false := by rfl)
    (hsw : swapsWith (.Call (.Attribute (.Call (.Name "super" p0) [] [] p1) "__init__" p2) [arg] [] p3) none p4.line (PySem.W.ksEnv q scope s0.heap.objs.size fI (.ref cda) cc) = pure false := by rfl)
    (hev : eval (.Call (.Attribute (.Call (.Name "super" p0) [] [] p1) "__init__" p2) [arg] [] p3) (PySem.W.ksEnv q scope s0.heap.objs.size fI (.ref cda) cc) = (do
      let ov ← attributeBase (.Call (.Name "super" p0) [] [] p1) "__init__" (PySem.W.ksEnv q scope s0.heap.objs.size fI (.ref cda) cc) (eval (.Call (.Name "super" p0) [] [] p1) (PySem.W.ksEnv q scope s0.heap.objs.size fI (.ref cda) cc))
      standAt p2.atName
      let (f, first) ← holding [ov] (getMethod ov "__init__" pl)
      callWith p3 f first (backTo p3 (starEach [arg] (PySem.W.ksEnv q scope s0.heap.objs.size fI (.ref cda) cc))) []) := by rfl) :
    PySem.wpAt (model P w) (A.deeper (PySem.W.ksEnv q scope s0.heap.objs.size fI (.ref cda) cc)) (.func body2 (PySem.W.ksEnv q scope s0.heap.objs.size fI (.ref cda) cc))
      (exec (.Expr (.Call (.Attribute (.Call (.Name "super" p0) [] [] p1) "__init__" p2) [arg] [] p3) p4) (PySem.W.ksEnv q scope s0.heap.objs.size fI (.ref cda) cc))
      (fun f s' => f = .next ∧ ∃ H1, Inv (cxSup CX P w K mg base N q scope fI cda cc A outer s0 H0 E) [] σ H1 s' ∧ H1 a = some (exo a C none) ∧ G H1) (cxSup CX P w K mg base N q scope fI cda cc A outer s0 H0 E).xe s := by
  obtain ⟨oc, od, kV, doc, pm, an, ct, osl, efd, hf⟩ := S.fn
  subst efd
  obtain ⟨cl, cd, vs, sl, tf, file, hcode, hvs, hfile⟩ := S.file
  obtain ⟨cl2, cd2, sl2, hcell⟩ := S.cell
  obtain ⟨cn, cq, cN, bs, bm, sn, sub, ab, col, dd, k0, k1, k2, k3, k5, hC, hbm⟩ := S.ex.cls
  obtain ⟨t1, hx⟩ := exo_at I.hok e
  obtain ⟨mb, hb1, hb2⟩ := I.mod.blt
  have KI : K.In s.heap := I.kIn
  have hcd : PySem.W.clsIn K C = some { name := cn, bases := bs, mro := .ref C :: bm, ns := cN, qualname := cq, hasDict := true, slotNames := sn, subclasses := sub, abstract := ab, collection := col, hasDel := false } := by
    unfold PySem.W.clsIn
    rw [hC]
  have hax : a ≠ C := fun z => by
    have h1 := KI _ _ hC
    rw [← z, hx] at h1
    cases h1
  have hm : PySem.W.alongIn K "__init__" (((Value.ref C :: bm).dropWhile (· != .ref C)).drop 1) = some (some (.builtin "ValueError.__init__")) := by
    have h1 := S.ini
    unfold PySem.W.ks_superIn at h1
    rw [hcd] at h1
    exact h1
  refine ks_wpAt_Expr_any (ks_wpAt_MethodCall (ks_wpAt_super_base (env := PySem.W.ksEnv q scope s0.heap.objs.size fI (.ref cda) cc) Z.ks Z.kc (by decide) rfl (KI _ _ hf) rfl hp rfl (KI _ _ hcode) rfl hvs hfile S.top ?_) hev) hi hsw
  refine PySem.W.ks_loadName_global Z.kind Z.ks (loadGlobal_builtin (env := PySem.W.ksEnv q scope s0.heap.objs.size fI (.ref cda) cc) (I.mod.glob.keeps I.bk) S.sup (hb1.keeps I.bk) ((hb2 _ (by decide)).trans (by decide +kernel)) ⟨rfl, ?_⟩)
  refine wpAny_loadName_free Z.kind Z.kc (by rfl) ⟨_, KI _ _ hcell, rfl⟩ (wpAny_loadName_local Z.kind (Z.par _ hpa) hns hv ?_)
  obtain ⟨hh, g, d, tk, os⟩ := s
  refine ks_wpAny_isType_cls (KI _ _ hC) rfl ⟨rfl, ?_⟩
  refine ks_wpAny_call_super (KI _ _ hC) rfl hx rfl (fun c z => by cases z) (PySem.W.looks_mroIn KI S.sub) fun h1 e1 kp1 => ?_
  have K1 : K.In h1 := KI.keeps kp1
  have lx : PySem.W.Looks (model P w) h1 (isInstance (.ref a) (.type "ValueError")) true :=
    PySem.W.Looks.andThen (a := Value.ref C) (fun A Q E s k q => wpAny_typeOf_ref (k _ _ (kp1 _ _ hx)) q) (PySem.W.looks_subIn K1 S.isB)
  refine PySem.W.kxs_getMethod PySem.W.kxs_ValueError e1 (PySem.W.looks_opaque K1 S.opq) (l₀ := .ref C :: bm) ((PySem.W.looks_clsIn K1 hcd).andThen .now) rfl K1 hm lx hax (by decide) ?_
  have kp2 : ∀ b o, hh.get? b = some o → (h1.push (PySem.W.kxs_mw "ValueError.__init__" a)).get? b = some o := fun b o z => Heap.get?_push_of_some _ (kp1 _ _ z)
  have hu : (h1.push (PySem.W.kxs_mw "ValueError.__init__" a)).get? h1.objs.size = some (PySem.W.kxs_mw "ValueError.__init__" a) := Heap.get?_push_size _ rfl
  have I2 : Inv (cxSup CX P w K mg base N q scope fI cda cc A outer s0 H0 E) [] σ H ⟨h1.push (PySem.W.kxs_mw "ValueError.__init__" a), g, d, tk + 1, os⟩ := I.kept (t' := tk + 1) kp2
  have hle : hh.objs.size ≤ h1.objs.size := Nat.le_of_lt (Heap.lt_size e1)
  have I3 : Inv (cxSup CX P w K mg base N q scope fI cda cc A outer s0 H0 E) [(h1.objs.size, PySem.W.kxs_mw "ValueError.__init__" a)] σ H ⟨h1.push (PySem.W.kxs_mw "ValueError.__init__" a), g, d, tk + 1, os⟩ := I2.pins_of fun p hpp => by
    rw [List.mem_singleton.mp hpp]
    exact ⟨hu, I.hok.fresh hle, Nat.ne_of_gt (Nat.lt_of_lt_of_le I.lt hle), I.nofs hle, fun v z => by cases z⟩
  have run := ha.run p3 _ _ σ H _ I3 hq
  show wpAny _ _ (callWith p3 (.ref h1.objs.size) [] (backTo p3 (starEach [arg] (PySem.W.ksEnv q scope s0.heap.objs.size fI (.ref cda) cc))) []) _ _ _
  have run2 : wpAny (model P w) (A.deeper (PySem.W.ksEnv q scope s0.heap.objs.size fI (.ref cda) cc)) (spliced (backTo p3 (starEach [arg] (PySem.W.ksEnv q scope s0.heap.objs.size fI (.ref cda) cc)))) _ _ _ := run
  rw [hs] at run2 ⊢
  refine PySem.W.kxs_callWith (i := "ValueError.__init__") (x := a) rfl (evalArgs_plain (thn run2 fun us s4 h4 => ?_))
  obtain ⟨vs4, H4, I4, r4, l4, e4, q4⟩ := h4
  have hu4 := (I4.pin _ (List.mem_append_right _ List.mem_cons_self)).1
  refine ⟨hu4, mw_call (X := cxSup CX P w K mg base N q scope fI cda cc A outer s0 H0 E) S.ex I4 e4 hu4 (by rw [List.nil_append, ← r4.length, sizeLine_eq]; omega) fun s5 J5 => ?_⟩
  exact ⟨rfl, H4, J5.pins_of (pins' := []) (fun p hpp => absurd hpp (List.not_mem_nil)), e4, q4⟩
end
end SxK

set_option Elab.async false
set_option linter.all false
set_option maxRecDepth 100000
set_option maxHeartbeats 4000000
namespace SxK
open PySem PySem.Spec PyProof.Rows L2 PySem.Calls
theorem look_rev : ∀ (ps : List Str) (us : List Value) (i : Nat) (x : Str) (u : Value), ps.Nodup → ps[i]? = some x → us[i]? = some u → (ps.zip us).reverse.lookup x = some u
  | [], _, _, _, _, _, h, _ => by simp at h
  | _ :: _, [], _, _, _, _, _, h => by simp at h
  | p :: ps, v :: us, i, x, u, nd, h1, h2 => by
    obtain ⟨n1, n2⟩ := List.nodup_cons.mp nd
    rw [List.zip_cons_cons, List.reverse_cons, List.lookup_append]
    cases i with
    | zero =>
      have e1 : p = x := by simpa using h1
      have e2 : v = u := by simpa using h2
      subst e1 e2
      have e3 : (ps.zip us).reverse.lookup p = none := by
        rw [List.lookup_eq_none_iff]
        intro q hq
        have h3 := (List.of_mem_zip (List.mem_reverse.mp hq : (q.1, q.2) ∈ ps.zip us)).1
        have h4 : p ≠ q.1 := fun z => n1 (by rw [z]; exact h3)
        simpa using h4
      rw [e3]
      simp [List.lookup]
    | succ i => rw [look_rev ps us i x u n2 (by simpa using h1) (by simpa using h2)]; rfl
section
variable {CX : CXT} {P : Program} {w : World} {K : PySem.W.Frag} {mg : Str → Option Value} {base : Heap} {ps : List Str} {q nm : Str} {scope : Scope} {C fI cda cc : Addr}
  {params : Arguments} {rest : List Stmt} {fd : FuncData} {p0 p1 p2 p3 p4 : Pos} {arg : Expr} {ar : Arg} {pl : Sem Bool} {sp : Sp} {k : Nat}
theorem sup_start {body : List Stmt} {A : Around} {outer : List Env} {s : Shared} {H : Hp} {E : XK} {us : List Value} {vs : List V} {h0 : Heap} {tk : Nat} (S : SupC P K mg C fI cc cda nm q params body scope fd) (Z : ScSup scope ps)
    (hd : A.handled = none) (e0 : Env0 P w K mg base A outer s H) (hl : vs.length = ps.length) (r : Vals vs us) (hns : h0.Ns s.heap.objs.size (fun x => (ps.zip us).reverse.lookup x)) (hk : ∀ b o, s.heap.get? b = some o → h0.get? b = some o) :
    Inv (cxSup CX P w K mg base ps q scope fI cda cc A outer s H E) [] (start ps vs) H { s with heap := h0, toks := tk } := by
  obtain ⟨cl2, cd2, sl2, hcell⟩ := S.cell
  have hc0 := e0.bs _ _ (e0.mod.kin _ _ hcell)
  have none_in : ∀ b : Addr, b ∉ (cxSup CX P w K mg base ps q scope fI cda cc A outer s H E).ex := fun b z => absurd (show b ∈ ([] : List Addr) from z) List.not_mem_nil
  have cells : ∀ y c, (cxSup CX P w K mg base ps q scope fI cda cc A outer s H E).env.cells.lookup y = some c → y = ("__class__" : Str) ∧ c = cc := fun y c z => by
    have z1 : List.lookup y [(("__class__" : Str), cc)] = some c := z
    by_cases hy : y = ("__class__" : Str)
    · subst hy
      have z2 : List.lookup ("__class__" : Str) [(("__class__" : Str), cc)] = some cc := by simp [List.lookup]
      rw [z2] at z1
      exact ⟨rfl, (Option.some.inj z1).symm⟩
    · have q1 : (y == ("__class__" : Str)) = false := by simpa using hy
      simp [List.lookup, q1] at z1
  have upto : ∀ i v, (start ps vs)[i]? = some (some v) → vs[i]? = some v := fun i v z => by
    unfold L2.start at z
    rw [hl, Nat.sub_self, List.replicate_zero, List.append_nil, List.getElem?_map] at z
    cases n : vs[i]? with
    | none => rw [n] at z; cases z
    | some a => rw [n] at z; cases z; rfl
  refine ⟨⟨e0.mod, Z.kind, rfl, rfl, Nat.le_refl _, fun y z c h1 h2 => by rw [(cells _ _ h1).1, (cells _ _ h2).1], fun y hy => ?_, fun y c h1 h2 => ?_, fun _ => hd, Around.frames_deeper e0.frames, .inr ⟨rfl, rfl⟩, fun b z => absurd z (none_in b), e0.bs, e0.bsz, fun b _ _ => none_in b,
      fun b z => absurd z (none_in b), e0.funs, e0.frf⟩, rfl, e0.bare, Un.kept hk, ⟨_, hns, fun i y v h1 h2 h3 => ?_⟩, fun y c h => ?_, e0.hok.fresh (Nat.le_refl _), fun y c h => ?_, fun p hp => absurd (show p ∈ ([] : List (Addr × Obj)) from hp) List.not_mem_nil, e0.hok.kept hk, ?_⟩
  · have hy' : scope.names.lookup y = some .cell ∨ scope.names.lookup y = some .free := hy
    rcases hy' with z | z
    · exact absurd rfl (Z.nocell _ (PySem.mem_of_lookup z))
    · have e1 := Z.fre _ (PySem.mem_of_lookup z) rfl
      have e2 : y = ("__class__" : Str) := e1
      subst e2
      exact ⟨cc, by show List.lookup ("__class__" : Str) [(("__class__" : Str), cc)] = some cc; simp [List.lookup]⟩
  · have h1' : (!(y == ("__class__" : Str))) = true := h1
    rw [(cells _ _ h2).1] at h1'
    simp at h1'
  · obtain ⟨u, hu, rv⟩ := r.get (upto i v h2)
    exact ⟨u, rv, .inl ⟨Z.par y (List.mem_of_getElem? h1), look_rev ps us i y u Z.nd h1 hu⟩⟩
  · rw [(cells _ _ h).2]
    exact ⟨_, _, hk _ _ hc0.1, rfl⟩
  · rw [(cells _ _ h).2]
    exact hc0.2
  · unfold L2.start
    show _ = ps.length
    rw [List.length_append, List.length_map, List.length_replicate]
    omega
theorem fn_sup (S : SupC P K mg C fI cc cda nm q params (.Expr (.Call (.Attribute (.Call (.Name "super" p0) [] [] p1) "__init__" p2) [arg] [] p3) p4 :: rest) scope fd) (Z : ScSup scope ps)
    (hp : (params.posonlyargs ++ params.args).head? = some ar) (hps : ps[0]? = some ar.arg) (len : ∀ vs H Q E, sp vs H Q E → vs.length = ps.length)
    (body : ∀ (A : Around) (outer : List Env) (s : Shared) (H : Hp) (vs : List V) (Q : VK) (E : XK), Room k (A.deeper (PySem.W.ksEnv q scope s.heap.objs.size fI (.ref cda) cc)) → sp vs H Q E →
      ∃ (t : TA) (t2 : TS) (a : Addr) (vr : List V), PA (cxSup CX P w K mg base ps q scope fI cda cc A outer s H E) [arg] t ∧ PSs (cxSup CX P w K mg base ps q scope fI cda cc A outer s H E) rest t2 ∧ vs = .ref a :: vr ∧ H a = some (exo a C none) ∧
        t (start ps vs) H fun us H1 => us.length ≤ 1000 ∧ H1 a = some (exo a C none) ∧ t2 { nx := fun _ H' => Q .non H', rt := Q } (start ps vs) H1)
    (hs : ∀ L, starEach [arg] (PySem.W.ksEnv q scope L fI (.ref cda) cc) = (false, eval arg (PySem.W.ksEnv q scope L fI (.ref cda) cc)) :: starEach [] (PySem.W.ksEnv q scope L fI (.ref cda) cc))
    (hi : ∀ L, interactive (PySem.W.ksEnv q scope L fI (.ref cda) cc) = false)
    (hsw : ∀ L, swapsWith (.Call (.Attribute (.Call (.Name "super" p0) [] [] p1) "__init__" p2) [arg] [] p3) none p4.line (PySem.W.ksEnv q scope L fI (.ref cda) cc) = pure false)
    (hev : ∀ L, eval (.Call (.Attribute (.Call (.Name "super" p0) [] [] p1) "__init__" p2) [arg] [] p3) (PySem.W.ksEnv q scope L fI (.ref cda) cc) = (do
      let ov ← attributeBase (.Call (.Name "super" p0) [] [] p1) "__init__" (PySem.W.ksEnv q scope L fI (.ref cda) cc) (eval (.Call (.Name "super" p0) [] [] p1) (PySem.W.ksEnv q scope L fI (.ref cda) cc))
      standAt p2.atName
      let (f, first) ← holding [ov] (getMethod ov "__init__" pl)
      callWith p3 f first (backTo p3 (starEach [arg] (PySem.W.ksEnv q scope L fI (.ref cda) cc))) [])) : FnOk P w K mg base CX (k + 1) fI fd ps sp := by
  refine ⟨len, fun A outer s H args us vs Q E hr e0 hb r hsp => ?_⟩
  have hl := len _ _ _ _ hsp
  obtain ⟨t, t2, a, vr, ha, hr2, evs, he, hq⟩ := body A outer s H vs Q E (hr.deeper _) hsp
  have KX : K.In s.heap := e0.mod.kin.keeps fun b o e => (e0.bs b o e).1
  have lim : s.heap.NoLimit := e0.mod.nolimit.keeps fun b o e => (e0.bs b o e).1
  obtain ⟨u0, hu0, ru0⟩ := r.get (i := 0) (x := V.ref a) (by rw [evs]; rfl)
  obtain rfl : u0 = Value.ref a := ru0
  obtain ⟨oc, od, kV, doc, pm, an, ct, osl, efd, hf⟩ := id S.fn
  refine ks_codeAny_call_defAt (fd := fd) (body := .Expr (.Call (.Attribute (.Call (.Name "super" p0) [] [] p1) "__init__" p2) [arg] [] p3) p4 :: rest) (binds := ps.zip us) hr.depth (KX _ _ hf) rfl lim
    (by rw [efd]; exact PySem.W.codeRec_of KX S.cod) (by rw [efd]) hb (by rw [efd]; exact Z.nocell) (by rw [efd]; exact fun y hy => Z.par _ (List.of_mem_zip (show (y.1, y.2) ∈ ps.zip us from hy)).1) (fun h0 hns hk => ?_) (by rw [efd]; exact Z.co) (by rw [efd]; exact Z.gen) (by rw [efd]; exact Z.kind)
  have I : Inv (cxSup CX P w K mg base ps q scope fI cda cc A outer s H E) [] (start ps vs) H { s with heap := h0, toks := s.toks + (ps.zip us).length } := sup_start S Z hr.hd e0 hl r hns hk
  have ee : callEnv fd s.heap.objs.size fI = PySem.W.ksEnv q scope s.heap.objs.size fI (.ref cda) cc := by rw [efd]; rfl
  rw [ee]
  refine ks_wpAt_execs_cons (ks_wpAt_mono (sup_first S Z hp (List.mem_of_getElem? hps) I hns (look_rev ps us 0 _ _ Z.nd hps hu0) he ha hq (hs _) (hi _) (hsw _) (hev _)) (fun f s1 h1 => ?_) fun e s1 h1 => h1)
  obtain ⟨rfl, H1, I1, e1, q1⟩ := h1
  refine wpAt_of_wpAny (wpAny_mono (hr2.run [] s1 (start ps vs) H1 _ I1 q1) (fun fl s2 h2 => ?_) fun e s2 h2 => h2)
  cases fl with
  | ret u =>
    obtain ⟨v, σ', H', J, rv, z⟩ := h2
    exact ⟨v, H', J.os, J.bare, J.base, J.hok, rv, z⟩
  | next =>
    obtain ⟨σ', H', J, z⟩ := h2
    exact ⟨V.non, H', J.os, J.bare, J.base, J.hok, rfl, z⟩
  | brk => obtain ⟨_, _, _, z⟩ := h2; exact z.elim
  | cont => obtain ⟨_, _, _, z⟩ := h2; exact z.elim
end
end SxK

set_option Elab.async false
set_option linter.all false
set_option maxRecDepth 100000
set_option maxHeartbeats 2000000
namespace SxK
open PySem PySem.Spec PyProof.Rows L2
/-! ### facts of own exceptions, read at the head -/
def oexB (K : PySem.W.Frag) (C : Addr) : Bool := match K.lookup C with
  | some ⟨.type "type", _, .cls cd, sl⟩ => (match cd.mro, sl.toList with
    | .ref C' :: bm, [_, _, _, _, some (.builtin n), _] => decide (C' = C) && (decide (n = "ValueError.__new__") && (!cd.hasDel && (cd.hasDict && PySem.HandSPX.refsVE bm)))
    | _, _ => false)
  | _ => false
theorem oexB_ok {K : PySem.W.Frag} {C : Addr} (h : oexB K C = true) :
    ∃ nm q N bs bm sn sub ab col dd k0 k1 k2 k3 k5, K.lookup C = some (excClassObj nm q C N bs bm true sn sub ab col dd k0 k1 k2 k3 k5 "ValueError.__new__") ∧ PySem.HandSPX.refsVE bm = true := by
  unfold oexB at h
  split at h
  · rename_i dd cd sl ho
    split at h
    · rename_i C' bm k0 k1 k2 k3 n k5 hm hs
      obtain ⟨nm, bs, mro, ns, qn, hd, sn, sb, ab, col, del⟩ := cd
      obtain ⟨l⟩ := sl
      have hs' : l = [k0, k1, k2, k3, some (.builtin n), k5] := hs
      have hm' : mro = .ref C' :: bm := hm
      subst hs' hm'
      obtain ⟨h1, h⟩ := Bool.and_eq_true_iff.mp h
      obtain ⟨h2, h⟩ := Bool.and_eq_true_iff.mp h
      obtain ⟨h3, h⟩ := Bool.and_eq_true_iff.mp h
      obtain ⟨h4, h5⟩ := Bool.and_eq_true_iff.mp h
      have h1' := of_decide_eq_true h1
      have h2' := of_decide_eq_true h2
      have h3' : del = false := by simpa using h3
      have h4' : hd = true := h4
      subst h1' h2' h3' h4'
      exact ⟨_, _, _, _, _, _, _, _, _, _, _, _, _, _, _, ho, h5⟩
    · cases h
  · cases h
abbrev FnS : Type := Option (Str × Str × Arguments × FuncBody × Scope × Addr × Addr)
/-- one such class: its name, its __init__ -/
structure SupD where
  cls : Str
  qual : Str
  params : Arguments
  body : List Stmt
  scope : Scope
  file : Str
  ats : List Str
def SupD.I (K : PySem.W.Frag) (d : SupD) : Addr := He.ma K (He.ga K d.cls) "__init__"
def SupD.obs (K : PySem.W.Frag) (d : SupD) : FnS := match K.lookup (d.I K) with
  | some ⟨_, _, .func fd, _⟩ => some (fd.name, fd.qualname, fd.params, fd.body, fd.scope, fd.globals, fd.builtins)
  | _ => none
def SupD.val (d : SupD) : FnS := some ("__init__", d.qual, d.params, .stmts d.body, d.scope, mainGlobals, builtinsNs)
def SupD.fnB (K : PySem.W.Frag) (d : SupD) : Bool := match K.lookup (d.I K) with
  | some ⟨_, _, .func fd, _⟩ => (match fd.defaults, fd.code, fd.closure with
    | .none, .ref cda, [(n, cc)] => decide (n = "__class__") && (PySem.W.codeIn K (.ref cda) d.qual && ((match K.lookup cda with
        | some ⟨_, _, .fields vs, _⟩ => (match vs[2]? with
          | some (Value.str f _) => decide (f = d.file)
          | _ => false)
        | _ => false) && (match K.lookup cc with
        | some ⟨_, _, .cell (some (.ref D)), _⟩ => decide (D = He.ga K d.cls)
        | _ => false)))
    | _, _, _ => false)
  | _ => false
def SupD.ok (K : PySem.W.Frag) (d : SupD) : Bool :=
  oexB K (He.ga K d.cls) && (xfB K (He.ga K d.cls) && (d.fnB K && (He.eqO (PySem.W.findIn K (.ref (He.ga K d.cls)) "__setattr__") (some (some (.builtin "object.__setattr__"))) && (
  decide (PySem.W.subIn K (.ref (He.ga K d.cls)) (.type "BaseException") = some true) && (decide (PySem.W.typeIn K (.ref (He.ga K d.cls)) = some (.type "type")) && (PySem.W.keepIn K (.ref (He.ga K d.cls)) && (
  He.eqO (PySem.W.nsIn K cStatics "thirdparty.any") (some none) && (He.eqO (PySem.W.ks_superIn K (He.ga K d.cls) (He.ga K d.cls) "__init__") (some (some (.builtin "ValueError.__init__"))) && (
  decide (PySem.W.mroIn K (He.ga K d.cls) (.ref (He.ga K d.cls)) = some true) && (decide (PySem.W.subIn K (.ref (He.ga K d.cls)) (.type "ValueError") = some true) && (He.eqO (PySem.W.nsIn K mainGlobals "super") (some none) && (
  He.eqO (PySem.W.findIn K (.ref (He.ga K d.cls)) "__init__") (some (some (.ref (d.I K)))) && (decide (PySem.W.typeIn K (.ref (d.I K)) = some (.type "function")) && (He.eqO (PySem.W.nsIn K mainGlobals d.cls) (some (some (.ref (He.ga K d.cls)))) && (
  decide (PySem.W.exmOne K (.ref (He.ga K d.cls)) (.ref (He.ga K d.cls)) = some true) &&
  d.ats.all fun f => He.eqO (PySem.W.findIn K (.ref (He.ga K d.cls)) f) (some none))))))))))))))))
/-- what is known of such a class -/
structure ErrC (P : Program) (K : PySem.W.Frag) (mg : Str → Option Value) (d : SupD) : Prop where
  sup : ∃ cc cda fd, SupC P K mg (He.ga K d.cls) (d.I K) cc cda "__init__" d.qual d.params d.body d.scope fd
  xf : XfC K (He.ga K d.cls)
  glob : mg d.cls = some (.ref (He.ga K d.cls))
  exm : PySem.W.exmOne K (.ref (He.ga K d.cls)) (.ref (He.ga K d.cls)) = some true
  ats : ∀ f ∈ d.ats, PySem.W.findIn K (.ref (He.ga K d.cls)) f = some none
theorem SupD.err {P : Program} {K : PySem.W.Frag} {mg : Str → Option Value} {d : SupD} {h : Heap} (X : K.In h) (G : h.Ns mainGlobals mg) (e : d.obs K = d.val) (c : d.ok K = true) (hfile : P.main.file = d.file)
    (htop : (P.main.scope.names.lookup ("super" : Str)).isSome = false) : ErrC P K mg d := by
  unfold SupD.ok at c
  obtain ⟨c1, c⟩ := He.ba c
  obtain ⟨c2, c⟩ := He.ba c
  obtain ⟨c3, c⟩ := He.ba c
  obtain ⟨c4, c⟩ := He.ba c
  obtain ⟨c5, c⟩ := He.ba c
  obtain ⟨c6, c⟩ := He.ba c
  obtain ⟨c7, c⟩ := He.ba c
  obtain ⟨c8, c⟩ := He.ba c
  obtain ⟨c9, c⟩ := He.ba c
  obtain ⟨c10, c⟩ := He.ba c
  obtain ⟨c11, c⟩ := He.ba c
  obtain ⟨c12, c⟩ := He.ba c
  obtain ⟨c13, c⟩ := He.ba c
  obtain ⟨c14, c⟩ := He.ba c
  obtain ⟨c15, c⟩ := He.ba c
  obtain ⟨c16, c17⟩ := He.ba c
  refine ⟨?_, xfB_ok c2, PySem.W.mg_of X G (He.eqO_ok c15), of_decide_eq_true c16, fun f hf => He.eqO_ok (List.all_eq_true.mp c17 f hf)⟩
  have ex : OexC K (He.ga K d.cls) := ⟨oexB_ok c1, He.eqO_ok c4, of_decide_eq_true c5, of_decide_eq_true c6, c7⟩
  unfold SupD.fnB at c3
  unfold SupD.obs at e
  split at c3
  · rename_i o1 o2 fd o3 ho
    rw [ho] at e
    split at c3
    · rename_i cda n cc e1 e2 e3
      obtain ⟨d1, c3⟩ := He.ba c3
      obtain ⟨d2, c3⟩ := He.ba c3
      obtain ⟨d3, d4⟩ := He.ba c3
      obtain ⟨n1, n2, n3, n4, n5, n6, n7, n8, n9, n10, n11, n12, n13, n14, n15⟩ := fd
      have e4 : (some (n1, n2, n3, n4, n5, n6, n15) : FnS) = (some ("__init__", d.qual, d.params, .stmts d.body, d.scope, mainGlobals, builtinsNs) : FnS) := e
      simp only [Option.some.injEq, Prod.mk.injEq] at e4
      obtain ⟨h1, h2, h3, h4, h5, h6, h7⟩ := e4
      have e1' : n8 = .none := e1
      have e2' : n13 = .ref cda := e2
      have e3' : n7 = [(n, cc)] := e3
      have d1' := of_decide_eq_true d1
      subst h1 h2 h3 h4 h5 h6 h7 e1' e2' e3' d1'
      refine ⟨cc, cda, _, ex, ⟨_, _, _, _, _, _, _, _, rfl, ho⟩, d2, ?_, ?_, He.eqO_ok c8, He.eqO_ok c9, of_decide_eq_true c10, of_decide_eq_true c11, PySem.W.mg_none_of X G (He.eqO_ok c12), htop, He.eqO_ok c13, of_decide_eq_true c14⟩
      · split at d3
        · rename_i a1 a2 vs a3 ha
          split at d3
          · rename_i f t hv
            exact ⟨_, _, _, _, t, f, ha, hv, by rw [hfile, of_decide_eq_true d3]; simp⟩
          · cases d3
        · cases d3
      · split at d4
        · rename_i a1 a2 D a3 ha
          have eD := of_decide_eq_true d4
          subst eD
          exact ⟨_, _, _, ha⟩
        · cases d4
    · cases c3
  · cases c3
/-! ### the Hook with such classes -/
abbrev AlX : Type := He.AlD × (Bool × List FnS)
def obsX (fa : List He.Fa) (fn : List He.DefD) (xs : List SupD) (K : PySem.W.Frag) : AlX := (He.obsD fa fn K, xs.all fun d => d.ok K, xs.map fun d => d.obs K)
def valX (fn : List He.DefD) (xs : List SupD) : AlX := (He.valD fn, true, xs.map SupD.val)
def SaysX (fa : List He.Fa) (fn : List He.DefD) (xs : List SupD) (K : PySem.W.Frag) : Prop := obsX fa fn xs K = valX fn xs
def obsXG (n : Nat) (fa : List He.Fa) (fn : List He.DefD) (xs : List SupD) (g : Addr → Option Obj) : AlX := obsX fa fn xs (He.frG g (He.asD g n ++ [cStatics]))
def hookX (n : Nat) (fa : List He.Fa) (fn : List He.DefD) (xs : List SupD) : PySem.W.Hook where
  α := AlX
  obs := fun s => obsXG n fa fn xs s.heap.get?
  val := fun _ => valX fn xs
  says := fun _ h => ∃ K : PySem.W.Frag, K.In h ∧ SaysX fa fn xs K
  of := fun _ _ e => ⟨_, He.frG_in, e⟩
  keeps := fun _ _ _ ⟨K, hK, c⟩ k => ⟨K, PySem.W.Frag.In.keeps hK k, c⟩
theorem obsXG_eq {n : Nat} {fa : List He.Fa} {fn : List He.DefD} {xs : List SupD} {g : Addr → Option Obj} {s : Shared} (h : ∀ a, g a = s.heap.get? a) : obsXG n fa fn xs g = (hookX n fa fn xs).obs s := by
  have e : g = s.heap.get? := funext h
  rw [e] <;> rfl
section
variable {fa : List He.Fa} {fn : List He.DefD} {xs : List SupD} {K : PySem.W.Frag}
theorem SaysX.d (c : SaysX fa fn xs K) : He.SaysD fa fn K := congrArg (fun z : AlX => z.1) c
theorem SaysX.sup (c : SaysX fa fn xs K) (i : Nat) {d : SupD} (h : xs[i]? = some d := by rfl) : d.obs K = d.val ∧ d.ok K = true := by
  have c1 : (xs.all fun d => d.ok K) = true := congrArg (fun z : AlX => z.2.1) c
  have c2 : xs.map (fun d => d.obs K) = xs.map SupD.val := congrArg (fun z : AlX => z.2.2) c
  have e2 : (xs.map fun d => d.obs K)[i]? = (xs.map SupD.val)[i]? := by rw [c2]
  rw [List.getElem?_map, List.getElem?_map, h] at e2
  exact ⟨Option.some.inj e2, List.all_eq_true.mp c1 d (List.mem_of_getElem? h)⟩
end
end SxK

set_option Elab.async false
set_option linter.all false
set_option maxRecDepth 100000
set_option maxHeartbeats 2000000
/-! sep.join(reversed(x)), x a list of texts -/
namespace SxA
open PySem PySem.Spec PyProof.Rows L2
section
variable {prog : Program} {w : World} {A : Around} {E : Value → Shared → Prop} {s : Shared}
theorem call_join_rev {it l : Addr} {items : Array Value} {x : Str} {t : Tok} {ys : List Str} {Q : Value → Shared → Prop} (hh : A.handled = none) (hit : s.heap.IsRevIter it l ((items.size : Int) - 1)) (hl : s.heap.IsList l items) (hne : l ≠ it) (hn : items.size ≤ sizeLine)
    (hs : ∀ acc : Array Value, ItemsOf (fun i v => items[items.size - 1 - i]? = some v) acc items.size → StrsAre acc.toList ys) (hok : (ys.map (·.length)).sum + ys.length * x.length ≤ 16777216)
    (hQ : ∀ (h' : Heap) (tk : Nat) (u : Tok), (∀ b o, b ≠ it → s.heap.get? b = some o → h'.get? b = some o) → Q (.str (Txt.join x ys) u) { s with heap := h', toks := tk }) :
    wpAny (model prog w) A (call (.builtin "str.join") [.str x t, .ref it]) Q E s := by
  have hT : s.TypeIs (.ref it) "list_reverseiterator" := hit.typeIs
  have hh1 : A.in1.in1.handled = none := hh
  refine wpAny_call (codeAny_call_builtin F.slot_str_join.plain F.entry_str_join (F.slot_str_join.check _ _ _ _ _ _ _ _ (typeIs_str _ _ _) (F.args_str_join_2 _ _) ?_))
  rw [join_tree_other]
  refine wpAny_bind (wpAny_typeOf hT ?_)
  show wpAny _ A.in1 ((pyIter (.ref it)).tryCatch _ >>= fun i2 => collect i2 >>= fun found => joinTail x found) _ _ s
  refine wpAny_bind (wpAny_tryCatch (wpAny_pyIter_revIter hit ?_))
  refine wpAny_bind (RT.collect_rev (A := A.in1) hh hit hl hne hn fun h' tk acc hk hacc => ?_)
  obtain ⟨lv, e1, e2⟩ := strsAre_values (hs acc hacc)
  rw [e1]
  have j1 : JoinOk x (lv.map (·.1)) = true := by rw [e2]; exact joinOk_of hok
  have j2 := j1
  unfold JoinOk at j2
  rw [Bool.not_eq_true'] at j2
  have g : Gives (joinTail x (strValues lv)) (joinMade x lv) := by
    have g1 := gives_joinTail x lv j2
    cases lv with
    | nil => exact g1
    | cons p r => cases r with
      | nil => exact g1
      | cons p2 r2 => exact g1
  exact g prog w A (wants Q E) _ (post_join lv ⟨joinFit_length j2, fun u k => by rw [e2]; exact hQ h' k u hk⟩)
end
def tJoinRev (K : PySem.W.Frag) (to te : TE) : TE := fun σ H Q => to σ H fun x H1 => (∃ a, x = .str a) ∧ te σ H1 fun v H2 => ∃ (a : Str) (l : Addr) (ys : List Str), x = .str a ∧ v = .ref l ∧ SqL K H2 l (ys.map V.str) ∧ (ys.map (·.length)).sum + ys.length * a.length ≤ 16777216 ∧ Q (.str (Txt.join a ys.reverse)) H2
theorem pe_joinRev {X : Cx} {o e : Expr} {to te : TE} {apos pos p2 pos2 : Pos} (hg2 : Gl X "reversed") (hm2 : X.mg "reversed" = none) (ho : PE X o to) (he : PE X e te) (hc : X.calm = true := by rfl)
    (hs : starEach [.Call (.Name "reversed" p2) [e] [] pos2] X.env = [(false, eval (.Call (.Name "reversed" p2) [e] [] pos2) X.env)] := by rfl)
    (hs2 : starEach [e] X.env = (false, eval e X.env) :: starEach [] X.env := by rfl)
    (hbase : attributeBase o "join" X.env (eval o X.env) = eval o X.env := by rfl) (hline : (apos.endLine == pos.line) = true := by rfl) :
    PE X (.Call (.Attribute o "join" apos) [.Call (.Name "reversed" p2) [e] [] pos2] [] pos) (tJoinRev X.K to te) := by
  refine ⟨fun pins s σ H Q I h => ?_⟩
  refine PySem.Call_method1 hbase hs hline (thn (ho.run pins s σ H _ I h) fun v s1 ⟨x, H1, I1, r1, q1⟩ => ?_)
  obtain ⟨⟨a, rfl⟩, q1⟩ := q1
  obtain ⟨t, rfl⟩ := _root_.id r1
  refine ⟨"str", _, F.plainAttrs_str, F.slot_str_join, F.type_str_join, typeIs_str _ _ _, (fun _ e => nomatch e), Calls.callWith_builtin rfl (Calls.evalArgs_plain (Calls.spliced_cons ?_))⟩
  refine Call_ (ld_blt I1 hg2 hm2 PyProof.Rows.boot_reversed (PyProof.Rows.callWith_type1 (args_cons (thn (he.run pins s1 σ H1 _ I1 q1) fun u s2 ⟨y, H2, I2, r2, q2⟩ => args_nil ?_) hs2) hs2 rfl))
  obtain ⟨a', l, ys, ex, rfl, hq, hz, q⟩ := q2
  cases ex
  obtain rfl : u = Value.ref l := r2
  obtain ⟨its, rv, p', hlen⟩ := I2.list hq
  refine call_reversed_list p'.isList (Calls.spliced_nil ?_)
  have k0 : ∀ b o, s2.heap.get? b = some o → (s2.heap.push (revObj l ((its.toArray.size : Int) - 1))).get? b = some o := fun b o e => Heap.get?_push_of_some _ e
  have I3 : Inv X pins σ H2 { s2 with heap := s2.heap.push (revObj l ((its.toArray.size : Int) - 1)) } := I2.kept (t' := s2.toks) k0
  obtain ⟨f0, f1, f2, f3, f4, f5⟩ := I2.fpOk (H' := H2) (b := s2.heap.objs.size) (Nat.le_refl _) (I2.hok.fresh (Nat.le_refl _))
  have hl := p'.isList
  obtain ⟨ol, hol, _⟩ := id hl
  have hne : l ≠ s2.heap.objs.size := Nat.ne_of_lt (Heap.lt_size hol)
  have hn : its.toArray.size ≤ sizeLine := by rw [List.size_toArray, ← rv.length]; exact hlen
  refine call_join_rev (ys := ys.reverse) (s := { s2 with heap := s2.heap.push (revObj l ((its.toArray.size : Int) - 1)) }) (I2.ok.hd hc) ⟨_, Heap.get?_push_size _ rfl, rfl, rfl⟩ (hl.push _) hne hn (fun acc ha => ?_) (by rw [List.map_reverse, List.sum_reverse, List.length_reverse]; exact hz) fun h' tk u hk => ?_
  · have r2 := RT.vals_rev rv ha
    rw [← List.map_reverse] at r2
    exact strs_of_vals r2
  · have I4 : Inv X pins σ H2 { s2 with heap := h', toks := tk } := I3.turned (t' := tk) (fun b o hb e => hk b o hb e) f0 f1 f3 f4 f5
    exact ⟨.str _, H2, I4, ⟨u, rfl⟩, q⟩
end SxA

set_option Elab.async false
set_option linter.all false
set_option maxRecDepth 100000
set_option maxHeartbeats 0
namespace Sx
open PySem PySem.Spec PyProof.Rows L2
/-! ### the text by places -/
def top (i : Nat) : Stmt := PySem.Challenge.pw_sixdot_k01_pieces_of_a_line.main.body.getD i (.Pass ⟨0, 0, 0, 0⟩)
abbrev sTextErrorInit : Stmt := inClass (top 8) 0
abbrev sIsSign : Stmt := top 1
abbrev sNumberWord : Stmt := top 5
abbrev sCheckSigns : Stmt := top 12
abbrev sPieces : Stmt := top 13
abbrev sEndOfPlain : Stmt := top 14
abbrev sQuotedFrom : Stmt := top 15
abbrev sLawState : Stmt := top 17
abbrev sLawDraw : Stmt := top 18
abbrev sLawQuoted : Stmt := top 19
abbrev sLawCell : Stmt := top 20
abbrev sLawLines : Stmt := top 21
abbrev sLawPiece : Stmt := top 22
abbrev sLawTold : Stmt := top 23
abbrev sLaw : Stmt := top 24
/-! ### the head: facts by names, the run -/
def dIsSign : He.DefD := ⟨("is_sign", none), "is_sign", "is_sign", defArgs sIsSign, defBody sIsSign, defScope sIsSign, [], []⟩
def dNumberWord : He.DefD := ⟨("number_word", none), "number_word", "number_word", defArgs sNumberWord, defBody sNumberWord, defScope sNumberWord, [], []⟩
def dCheckSigns : He.DefD := ⟨("check_signs", none), "check_signs", "check_signs", defArgs sCheckSigns, defBody sCheckSigns, defScope sCheckSigns, [], []⟩
def dPieces : He.DefD := ⟨("pieces", none), "pieces", "pieces", defArgs sPieces, defBody sPieces, defScope sPieces, [], []⟩
def dEndOfPlain : He.DefD := ⟨("end_of_plain", none), "end_of_plain", "end_of_plain", defArgs sEndOfPlain, defBody sEndOfPlain, defScope sEndOfPlain, [], []⟩
def dQuotedFrom : He.DefD := ⟨("quoted_from", none), "quoted_from", "quoted_from", defArgs sQuotedFrom, defBody sQuotedFrom, defScope sQuotedFrom, [], []⟩
def dLawState : He.DefD := ⟨("_law_state", none), "_law_state", "_law_state", defArgs sLawState, defBody sLawState, defScope sLawState, [], []⟩
def dLawDraw : He.DefD := ⟨("_law_draw", none), "_law_draw", "_law_draw", defArgs sLawDraw, defBody sLawDraw, defScope sLawDraw, [], []⟩
def dLawQuoted : He.DefD := ⟨("_law_quoted", none), "_law_quoted", "_law_quoted", defArgs sLawQuoted, defBody sLawQuoted, defScope sLawQuoted, [], []⟩
def dLawCell : He.DefD := ⟨("_law_cell", none), "_law_cell", "_law_cell", defArgs sLawCell, defBody sLawCell, defScope sLawCell, [], []⟩
def dLawLines : He.DefD := ⟨("_law_lines", none), "_law_lines", "_law_lines", defArgs sLawLines, defBody sLawLines, defScope sLawLines, [], []⟩
def dLawPiece : He.DefD := ⟨("_law_piece", none), "_law_piece", "_law_piece", defArgs sLawPiece, defBody sLawPiece, defScope sLawPiece, [], []⟩
def dLawTold : He.DefD := ⟨("_law_told", none), "_law_told", "_law_told", defArgs sLawTold, defBody sLawTold, defScope sLawTold, [], []⟩
def dLaw : He.DefD := ⟨("law", none), "law", "law", defArgs sLaw, defBody sLaw, defScope sLaw, [], []⟩
def xTextError : SxK.SupD := ⟨"TextError", "TextError.__init__", defArgs sTextErrorInit, defBody sTextErrorInit, defScope sTextErrorInit, "/claim/cut.py", ["line", "column", "reason"]⟩
def xs : List SxK.SupD := [xTextError]
def fn : List He.DefD := [dIsSign, dNumberWord, dCheckSigns, dPieces, dEndOfPlain, dQuotedFrom, dLawState, dLawDraw, dLawQuoted, dLawCell, dLawLines, dLawPiece, dLawTold, dLaw]
def fa : List He.Fa := [.glo "is_sign", .glo "number_word", .glo "check_signs", .glo "pieces", .glo "end_of_plain", .glo "quoted_from", .glo "_law_state", .glo "_law_draw", .glo "_law_quoted", .glo "_law_cell", .glo "_law_lines", .glo "_law_piece", .glo "_law_told", .glo "law", .free "abs", .free "divmod", .free "enumerate", .free "int", .free "len", .free "list", .free "range", .free "reversed", .free "str", .free "super", .int "PART_DIGITS" 64, .int "PART" 10000000000000000000000000000000000000000000000000000000000000000, .str "QUOTE" "\"", .str "BACKSLASH" "\\", .glo "SixdotError", .glo "TextError"]
def loose0 : List Str := ["is_sign", "PART_DIGITS", "PART", "number_word", "SixdotError", "TextError", "QUOTE", "BACKSLASH", "check_signs", "pieces", "end_of_plain", "quoted_from", "_law_state", "_law_draw", "_law_quoted", "_law_cell", "_law_lines", "_law_piece", "_law_told"]
abbrev loose : List Str := loose0
abbrev R : PySem.W.OpenRow := PySem.W.OpenLaw.row PySem.Challenge.rw_sixdot_k01_pieces_of_a_line
abbrev hk : PySem.W.Hook := SxK.hookX 5 fa fn xs
def ob (s : PySem.W.SharedT) : SxK.AlX := SxK.obsXG 5 fa fn xs (HandSHeadRun.getT s)
theorem ob_eq (s : PySem.W.SharedT) : ob s = hk.obs s.abs := SxK.obsXG_eq (HandSHeadRun.getT_eq s)
theorem run (w : World) : HandSHeadRun.RunEq R (PySem.W.view R.prog [24]) hk ob 4000 loose w := by
  intro os
  kernel_rfl
end Sx

set_option Elab.async false
set_option linter.all false
set_option maxRecDepth 100000
set_option maxHeartbeats 4000000
namespace Sx
open PySem PySem.Spec PyProof.Rows L2
/-- what stands behind the top -/
structure T (K : PySem.W.Frag) (mg : Str → Option Value) : Prop where
  c : SxK.SaysX fa fn xs K
  g : ∃ h : Heap, K.In h ∧ h.Ns mainGlobals mg
section
variable {K : PySem.W.Frag} {mg : Str → Option Value}
/-- a def of the top -/
abbrev Fd (K : PySem.W.Frag) (x : Str) (st : Stmt) : Prop := ∃ fd, FunD K x x (defArgs st) (defBody st) (defScope st) [] [] (He.ga K x) fd
theorem T.g_is_sign (t : T K mg) : mg "is_sign" = some (.ref (He.ga K "is_sign")) := by
  obtain ⟨h, X, G⟩ := t.g
  exact He.glo_ok X G (t.c.d.fact 0 (f := .glo "is_sign") rfl)
theorem T.g_number_word (t : T K mg) : mg "number_word" = some (.ref (He.ga K "number_word")) := by
  obtain ⟨h, X, G⟩ := t.g
  exact He.glo_ok X G (t.c.d.fact 1 (f := .glo "number_word") rfl)
theorem T.g_check_signs (t : T K mg) : mg "check_signs" = some (.ref (He.ga K "check_signs")) := by
  obtain ⟨h, X, G⟩ := t.g
  exact He.glo_ok X G (t.c.d.fact 2 (f := .glo "check_signs") rfl)
theorem T.g_pieces (t : T K mg) : mg "pieces" = some (.ref (He.ga K "pieces")) := by
  obtain ⟨h, X, G⟩ := t.g
  exact He.glo_ok X G (t.c.d.fact 3 (f := .glo "pieces") rfl)
theorem T.g_end_of_plain (t : T K mg) : mg "end_of_plain" = some (.ref (He.ga K "end_of_plain")) := by
  obtain ⟨h, X, G⟩ := t.g
  exact He.glo_ok X G (t.c.d.fact 4 (f := .glo "end_of_plain") rfl)
theorem T.g_quoted_from (t : T K mg) : mg "quoted_from" = some (.ref (He.ga K "quoted_from")) := by
  obtain ⟨h, X, G⟩ := t.g
  exact He.glo_ok X G (t.c.d.fact 5 (f := .glo "quoted_from") rfl)
theorem T.g_law_state (t : T K mg) : mg "_law_state" = some (.ref (He.ga K "_law_state")) := by
  obtain ⟨h, X, G⟩ := t.g
  exact He.glo_ok X G (t.c.d.fact 6 (f := .glo "_law_state") rfl)
theorem T.g_law_draw (t : T K mg) : mg "_law_draw" = some (.ref (He.ga K "_law_draw")) := by
  obtain ⟨h, X, G⟩ := t.g
  exact He.glo_ok X G (t.c.d.fact 7 (f := .glo "_law_draw") rfl)
theorem T.g_law_quoted (t : T K mg) : mg "_law_quoted" = some (.ref (He.ga K "_law_quoted")) := by
  obtain ⟨h, X, G⟩ := t.g
  exact He.glo_ok X G (t.c.d.fact 8 (f := .glo "_law_quoted") rfl)
theorem T.g_law_cell (t : T K mg) : mg "_law_cell" = some (.ref (He.ga K "_law_cell")) := by
  obtain ⟨h, X, G⟩ := t.g
  exact He.glo_ok X G (t.c.d.fact 9 (f := .glo "_law_cell") rfl)
theorem T.g_law_lines (t : T K mg) : mg "_law_lines" = some (.ref (He.ga K "_law_lines")) := by
  obtain ⟨h, X, G⟩ := t.g
  exact He.glo_ok X G (t.c.d.fact 10 (f := .glo "_law_lines") rfl)
theorem T.g_law_piece (t : T K mg) : mg "_law_piece" = some (.ref (He.ga K "_law_piece")) := by
  obtain ⟨h, X, G⟩ := t.g
  exact He.glo_ok X G (t.c.d.fact 11 (f := .glo "_law_piece") rfl)
theorem T.g_law_told (t : T K mg) : mg "_law_told" = some (.ref (He.ga K "_law_told")) := by
  obtain ⟨h, X, G⟩ := t.g
  exact He.glo_ok X G (t.c.d.fact 12 (f := .glo "_law_told") rfl)
theorem T.g_law (t : T K mg) : mg "law" = some (.ref (He.ga K "law")) := by
  obtain ⟨h, X, G⟩ := t.g
  exact He.glo_ok X G (t.c.d.fact 13 (f := .glo "law") rfl)
theorem T.f_abs (t : T K mg) : mg "abs" = none := by
  obtain ⟨h, X, G⟩ := t.g
  exact He.free_ok X G (t.c.d.fact 14 (f := .free "abs") rfl)
theorem T.f_divmod (t : T K mg) : mg "divmod" = none := by
  obtain ⟨h, X, G⟩ := t.g
  exact He.free_ok X G (t.c.d.fact 15 (f := .free "divmod") rfl)
theorem T.f_enumerate (t : T K mg) : mg "enumerate" = none := by
  obtain ⟨h, X, G⟩ := t.g
  exact He.free_ok X G (t.c.d.fact 16 (f := .free "enumerate") rfl)
theorem T.f_int (t : T K mg) : mg "int" = none := by
  obtain ⟨h, X, G⟩ := t.g
  exact He.free_ok X G (t.c.d.fact 17 (f := .free "int") rfl)
theorem T.f_len (t : T K mg) : mg "len" = none := by
  obtain ⟨h, X, G⟩ := t.g
  exact He.free_ok X G (t.c.d.fact 18 (f := .free "len") rfl)
theorem T.f_list (t : T K mg) : mg "list" = none := by
  obtain ⟨h, X, G⟩ := t.g
  exact He.free_ok X G (t.c.d.fact 19 (f := .free "list") rfl)
theorem T.f_range (t : T K mg) : mg "range" = none := by
  obtain ⟨h, X, G⟩ := t.g
  exact He.free_ok X G (t.c.d.fact 20 (f := .free "range") rfl)
theorem T.f_reversed (t : T K mg) : mg "reversed" = none := by
  obtain ⟨h, X, G⟩ := t.g
  exact He.free_ok X G (t.c.d.fact 21 (f := .free "reversed") rfl)
theorem T.f_str (t : T K mg) : mg "str" = none := by
  obtain ⟨h, X, G⟩ := t.g
  exact He.free_ok X G (t.c.d.fact 22 (f := .free "str") rfl)
theorem T.f_super (t : T K mg) : mg "super" = none := by
  obtain ⟨h, X, G⟩ := t.g
  exact He.free_ok X G (t.c.d.fact 23 (f := .free "super") rfl)
theorem T.i_PART_DIGITS (t : T K mg) : ∃ k, mg "PART_DIGITS" = some (.int 64 k) := by
  obtain ⟨h, X, G⟩ := t.g
  exact He.int_ok X G (t.c.d.fact 24 (f := .int "PART_DIGITS" 64) rfl)
theorem T.i_PART (t : T K mg) : ∃ k, mg "PART" = some (.int 10000000000000000000000000000000000000000000000000000000000000000 k) := by
  obtain ⟨h, X, G⟩ := t.g
  exact He.int_ok X G (t.c.d.fact 25 (f := .int "PART" 10000000000000000000000000000000000000000000000000000000000000000) rfl)
theorem T.s_QUOTE (t : T K mg) : ∃ k, mg "QUOTE" = some (.str "\"" k) := by
  obtain ⟨h, X, G⟩ := t.g
  exact He.str_ok X G (t.c.d.fact 26 (f := .str "QUOTE" "\"") rfl)
theorem T.s_BACKSLASH (t : T K mg) : ∃ k, mg "BACKSLASH" = some (.str "\\" k) := by
  obtain ⟨h, X, G⟩ := t.g
  exact He.str_ok X G (t.c.d.fact 27 (f := .str "BACKSLASH" "\\") rfl)
theorem T.g_SixdotError (t : T K mg) : mg "SixdotError" = some (.ref (He.ga K "SixdotError")) := by
  obtain ⟨h, X, G⟩ := t.g
  exact He.glo_ok X G (t.c.d.fact 28 (f := .glo "SixdotError") rfl)
theorem T.g_TextError (t : T K mg) : mg "TextError" = some (.ref (He.ga K "TextError")) := by
  obtain ⟨h, X, G⟩ := t.g
  exact He.glo_ok X G (t.c.d.fact 29 (f := .glo "TextError") rfl)
theorem T.d_is_sign (t : T K mg) : Fd K "is_sign" sIsSign := t.c.d.def_ 0 (d := dIsSign) rfl
theorem T.d_number_word (t : T K mg) : Fd K "number_word" sNumberWord := t.c.d.def_ 1 (d := dNumberWord) rfl
theorem T.d_check_signs (t : T K mg) : Fd K "check_signs" sCheckSigns := t.c.d.def_ 2 (d := dCheckSigns) rfl
theorem T.d_pieces (t : T K mg) : Fd K "pieces" sPieces := t.c.d.def_ 3 (d := dPieces) rfl
theorem T.d_end_of_plain (t : T K mg) : Fd K "end_of_plain" sEndOfPlain := t.c.d.def_ 4 (d := dEndOfPlain) rfl
theorem T.d_quoted_from (t : T K mg) : Fd K "quoted_from" sQuotedFrom := t.c.d.def_ 5 (d := dQuotedFrom) rfl
theorem T.d_law_state (t : T K mg) : Fd K "_law_state" sLawState := t.c.d.def_ 6 (d := dLawState) rfl
theorem T.d_law_draw (t : T K mg) : Fd K "_law_draw" sLawDraw := t.c.d.def_ 7 (d := dLawDraw) rfl
theorem T.d_law_quoted (t : T K mg) : Fd K "_law_quoted" sLawQuoted := t.c.d.def_ 8 (d := dLawQuoted) rfl
theorem T.d_law_cell (t : T K mg) : Fd K "_law_cell" sLawCell := t.c.d.def_ 9 (d := dLawCell) rfl
theorem T.d_law_lines (t : T K mg) : Fd K "_law_lines" sLawLines := t.c.d.def_ 10 (d := dLawLines) rfl
theorem T.d_law_piece (t : T K mg) : Fd K "_law_piece" sLawPiece := t.c.d.def_ 11 (d := dLawPiece) rfl
theorem T.d_law_told (t : T K mg) : Fd K "_law_told" sLawTold := t.c.d.def_ 12 (d := dLawTold) rfl
theorem T.d_law (t : T K mg) : Fd K "law" sLaw := t.c.d.def_ 13 (d := dLaw) rfl
theorem T.e_TextError (t : T K mg) {P : Program} (hf : P.main.file = xTextError.file) (ht : (P.main.scope.names.lookup ("super" : Str)).isSome = false) : SxK.ErrC P K mg xTextError := by
  obtain ⟨h, X, G⟩ := t.g
  exact SxK.SupD.err X G (t.c.sup 0 (d := xTextError) rfl).1 (t.c.sup 0 (d := xTextError) rfl).2 hf ht
end
end Sx

set_option Elab.async false
set_option linter.all false
set_option maxRecDepth 100000
set_option maxHeartbeats 1000000
namespace Sx
open PySem PySem.Spec PyProof.Rows L2 SxK
abbrev sg (c : Nat) : Str := ⟨#[c]⟩
/-! ### a def that keeps a promise, called by its name -/
def Ok (P : Program) (w : World) (K : PySem.W.Frag) (mg : Str → Option Value) (base : Heap) (k : Nat) (x : Str) (ps : List Str) (sp : Sp) : Prop :=
  ∃ fd, FnOk P w K mg base CX0 k (He.ga K x) fd ps sp ∧ Binds K fd ps [] ∧ PySem.W.keepIn K (.ref (He.ga K x)) = true ∧ mg x = some (.ref (He.ga K x))
section
variable {P : Program} {w : World} {K : PySem.W.Frag} {mg : Str → Option Value} {base : Heap}
theorem mkOk {x : Str} {st : Stmt} {N ps : List Str} {k : Nat} {sp : Sp} (d : Fd K x st) (hx : mg x = some (.ref (He.ga K x))) (S : FnScope N ps (defScope st)) (len : ∀ vs H Q E, sp vs H Q E → vs.length = ps.length)
    (bnd : ∀ (kV doc pm : Value) (an : Option Addr) (cdv ct : Value) (us : List Value), us.length = ps.length → bindArgs (PySem.W.fnOf x x (defArgs st) (defBody st) (defScope st) .none kV doc pm an cdv ct) ⟨us, []⟩ = pure (ps.zip us))
    (body : ∀ (cdv : Value) (A : Around) (outer : List Env) (s : Shared) (H0 : Hp) (vs : List V) (Q : VK) (E : XK), Room k (A.deeper (envOfC x (defScope st) s.heap.objs.size (He.ga K x) cdv)) → sp vs H0 Q E →
      ∃ t, PSs (cxOf CX0 P w K mg base N x (defScope st) (He.ga K x) cdv A outer s H0 E).nox (defBody st) t ∧ t { nx := fun _ H' => Q .non H', rt := Q } (start N vs) H0) : Ok P w K mg base (k + 1) x ps sp := by
  obtain ⟨fd, F⟩ := d
  refine ⟨fd, F.ok S len fun cdv A outer s H vs Q E hr h => ?_, F.bindsN bnd, F.kp, hx⟩
  obtain ⟨t, h1, h2⟩ := body cdv A outer s H vs Q E hr h
  exact ⟨t, h1.nox, h2⟩
theorem pe_ok {X : Cx} {k : Nat} {x : Str} {ps : List Str} {sp : Sp} {p pos : Pos} {e : Expr} {es : List Expr} {t : TA} (o : Ok X.prog X.w X.K X.mg X.base k x ps sp) (hr : Room k X.A) (hg : Gl X x) (ha : PA X (e :: es) t)
    (hdb : (x == ("__debug__" : Str)) = false := by decide) (hs : starEach (e :: es) X.env = (false, eval e X.env) :: starEach es X.env := by rfl) (hpl : ((backTo pos (starEach es X.env)).any (·.1)) = false := by rfl) :
    PE X (.Call (.Name x p) (e :: es) [] pos) (tCall sp [] E0 t) := by
  obtain ⟨fd, F, b, kp, hm⟩ := o
  exact pe_call F hr hg hm kp b .nil pass0 ha hdb hs hpl
/-! ### frames: all that was tracked is as it was, but at a -/
def But (a : Addr) (H H' : Hp) : Prop := ∀ b o, H b = some o → b ≠ a → H' b = some o
theorem But.of {a : Addr} {H H' : Hp} (s : Same H H') : But a H H' := fun b o e _ => s b o e
theorem Same.new {H : Hp} {p : Addr} {o : HO} (h : H p = none) : Same H (upd H p o) := fun b o e => by
  rw [upd_ne (ne_of_none e h)]
  exact e
theorem Same.put {H0 H : Hp} {p : Addr} {o : HO} (s : Same H0 H) (h : H0 p = none) : Same H0 (upd H p o) := fun b o e => by
  rw [upd_ne (ne_of_none e h)]
  exact s b o e
end
abbrev sl (z : Str) : List Nat := z.cps.toList
theorem sl_len (z : Str) : z.length = (sl z).length := by simp [Str.length]
def signB (c : Nat) : Bool := decide (32 ≤ c) && decide (c ≤ 126)
/-! ### texts -/
theorem sl_app (a b : Str) : sl (a ++ b) = sl a ++ sl b := by
  show (a.cps ++ b.cps).toList = _
  simp
theorem sl_sg (c : Nat) : sl (sg c) = [c] := rfl
theorem sl_mt : sl (Str.ofString "") = [] := by decide +kernel
theorem len_app (a b : Str) : (a ++ b).length = a.length + b.length := by
  rw [sl_len, sl_len, sl_len, sl_app, List.length_append]
theorem sl_ext {a b : Str} (h : sl a = sl b) : a = b := by
  obtain ⟨a⟩ := a
  obtain ⟨b⟩ := b
  have : a = b := by
    apply Array.ext'
    exact h
  rw [this]
theorem join_sg : ∀ zs : List Nat, sl (Txt.join (Str.ofString "") (zs.map sg)) = zs := by
  intro zs
  have e : Txt.join (Str.ofString "") (zs.map sg) = Str.join (Str.ofString "") (zs.map sg) := eq_of_beq (join_plain_closes _ _)
  rw [e]
  have e0 : Str.ofString "" = ⟨#[]⟩ := by decide +kernel
  rw [e0]
  induction zs with
  | nil => rfl
  | cons c r ih =>
    cases r with
    | nil => rfl
    | cons d r =>
      have e2 : Str.join ⟨#[]⟩ ((c :: d :: r).map sg) = sg c ++ ⟨#[]⟩ ++ Str.join ⟨#[]⟩ ((d :: r).map sg) := rfl
      rw [e2, sl_app, ih (eq_of_beq (join_plain_closes _ _)), sl_app]
      rfl
/-- a loop over the signs of a text -/
theorem for_signs {z : Str} {g : TG} {tb : TS} {D : Ends} {σ : L2.St} {H : Hp} (Pv : Nat → L2.St → Hp → Prop) (h0 : Pv 0 σ H)
    (hs : ∀ (i c : Nat) (σ : L2.St) (H : Hp), (sl z)[i]? = some c → Pv i σ H → g (.str (sg c)) σ H fun σ2 H2 => tb { D with nx := Pv (i + 1), ct := Pv (i + 1), bk := D.nx } σ2 H2) (hd : ∀ σ H, Pv (sl z).length σ H → D.nx σ H) :
    ∃ W : Nat → Nat → L2.St → Hp → Prop, (∃ m, W 0 m σ H) ∧ ∀ i m σ H, W i m σ H → ((Its z).stop i H ∧ D.nx σ H) ∨ ((Its z).go i H ∧ ∃ N : L2.St → Hp → Prop, (∀ σ' H', N σ' H' → ∃ m', m' < m ∧ W (i + 1) m' σ' H') ∧
      ∀ v H', (Its z).yld i H v H' → g v σ H' fun σ2 H2 => tb { D with nx := N, ct := N, bk := D.nx } σ2 H2) := by
  have hsz : z.cps.size = (sl z).length := by simp
  refine ⟨fun i m σ H => m = (sl z).length - i ∧ i ≤ (sl z).length ∧ Pv i σ H, ⟨(sl z).length, rfl, Nat.zero_le _, h0⟩, ?_⟩
  rintro i m σ H ⟨rfl, hi, p⟩
  by_cases lt : i < (sl z).length
  · refine .inr ⟨by show i < z.cps.size; omega, Pv (i + 1), fun σ' H' q => ⟨(sl z).length - (i + 1), by omega, rfl, lt, q⟩, ?_⟩
    rintro x H' ⟨rfl, c, hc, rfl⟩
    exact hs i c σ _ (by rw [Array.getElem?_toList]; exact hc) p
  · have e : i = (sl z).length := by omega
    subst e
    exact .inl ⟨by show z.cps.size ≤ (sl z).length; omega, hd σ H p⟩
def spSign : Sp := fun vs H Q _ => ∃ c : Nat, vs = [.str (sg c)] ∧ Q (.bl (signB c)) H
/-! ### the law's state and its draws -/
structure StAt (H : Hp) (a L : Addr) (ns : List Int) (p c z k : Int) : Prop where
  at_ : H a = some (.lst [.ref L, .int p, .int c, .int z, .int k])
  lst : H L = some (.lst (ns.map V.int))
  ne : L ≠ a
  p0 : 0 ≤ p
def St (H : Hp) (a L : Addr) : Prop := ∃ ns p c z k, StAt H a L ns p c z k
theorem StAt.up {H : Hp} {a L : Addr} {ns : List Int} {p c z k p' c' z' k' : Int} (h : StAt H a L ns p c z k) (hp : 0 ≤ p') : StAt (upd H a (.lst [.ref L, .int p', .int c', .int z', .int k'])) a L ns p' c' z' k' :=
  ⟨upd_same, by rw [upd_ne h.ne]; exact h.lst, h.ne, hp⟩
theorem St.same {H H' : Hp} {a L : Addr} (h : St H a L) (s : Same H H') : St H' a L := by
  obtain ⟨ns, p, c, z, k, h1, h2, h3, h4⟩ := h
  exact ⟨ns, p, c, z, k, s _ _ h1, s _ _ h2, h3, h4⟩
theorem St.hasA {H : Hp} {a L : Addr} (h : St H a L) : ∃ o, H a = some o := by
  obtain ⟨ns, p, c, z, k, h1, _⟩ := h
  exact ⟨_, h1⟩
theorem St.hasL {H : Hp} {a L : Addr} (h : St H a L) : ∃ o, H L = some o := by
  obtain ⟨ns, p, c, z, k, _, h2, _⟩ := h
  exact ⟨_, h2⟩
theorem St.ne {H : Hp} {a L : Addr} (h : St H a L) : L ≠ a := by
  obtain ⟨ns, p, c, z, k, h1, h2, h3, h4⟩ := h
  exact h3
/-- a list of one's own written -/
theorem St.write {H : Hp} {a L D : Addr} {o : HO} (h : St H a L) (n1 : a ≠ D) (n2 : L ≠ D) : St (upd H D o) a L := by
  obtain ⟨ns, p, c, z, k, h1, h2, h3, h4⟩ := h
  exact ⟨ns, p, c, z, k, by rw [upd_ne n1]; exact h1, by rw [upd_ne n2]; exact h2, h3, h4⟩
theorem But.refl (a : Addr) (H : Hp) : But a H H := fun _ _ e _ => e
theorem But.trans {a : Addr} {H H1 H2 : Hp} (x : But a H H1) (y : But a H1 H2) : But a H H2 := fun b o e hb => y b o (x b o e hb) hb
theorem But.put (a : Addr) (H : Hp) (o : HO) : But a H (upd H a o) := fun b u e hb => by rw [upd_ne hb]; exact e
def spState (K : PySem.W.Frag) : Sp := fun vs H Q _ => ∃ (a : Addr) (ns : List Int), vs = [.ref a] ∧ SqL K H a (ns.map V.int) ∧ ∀ p L H', H p = none → H L = none → Same H H' → St H' p L → Q (.ref p) H'
def spDraw : Sp := fun vs H Q _ => ∃ (a L : Addr) (m : Int), vs = [.ref a, .int m] ∧ St H a L ∧ 0 < m ∧ m < 1073741824 ∧ ∀ v H', 0 ≤ v → v < m → St H' a L → But a H H' → Q (.int v) H'
section
variable {P : Program} {w : World} {K : PySem.W.Frag} {mg : Str → Option Value} {base : Heap}
theorem scSign : FnScope ["character"] ["character"] (defScope sIsSign) := ⟨rfl, rfl, rfl, by decide +kernel, rfl, by decide +kernel, by decide +kernel⟩
theorem lt1 (a b : Nat) : decide ((⟨#[a]⟩ : Str).cps.toList < (⟨#[b]⟩ : Str).cps.toList) = decide (a < b) := by
  rw [decide_eq_decide]
  show [a] < [b] ↔ a < b
  rw [List.cons_lt_cons_iff]
  constructor
  · rintro (h | ⟨_, h⟩)
    · exact h
    · exact absurd h (List.not_lt_nil _)
  · exact Or.inl
theorem ok_sign (t : T K mg) : Ok P w K mg base 1 "is_sign" ["character"] spSign := by
  refine mkOk t.d_is_sign t.g_is_sign scSign (fun vs H Q E h => ?_) (fun _ _ _ _ _ _ us hl => match us, hl with | [_], _ => rfl) fun cdv A outer s H vs Q E hr h => ?_
  · obtain ⟨c, rfl, _⟩ := h; rfl
  obtain ⟨c, rfl, q⟩ := h
  refine ⟨_, pss_one (ps_ret (pe_chain op_le_str op_le_str pe_str (pv 0) pe_str)), ?_⟩
  refine ⟨_, rfl, _, _, rfl, rfl, _, rfl, ?_⟩
  have e1 : (!decide ((sg c).cps.toList < (Str.ofString " ").cps.toList)) = decide (32 ≤ c) := by
    have e : Str.ofString " " = sg 32 := by decide +kernel
    rw [e, lt1, ← decide_not, decide_eq_decide]; omega
  have e2 : (!decide ((Str.ofString "~").cps.toList < (sg c).cps.toList)) = decide (c ≤ 126) := by
    have e : Str.ofString "~" = sg 126 := by decide +kernel
    rw [e, lt1, ← decide_not, decide_eq_decide]; omega
  show if (!decide ((sg c).cps.toList < (Str.ofString " ").cps.toList)) = true then _ else _
  rw [e1]
  unfold signB at q
  refine ite2 (fun h => ?_) (fun h => ?_)
  · refine ⟨_, _, rfl, rfl, ?_⟩
    rw [h, Bool.true_and] at q
    show Q (.bl (!decide ((Str.ofString "~").cps.toList < (sg c).cps.toList))) _
    rw [e2]
    exact q
  · rw [Bool.not_eq_true] at h
    rw [h, Bool.false_and] at q
    exact q
theorem scState : FnScope ["script"] ["script"] (defScope sLawState) := ⟨rfl, rfl, rfl, by decide +kernel, rfl, by decide +kernel, by decide +kernel⟩
theorem ok_state (t : T K mg) : Ok P w K mg base 1 "_law_state" ["script"] (spState K) := by
  refine mkOk t.d_law_state t.g_law_state scState (fun vs H Q E h => ?_) (fun _ _ _ _ _ _ us hl => match us, hl with | [_], _ => rfl) fun cdv A outer s H vs Q E hr h => ?_
  · obtain ⟨a, ns, rfl, _⟩ := h; rfl
  obtain ⟨a, ns, rfl, hS, k⟩ := h
  refine ⟨_, pss_one (ps_ret (pe_lst (pa_cons (pe_callTy call_list_of rfl t.f_list (by decide +kernel) (pa_cons (pv 0) pa_nil)) (pa_cons pe_int (pa_cons pe_int (pa_cons pe_int (pa_cons pe_int pa_nil))))))), ?_⟩
  refine ⟨_, rfl, a, _, rfl, .inl hS, fun L hL => ⟨by show 5 ≤ sizeLine; decide, fun p hp => ?_⟩⟩
  have ne : L ≠ p := fun e => by rw [← e, upd_same] at hp; cases hp
  have hp0 : H p = none := by rw [upd_ne ne.symm] at hp; exact hp
  exact k p L _ hp0 hL ((Same.new hL).trans (Same.new hp)) ⟨ns, 0, 0, 1, 0, upd_same, by rw [upd_ne ne]; exact upd_same, ne, Int.le_refl _⟩
abbrev nsDraw : List Str := ["state", "many", "value", "cell", "first"]
theorem scDraw : FnScope nsDraw ["state", "many"] (defScope sLawDraw) := ⟨rfl, rfl, rfl, by decide +kernel, rfl, by decide +kernel, by decide +kernel⟩
theorem mulF (y : Int) : CMul (y % 2147483647) (y % 2147483647) := .inl ⟨by omega, by omega⟩
theorem ok_draw (t : T K mg) : Ok P w K mg base 1 "_law_draw" ["state", "many"] spDraw := by
  refine mkOk t.d_law_draw t.g_law_draw scDraw (fun vs H Q E h => ?_) (fun _ _ _ _ _ _ us hl => match us, hl with | [_, _], _ => rfl) fun cdv A outer s H vs Q E hr h => ?_
  · obtain ⟨a, L, m, rfl, _⟩ := h; rfl
  obtain ⟨a, L, m, rfl, ⟨ns, p, c, z, kk, S⟩, m0, m1, k⟩ := h
  have hS := S.at_
  refine ⟨_, C8.pss_cut (ps_if (PW.pt (pw_and (pt_cmpR op_gt (pe_ix ix_list (pv 0) pe_int (fun _ _ => rfl)) pe_int (nomark _)) (pw_and1 (pt_cmpR op_gt (pe_ix ix_list (pv 0) pe_int (fun _ _ => rfl)) pe_int (nomark _)))))
      (pss_cons (ps_set (i := 2) scDraw.nd rfl (Or.inl rfl) (pe_op op_mod (pe_callTy call_int1 rfl t.f_int (by decide +kernel) (pa_cons (pe_ix ix_list (pv 0) pe_int (fun _ _ => rfl)) pa_nil)) (pv 1)))
      (pss_cons (ps_asg (pe_op op_fdiv (pe_ix ix_list (pv 0) pe_int (fun _ _ => rfl)) (pv 1)) (pg_sub (pv 0) pe_int set_list))
      (pss_cons (ps_asg (pe_op op_sub (pe_ix ix_list (pv 0) pe_int (fun _ _ => rfl)) pe_int) (pg_sub (pv 0) pe_int set_list)) (pss_one (ps_ret (pv 2)))))) pss_nil)
    (pss_cons (ps_set (i := 3) scDraw.nd rfl (Or.inl rfl) (pe_op op_add (pe_ix ix_list (pv 0) pe_int (fun _ _ => rfl)) (pe_op op_mul pe_int (pe_ix ix_list (pv 0) pe_int (fun _ _ => rfl)))))
    (C8.pss_cut (ps_if (pt_cmpR op_lt (pe_ix ix_list (pv 0) pe_int (fun _ _ => rfl)) (pe_callB call_len_seq rfl t.f_len boot_len (pa_cons (pe_ix ix_list (pv 0) pe_int (fun _ _ => rfl)) pa_nil)) (nomark _))
        (pss_one (ps_set (i := 3) scDraw.nd rfl (Or.inl rfl) (pe_ix ix_list (pe_ix ix_list (pv 0) pe_int (fun _ _ => rfl)) (pe_ix ix_list (pv 0) pe_int (fun _ _ => rfl)) (fun _ _ => rfl)))) pss_nil)
    (pss_cons (ps_asg (pe_op op_add (pe_ix ix_list (pv 0) pe_int (fun _ _ => rfl)) pe_int) (pg_sub (pv 0) pe_int set_list))
    (pss_cons (ps_if (pt_cmpR op_ge (pv 3) (pe_op op_pow pe_int pe_int) (nomark _))
        (pss_cons (ps_asg (pe_op op_fdiv (pv 3) (pv 1)) (pg_sub (pv 0) pe_int set_list)) (pss_cons (ps_asg pe_int (pg_sub (pv 0) pe_int set_list))
          (pss_one (ps_ret (pe_op op_mod (pe_callTy call_int1 rfl t.f_int (by decide +kernel) (pa_cons (pv 3) pa_nil)) (pv 1)))))) pss_nil)
    (pss_cons (ps_set (i := 4) scDraw.nd rfl (Or.inl rfl) (pe_op op_mod (pe_callTy call_int1 rfl t.f_int (by decide +kernel) (pa_cons (pe_op op_add (pe_op op_add (pe_op op_mul (pv 3) pe_int) (pe_op op_mul (pe_ix ix_list (pv 0) pe_int (fun _ _ => rfl)) pe_int)) (pe_ix ix_list (pv 0) pe_int (fun _ _ => rfl))) pa_nil)) pe_int))
    (pss_cons (ps_asg (pe_op op_mod (pe_callTy call_int1 rfl t.f_int (by decide +kernel) (pa_cons (pe_op op_add (pe_op op_add (pe_op op_mul (pv 4) pe_int) (pe_op op_mul (pv 4) (pv 4))) pe_int) pa_nil)) pe_int) (pg_sub (pv 0) pe_int set_list))
      (pss_one (ps_ret (pe_op op_mod (pe_callTy call_int1 rfl t.f_int (by decide +kernel) (pa_cons (pe_op op_fdiv (pe_ix ix_list (pv 0) pe_int (fun _ _ => rfl)) pe_int) pa_nil)) (pv 1)))))))))), ?_⟩
  have md : ∀ x : Int, 0 ≤ x % m ∧ x % m < m := fun x => ⟨Int.emod_nonneg _ (by omega), Int.emod_lt_of_pos _ m0⟩
  -- the first if
  refine ⟨fun σ' H' => σ' = [some (.ref a), some (.int m), none, none, none] ∧ H' = H, ?_, ?_⟩
  · refine ⟨_, rfl, a, _, _, _, rfl, rfl, SqL.of hS, rfl, _, _, rfl, rfl, _, rfl, ?_⟩
    refine ite2 (fun h1 => ?_) (fun h1 => iteF ⟨rfl, rfl⟩)
    refine ⟨_, rfl, a, _, _, _, rfl, rfl, SqL.of hS, rfl, _, _, rfl, rfl, _, rfl, ?_⟩
    refine ite2 (fun h2 => ?_) (fun h2 => ⟨rfl, rfl⟩)
    refine ⟨_, rfl, a, _, _, _, rfl, rfl, SqL.of hS, rfl, .inl ⟨_, rfl, ?_⟩⟩
    refine ⟨_, rfl, _, _, rfl, rfl, m0, ?_⟩
    refine ⟨_, rfl, a, _, _, _, rfl, rfl, SqL.of hS, rfl, _, rfl, _, _, rfl, rfl, ⟨m0, m1⟩, ?_⟩
    refine ⟨_, rfl, a, _, _, 2, rfl, rfl, hS, rfl, ?_⟩
    refine ⟨_, rfl, a, _, _, _, rfl, rfl, SqL.of upd_same, rfl, _, _, rfl, rfl, ?_⟩
    refine ⟨_, rfl, a, _, _, 4, rfl, rfl, upd_same, rfl, ?_⟩
    refine ⟨_, rfl, k _ _ (md _).1 (md _).2 ⟨ns, p, c / m, z, kk - 1, upd_same, ?_, S.ne, S.p0⟩ ?_⟩
    · rw [upd_ne S.ne, upd_ne S.ne]; exact S.lst
    · exact (But.put a _ _).trans (But.put a _ _)
  rintro σ' H' ⟨rfl, rfl⟩
  refine ⟨_, rfl, a, _, _, _, rfl, rfl, SqL.of hS, rfl, ?_⟩
  refine ⟨_, rfl, a, _, _, _, rfl, rfl, SqL.of hS, rfl, _, _, rfl, rfl, .inl (by decide), _, _, rfl, rfl, ?_⟩
  -- the second if
  refine ⟨fun σ' H1 => (∃ x : Int, σ' = [some (.ref a), some (.int m), none, some (.int x), none]) ∧ H1 = H', ?_, ?_⟩
  · refine ⟨_, rfl, a, _, _, _, rfl, rfl, SqL.of hS, rfl, ?_⟩
    refine ⟨_, rfl, a, _, _, _, rfl, rfl, SqL.of hS, rfl, L, _, rfl, .inl (SqL.of S.lst), _, _, rfl, rfl, _, rfl, ?_⟩
    refine ite2 (fun h1 => ?_) (fun h1 => ⟨⟨_, rfl⟩, rfl⟩)
    have h1' : p < (ns.length : Int) := by have := of_decide_eq_true h1; rw [List.length_map] at this; exact this
    have p0 := S.p0
    have hp : p.toNat < ns.length := by omega
    refine ⟨_, rfl, a, _, _, _, rfl, rfl, SqL.of hS, rfl, ?_⟩
    refine ⟨_, rfl, a, _, _, _, rfl, rfl, SqL.of hS, rfl, L, _, _, .int ns[p.toNat], rfl, rfl, SqL.of S.lst, ?_, ?_⟩
    · exact at_of (j := p.toNat) (by omega) (by rw [List.getElem?_map, List.getElem?_eq_getElem hp]; rfl)
    · exact ⟨⟨_, rfl⟩, rfl⟩
  rintro σ' H1 ⟨⟨x, rfl⟩, rfl⟩
  refine ⟨_, rfl, a, _, _, _, rfl, rfl, SqL.of hS, rfl, _, _, rfl, rfl, ?_⟩
  refine ⟨_, rfl, a, _, _, 1, rfl, rfl, hS, rfl, ?_⟩
  have p0 := S.p0
  have S1 : StAt (upd H1 a (.lst [.ref L, .int (p + 1), .int c, .int z, .int kk])) a L ns (p + 1) c z kk := S.up (by omega)
  have B1 : But a H1 (upd H1 a (.lst [.ref L, .int (p + 1), .int c, .int z, .int kk])) := But.put a _ _
  refine ⟨_, rfl, _, _, rfl, rfl, ⟨by decide, by decide, by decide⟩, _, _, rfl, rfl, _, rfl, ?_⟩
  refine ite2 (fun h1 => ?_) (fun h1 => ?_)
  · refine ⟨_, rfl, _, rfl, _, _, rfl, rfl, ⟨m0, m1⟩, ?_⟩
    refine ⟨_, rfl, a, _, _, 2, rfl, rfl, upd_same, rfl, ?_⟩
    refine ⟨_, rfl, a, _, _, 4, rfl, rfl, upd_same, rfl, ?_⟩
    refine ⟨_, rfl, .inl ⟨_, rfl, ?_⟩⟩
    refine ⟨_, rfl, _, _, rfl, rfl, m0, k _ _ (md _).1 (md _).2 ⟨ns, p + 1, x / m, z, 60, upd_same, ?_, S.ne, by omega⟩ ?_⟩
    · rw [upd_ne S.ne, upd_ne S.ne]; exact S1.lst
    · exact B1.trans ((But.put a _ _).trans (But.put a _ _))
  · refine ⟨_, rfl, _, _, rfl, rfl, .inr (by decide), ?_⟩
    refine ⟨_, rfl, a, _, _, _, rfl, rfl, SqL.of upd_same, rfl, _, _, rfl, rfl, .inr (by decide), _, _, rfl, rfl, ?_⟩
    refine ⟨_, rfl, a, _, _, _, rfl, rfl, SqL.of upd_same, rfl, _, _, rfl, rfl, .inl ⟨_, rfl, ?_⟩⟩
    refine ⟨_, _, rfl, rfl, (by show (0 : Int) < 2147483647; decide), ?_⟩
    refine ⟨_, rfl, _, _, rfl, rfl, .inr (by decide), ?_⟩
    refine ⟨_, rfl, _, rfl, _, _, rfl, rfl, mulF _, _, _, rfl, rfl, _, _, rfl, rfl, .inl ⟨_, rfl, ?_⟩⟩
    refine ⟨_, _, rfl, rfl, (by show (0 : Int) < 2147483629; decide), ?_⟩
    refine ⟨_, rfl, a, _, _, 3, rfl, rfl, upd_same, rfl, ?_⟩
    refine ⟨_, rfl, a, _, _, _, rfl, rfl, SqL.of upd_same, rfl, _, _, rfl, rfl, ⟨by decide, by decide⟩, .inl ⟨_, rfl, ?_⟩⟩
    refine ⟨_, rfl, _, _, rfl, rfl, m0, k _ _ (md _).1 (md _).2 ⟨ns, p + 1, c, _, kk, upd_same, ?_, S.ne, by omega⟩ ?_⟩
    · rw [upd_ne S.ne]; exact S1.lst
    · exact B1.trans (But.put a _ _)
end
theorem pgi {X : Cx} {x : Str} {i : Int} {k : Tok} {pos : Pos} (hg : Gl X x) (hm : X.mg x = some (.int i k)) (hd : (x == ("__debug__" : Str)) = false := by decide) : PE X (.Name x pos) (tC (.int i)) := pe_glob (v := .int i) hg hm ⟨_, rfl⟩ hd
end Sx

set_option Elab.async false
set_option linter.all false
set_option maxRecDepth 100000
set_option maxHeartbeats 2000000
namespace Sx
open PySem PySem.Spec PyProof.Rows L2 SxA SxK
/-! ### the digits of a number of at most ten -/
def spNumberWord : Sp := fun vs H Q _ => ∃ (n : Int), vs = [.int n] ∧ (0 ≤ n ∧ n < 10 ^ 10) ∧ ∀ H', Same H H' → Q (.str (Str.ofString (toString n))) H'
theorem nw_log {l : Int} (h0 : 0 ≤ l) (h : l < 10 ^ 10) : l.natAbs.log2 < 1920 := by
  by_cases n : l.natAbs = 0
  · rw [n]; decide
  · exact (Nat.log2_lt n).mpr (Nat.lt_of_lt_of_le (show l.natAbs < 10 ^ 10 by omega) (by decide))
section
variable {P : Program} {w : World} {K : PySem.W.Frag} {mg : Str → Option Value} {base : Heap}
abbrev nsNumberWord : List Str := ["number", "parts", "rest", "part"]
theorem scNumberWord : FnScope nsNumberWord ["number"] (defScope sNumberWord) := ⟨rfl, rfl, rfl, by decide +kernel, rfl, by decide +kernel, by decide +kernel⟩
theorem ok_number_word (t : T K mg) : Ok P w K mg base 1 "number_word" ["number"] spNumberWord := by
  refine mkOk t.d_number_word t.g_number_word scNumberWord (fun vs H Q E h => ?_) (fun _ _ _ _ _ _ us hl => match us, hl with | [_], _ => rfl) fun cdv A outer s H vs Q E hr h => ?_
  · obtain ⟨n, rfl, _⟩ := h; rfl
  obtain ⟨n, rfl, hn, k⟩ := h
  obtain ⟨kP, iP⟩ := t.i_PART
  obtain ⟨kD, iD⟩ := t.i_PART_DIGITS
  refine ⟨_, pss_cons (ps_set (i := 1) scNumberWord.nd rfl (Or.inl rfl) (pe_lst pa_nil))
    (pss_cons (ps_set (i := 2) scNumberWord.nd rfl (Or.inl rfl) (pe_callB call_abs rfl t.f_abs (by decide +kernel) (pa_cons (pv 0) pa_nil)))
    (pss_cons (ps_while PassesOwn.never (pt_cmpR op_ge (pv 2) (pgi rfl iP) (nomark _))
      (pss_cons (ps_asg (pe_callB call_divmod rfl t.f_divmod (by decide +kernel) (pa_cons (pv 2) (pa_cons (pgi rfl iP) pa_nil))) (pg_tup rfl (pgs_cons (pg_name (i := 2) scNumberWord.nd rfl (Or.inl rfl)) (pgs_cons (pg_name (i := 3) scNumberWord.nd rfl (Or.inl rfl)) pgs_nil))))
    (pss_one (ps_expr (pe_bm PySem.F.plainAttrs_list PySem.F.slot_list_append PySem.F.type_list_append mt_append (pv 1) (pa_cons (pe_bm PySem.F.plainAttrs_str PySem.F.slot_str_zfill PySem.F.type_str_zfill mt_zfill (pe_callTy call_str_int rfl t.f_str (by decide +kernel) (pa_cons (pv 3) pa_nil)) (pa_cons (pgi rfl iD) pa_nil)) pa_nil))))))
    (pss_cons (ps_expr (pe_bm PySem.F.plainAttrs_list PySem.F.slot_list_append PySem.F.type_list_append mt_append (pv 1) (pa_cons (pe_callTy call_str_int rfl t.f_str (by decide +kernel) (pa_cons (pv 2) pa_nil)) pa_nil)))
    (pss_cons (ps_if (pt_cmpR op_lt (pv 0) pe_int (nomark _))
      (pss_one (ps_expr (pe_bm PySem.F.plainAttrs_list PySem.F.slot_list_append PySem.F.type_list_append mt_append (pv 1) (pa_cons pe_str pa_nil))))
      pss_nil)
    (pss_one (ps_ret (pe_joinRev rfl t.f_reversed pe_str (pv 1)))))))), ?_⟩
  have l10 : n.natAbs.log2 < 1920 := nw_log hn.1 hn.2
  have tl : (Str.ofString (toString n)).length ≤ 10 := toString_length_le hn.1 (by decide) hn.2
  refine ⟨(by show 0 ≤ sizeLine; decide), fun D hD => ?_⟩
  refine ⟨_, rfl, n, rfl, ?_⟩
  rw [if_neg (show ¬ n < 0 by omega)]
  refine ⟨fun μ σ' H' => σ' = [some (.int n), some (.ref D), some (.int n), none] ∧ H' = upd H D (.lst []), ⟨0, rfl, rfl⟩, ?_⟩
  rintro μ σ' H' ⟨rfl, rfl⟩
  refine ⟨_, rfl, _, _, rfl, rfl, _, rfl, ite2 (fun h1 => ?_) (fun h1 => ?_)⟩
  · exfalso
    have h2 : (10000000000000000000000000000000000000000000000000000000000000000 : Int) ≤ n := of_decide_eq_true h1
    omega
  refine ⟨_, rfl, .inl ⟨rfl, _, SqL.of upd_same⟩, _, rfl, n, rfl, l10, D, _, _, rfl, rfl, upd_same, (by show 0 < sizeLine; decide), ?_⟩
  refine ⟨_, rfl, _, _, rfl, rfl, _, rfl, ite2 (fun h2 => ?_) (fun h2 => ?_)⟩
  · exfalso
    have h3 : n < 0 := of_decide_eq_true h2
    omega
  have ej : Txt.join (Str.ofString "") [Str.ofString (toString n)] = Str.ofString (toString n) := by first | rfl | simp [Txt.join]
  refine ⟨⟨_, rfl⟩, _, rfl, _, D, [Str.ofString (toString n)], rfl, rfl, SqL.of upd_same, ?_, ?_⟩
  · show ([Str.ofString (toString n)].map (·.length)).sum + 1 * (Str.ofString "").length ≤ 16777216
    have e0 : (Str.ofString "").length = 0 := rfl
    rw [e0, List.map_cons, List.map_nil, List.sum_cons, List.sum_nil]
    omega
  · show Q (.str (Txt.join (Str.ofString "") [Str.ofString (toString n)])) _
    rw [ej]
    exact k _ (Same.put (Same.new hD) hD)
end
end Sx

set_option Elab.async false
set_option linter.all false
set_option maxRecDepth 100000
set_option maxHeartbeats 2000000
namespace Sx
open PySem PySem.Spec PyProof.Rows L2 SxK
/-! ### TextError(line, column, reason) -/
/-- made: a new dict with the three -/
def erD (l c : Int) (r : Str) : List (Str × V) := [("reason", .str r), ("column", .int c), ("line", .int l)]
def spInit (K : PySem.W.Frag) : Sp := fun vs H Q _ => ∃ (a : Addr) (l c : Int) (r : Str), vs = [.ref a, .int l, .int c, .str r] ∧ H a = some (exo a (He.ga K "TextError") none) ∧ (0 ≤ l ∧ l < 10 ^ 10) ∧ (0 ≤ c ∧ c < 10 ^ 10) ∧ r.length ≤ 100 ∧
  ∀ H1 d, Same H H1 → H1 d = none → d ≠ a → Q .non (upd (upd H1 a (exo a (He.ga K "TextError") (some d))) d (exd d (erD l c r)))
theorem zText : ScSup (defScope sTextErrorInit) ["self", "line", "column", "reason"] := ⟨rfl, rfl, rfl, by decide +kernel, by decide +kernel, by decide +kernel, by decide +kernel, by decide +kernel, by decide +kernel⟩
theorem lg10 {l : Int} (h0 : 0 ≤ l) (h : l < 10 ^ 10) : l.natAbs.log2 < 1920 := by
  by_cases n : l.natAbs = 0
  · rw [n]; decide
  · exact (Nat.log2_lt n).mpr (Nat.lt_of_lt_of_le (show l.natAbs < 10 ^ 10 by omega) (by decide))
theorem app_len (a b : Str) : (a ++ b).length = a.length + b.length := by
  show (a.cps ++ b.cps).size = _
  rw [Array.size_append]
  rfl
section
variable {P : Program} {w : World} {K : PySem.W.Frag} {mg : Str → Option Value} {base : Heap}
theorem ok_init (t : T K mg) (er : ErrC P K mg xTextError) : ∃ fd, FnOk P w K mg base (L2.CX P w) 2 (xTextError.I K) fd ["self", "line", "column", "reason"] (spInit K) ∧ Binds K fd ["self", "line", "column", "reason"] [] := by
  obtain ⟨cc, cda, fd, S⟩ := er.sup
  refine ⟨fd, ?_, ?_⟩
  · refine fn_sup (k := 1) (CX := L2.CX P w) S zText rfl rfl (fun vs H Q E h => ?_) (fun A outer s H vs Q E hr h => ?_) (fun _ => rfl) (fun _ => rfl) (fun _ => rfl) (fun _ => rfl)
    · obtain ⟨a, l, c, r, rfl, _⟩ := h
      rfl
    · obtain ⟨a, l, c, r, rfl, ha, hl, hc, hr1, hq⟩ := h
      refine ⟨_, _, a, _, pa_cons (pe_joined (.cons pe_str (.cons (pe_fmt (pe_ok (ok_number_word t) hr rfl (pa_cons (pv 1) pa_nil))) (.cons pe_str (.cons (pe_fmt (pe_ok (ok_number_word t) hr rfl (pa_cons (pv 2) pa_nil))) (.cons pe_str (.cons (pe_fmt (pv 3)) .nil))))))) pa_nil,
        pss_cons (ps_ost (pv 0) (pv 1)) (pss_cons (ps_ost (pv 0) (pv 2)) (pss_one (ps_ost (pv 0) (pv 3)))), rfl, ha, ?_⟩
      have tl : (Str.ofString (toString l)).length ≤ 10 := toString_length_le hl.1 (by decide) hl.2
      have tc : (Str.ofString (toString c)).length ≤ 10 := toString_length_le hc.1 (by decide) hc.2
      have e0 : Str.empty.length = 0 := rfl
      have e1 : (Str.ofString "line ").length = 5 := by decide +kernel
      have e2 : (Str.ofString ", column ").length = 9 := by decide +kernel
      have e3 : (Str.ofString ": ").length = 2 := by decide +kernel
      refine ⟨_, rfl, (by rw [app_len, e0, e1, sizeLine_eq]; omega), ?_⟩
      refine ⟨_, rfl, l, rfl, hl, fun H1 s1 => .inl ⟨_, rfl, (by rw [sizeLine_eq]; omega), _, rfl, (by rw [app_len, app_len, e0, e1, sizeLine_eq]; omega), ?_⟩⟩
      refine ⟨_, rfl, (by rw [app_len, app_len, app_len, e0, e1, e2, sizeLine_eq]; omega), ?_⟩
      refine ⟨_, rfl, c, rfl, hc, fun H2 s2 => .inl ⟨_, rfl, (by rw [sizeLine_eq]; omega), _, rfl, (by rw [app_len, app_len, app_len, app_len, e0, e1, e2, sizeLine_eq]; omega), ?_⟩⟩
      have s12 : Same H H2 := s1.trans s2
      have ha2 := s12 _ _ ha
      refine ⟨_, rfl, (by rw [app_len, app_len, app_len, app_len, app_len, e0, e1, e2, e3, sizeLine_eq]; omega), ?_⟩
      refine ⟨_, rfl, .inl ⟨r, rfl, (by rw [sizeLine_eq]; omega), _, rfl, (by rw [app_len, app_len, app_len, app_len, app_len, app_len, e0, e1, e2, e3, sizeLine_eq]; omega), ?_⟩⟩
      refine ⟨(by show 1 ≤ 1000; decide), ha2, ?_⟩
      have hn : ∀ f ∈ xTextError.ats, PySem.W.findIn K (.ref (He.ga K "TextError")) f = some none := er.ats
      refine ⟨_, rfl, _, rfl, a, _, rfl, S.ex, hn "line" (by decide), .inl ⟨ha2, fun dx hdx ne => ?_⟩⟩
      refine ⟨_, rfl, _, rfl, a, _, rfl, S.ex, hn "column" (by decide), .inr ⟨dx, _, upd_same, (by rw [upd_ne ne]; exact upd_same), (by show 1 ≤ 900; decide), ?_⟩⟩
      refine ⟨_, rfl, _, rfl, a, _, rfl, S.ex, hn "reason" (by decide), .inr ⟨dx, _, (by rw [upd_ne ne.symm]; exact upd_same), upd_same, (by show 2 ≤ 900; decide), ?_⟩⟩
      have q := hq H2 dx s12 hdx ne
      have eH : ∀ (o1 o2 o3 o4 : HO), upd (upd (upd (upd H2 dx o1) a o4) dx o2) dx o3 = upd (upd H2 a o4) dx o3 := fun o1 o2 o3 o4 => funext fun b => by
        by_cases hb : b = dx
        · subst hb
          rw [upd_same, upd_same]
        · rw [upd_ne hb, upd_ne hb, upd_ne hb]
          by_cases hb2 : b = a
          · subst hb2
            rw [upd_same, upd_same]
          · rw [upd_ne hb2, upd_ne hb2, upd_ne hb]
      show Q .non _
      rw [eH]
      exact q
  · obtain ⟨oc, od, kV, doc, pm, an, ct, osl, efd, hf⟩ := S.fn
    subst efd
    intro s us _ hl
    rw [List.append_nil] at hl ⊢
    match us, hl with
    | [_, _, _, _], _ => exact .of_eq rfl
end
end Sx

set_option Elab.async false
set_option linter.all false
set_option maxRecDepth 100000
set_option maxHeartbeats 1000000
namespace Sx
open PySem PySem.Spec PyProof.Rows L2 SxK
def tTru (K : PySem.W.Frag) (ta : TE) : TT := fun σ H Q => ta σ H fun x H' => ∃ k, TruV K x H' k ∧ Q k H'
theorem pt_truthK {X : Cx} {K : PySem.W.Frag} {a : Expr} {ta : TE} (h : X.K = K) (ha : PE X a ta) (he : ∀ whole, isTrue a X.env whole = (do let v ← whole; standAt a.pos; holding [v] (truthy v)) := by intro _; rfl) : PT X a (tTru K ta) := by
  subst h
  exact pt_truth ha he
theorem op_inK {X : Cx} {K : PySem.W.Frag} (h : X.K = K) : OpR X (compareOp .In) (rIn K false) := by
  subst h
  exact op_in_seq
/-! ### a def that may raise -/
def OkX (P : Program) (w : World) (K : PySem.W.Frag) (mg : Str → Option Value) (base : Heap) (k : Nat) (x : Str) (ps : List Str) (sp : Sp) : Prop :=
  ∃ fd, FnOk P w K mg base (L2.CX P w) k (He.ga K x) fd ps sp ∧ Binds K fd ps [] ∧ PySem.W.keepIn K (.ref (He.ga K x)) = true ∧ mg x = some (.ref (He.ga K x))
section
variable {P : Program} {w : World} {K : PySem.W.Frag} {mg : Str → Option Value} {base : Heap}
theorem mkOkX {x : Str} {st : Stmt} {N ps : List Str} {k : Nat} {sp : Sp} (d : Fd K x st) (hx : mg x = some (.ref (He.ga K x))) (S : FnScope N ps (defScope st)) (len : ∀ vs H Q E, sp vs H Q E → vs.length = ps.length)
    (bnd : ∀ (kV doc pm : Value) (an : Option Addr) (cdv ct : Value) (us : List Value), us.length = ps.length → bindArgs (PySem.W.fnOf x x (defArgs st) (defBody st) (defScope st) .none kV doc pm an cdv ct) ⟨us, []⟩ = pure (ps.zip us))
    (body : ∀ (cdv : Value) (A : Around) (outer : List Env) (s : Shared) (H0 : Hp) (vs : List V) (Q : VK) (E : XK), Room k (A.deeper (envOfC x (defScope st) s.heap.objs.size (He.ga K x) cdv)) → sp vs H0 Q E →
      ∃ t, PSs (cxOf (L2.CX P w) P w K mg base N x (defScope st) (He.ga K x) cdv A outer s H0 E) (defBody st) t ∧ t { nx := fun _ H' => Q .non H', rt := Q } (start N vs) H0) : OkX P w K mg base (k + 1) x ps sp := by
  obtain ⟨fd, F⟩ := d
  exact ⟨fd, F.ok S len body, F.bindsN bnd, F.kp, hx⟩
theorem pe_okX {X : Cx} {W : WX} {k : Nat} {x : Str} {ps : List Str} {sp : Sp} {p pos : Pos} {e : Expr} {es : List Expr} {t : TA} (o : OkX X.prog X.w X.K X.mg X.base k x ps sp) (hr : Room k X.A) (hg : Gl X x) (tk : Takes X W) (ha : PA X (e :: es) t)
    (hdb : (x == ("__debug__" : Str)) = false := by decide) (hs : starEach (e :: es) X.env = (false, eval e X.env) :: starEach es X.env := by rfl) (hpl : ((backTo pos (starEach es X.env)).any (·.1)) = false := by rfl) :
    PE X (.Call (.Name x p) (e :: es) [] pos) (tCallS sp (WE W) t) := by
  obtain ⟨fd, F, b, kp, hm⟩ := o
  exact pe_callS F hr hg hm kp b (fun σ => passAt tk σ) ha hdb hs hpl
/-- what a TextError lets be known -/
def Er (K : PySem.W.Frag) (E : XK) (H : Hp) (l c : Int) (r : Str) : Prop := ∀ d H', Same H H' → H' d = some (.xd (erD l c r)) → E (.ref (He.ga K "TextError")) (some d) H'
theorem Er.same {E : XK} {H H2 : Hp} {l c : Int} {r : Str} (e : Er K E H l c r) (s : Same H H2) : Er K E H2 l c r := fun d H' s2 h => e d H' (s.trans s2) h
theorem pmk_text {X : Cx} {k : Nat} {p pos : Pos} {a : Expr} {as : List Expr} {ta : TA} (t : T X.K X.mg) (er : ErrC X.prog X.K X.mg xTextError) (hr : Room (k + 3) X.A) (hg : Gl X "TextError") (ha : PA X (a :: as) ta)
    (he : starEach (a :: as) X.env = (false, eval a X.env) :: starEach as X.env := by rfl) (hpl : (backTo pos (starEach as X.env)).any (·.1) = false := by rfl) :
    PMk X (.Call (.Name "TextError" p) (a :: as) [] pos) (tMkO (He.ga X.K "TextError") (spInit X.K) [] ta) := by
  obtain ⟨fd, F, b⟩ := ok_init (w := X.w) (base := X.base) t er
  obtain ⟨cc, cda, fd2, S⟩ := er.sup
  exact pmk_oex (k := 2) S.ex S.iC S.tI F (hr.mono (by omega)) b .nil (fun pins σ H s e s' I c => by
    obtain ⟨_, _, _, _, _, _, _, _, _, _, _, _, z⟩ := c
    exact z.elim) hg er.glob ha (by decide) he hpl
/-- the reading behind its arguments -/
theorem mk_err {H : Hp} {l c : Int} {r : Str} {Q : XK} (hl : 0 ≤ l ∧ l < 10 ^ 10) (hc : 0 ≤ c ∧ c < 10 ^ 10) (hr : r.length ≤ 100) (q : Er K Q H l c r) :
    [V.int l, V.int c, V.str r].length ≤ 1000 ∧ ∀ a, H a = none → spInit K (.ref a :: ([V.int l, V.int c, V.str r] ++ [])) (upd H a (exo a (He.ga K "TextError") none))
      (fun v H2 => v = .non ∧ ∃ (d : Addr) (fs : List (Str × V)), H2 a = some (exo a (He.ga K "TextError") (some d)) ∧ H2 d = some (exd d fs) ∧ H d = none ∧ Q (.ref (He.ga K "TextError")) (some d) (upd (del H2 a) d (.xd fs))) (fun _ _ _ => False) := by
  refine ⟨(by show 3 ≤ 1000; decide), fun a ha => ⟨a, l, c, r, rfl, upd_same, hl, hc, hr, fun H1 d s1 hd ne => ?_⟩⟩
  have hd0 : H d = none := by
    have e := s1.free hd
    rw [upd_ne ne] at e
    exact e
  refine ⟨rfl, d, erD l c r, by rw [upd_ne ne.symm]; exact upd_same, upd_same, hd0, ?_⟩
  refine q d _ (fun b o hb => ?_) upd_same
  have b1 : b ≠ d := ne_of_none hb hd0
  have b2 : b ≠ a := ne_of_none hb ha
  rw [upd_ne b1, del_ne b2, upd_ne b1, upd_ne b2]
  exact s1 b o (by rw [upd_ne b2]; exact hb)
/-! ### check_signs -/
def spCheck (K : PySem.W.Frag) : Sp := fun vs H Q E => ∃ (z : Str) (n : Int), vs = [.str z, .int n] ∧ (0 ≤ n ∧ n < 10 ^ 10) ∧ z.length ≤ 1000000 ∧ ((∀ c ∈ sl z, signB c = true) → ∀ H', Same H H' → Q .non H') ∧
  ∀ (i c : Nat), (sl z)[i]? = some c → signB c = false → (∀ j b : Nat, j < i → (sl z)[j]? = some b → signB b = true) → Er K E H n ((i : Int) + 1) "sign"
abbrev nsCheck : List Str := ["line", "number", "at", "character"]
theorem scCheck : FnScope nsCheck ["line", "number"] (defScope sCheckSigns) := ⟨rfl, rfl, rfl, by decide +kernel, rfl, by decide +kernel, by decide +kernel⟩
theorem ok_check (t : T K mg) (er : ErrC P K mg xTextError) : OkX P w K mg base 4 "check_signs" ["line", "number"] (spCheck K) := by
  refine mkOkX t.d_check_signs t.g_check_signs scCheck (fun vs H Q E h => ?_) (fun _ _ _ _ _ _ us hl => match us, hl with | [_, _], _ => rfl) fun cdv A outer s H vs Q E hr h => ?_
  · obtain ⟨z, n, rfl, _⟩ := h; rfl
  obtain ⟨z, n, rfl, hn, hz, kq, ke⟩ := h
  refine ⟨_, pss_one (ps_for (passes_of rfl) rfl (pi_enumT rfl t.f_enumerate (pa_cons (pv 0) pa_nil)) (pg_tup rfl (pgs_cons (pg_name (i := 2) scCheck.nd rfl (Or.inl rfl)) (pgs_cons (pg_name (i := 3) scCheck.nd rfl (Or.inl rfl)) pgs_nil)))
    (pss_one (ps_if (pt_not (pt_truthK (K := K) rfl (pe_ok (ok_sign t) (hr.mono (by decide)) rfl (pa_cons (pv 3) pa_nil))))
      (pss_one (ps_raise rfl (takes_of rfl rfl rfl rfl) (pmk_text (k := 0) t er hr rfl (pa_cons (pv 1) (pa_cons (pe_op op_add (pv 2) pe_int) (pa_cons pe_str pa_nil)))))) pss_nil))), ?_⟩
  refine ⟨_, rfl, z, rfl, ?_⟩
  refine for_enumT (z := z) (fun i σ' H' => (∃ x y, σ' = [some (V.str z), some (V.int n), x, y]) ∧ Same H H' ∧ ∀ j b : Nat, j < i → (sl z)[j]? = some b → signB b = true) ⟨⟨none, none, rfl⟩, Same.refl _, fun j b hj => absurd hj (Nat.not_lt_zero _)⟩ ?_ ?_
  · rintro i c T σ' H' hc ⟨⟨x, y, rfl⟩, sm, good⟩ hT
    have s1 : Same H (upd H' T (.tup [.int (i : Nat), .str (sgn c)])) := Same.put sm (sm.free hT)
    refine ⟨T, _, rfl, SqT.of upd_same, rfl, ?_⟩
    refine ⟨_, _, rfl, ?_⟩
    refine ⟨_, _, rfl, rfl, ?_⟩
    refine ⟨_, rfl, c, rfl, signB c, rfl, ?_⟩
    refine ite2 (fun hb => ?_) (fun hb => ?_)
    · have hb' : signB c = false := by
        cases q : signB c with
        | false => rfl
        | true => rw [q] at hb; exact absurd hb (by decide)
      have ilt : i < z.length := by
        rw [sl_len]
        exact (List.getElem?_eq_some_iff.mp hc).1
      refine ⟨_, rfl, _, rfl, _, _, rfl, rfl, mk_err hn (by constructor <;> omega) (by decide) ((ke i c hc hb' good).same s1)⟩
    · have hb' : signB c = true := by
        cases q : signB c with
        | true => rfl
        | false => rw [q] at hb; exact absurd rfl hb
      refine ⟨⟨_, _, rfl⟩, s1, fun j b hj hjb => ?_⟩
      rcases Nat.lt_succ_iff_lt_or_eq.mp hj with h1 | h1
      · exact good j b h1 hjb
      · subst h1
        have e : (sl z)[j]? = some c := hc
        rw [e] at hjb
        cases hjb
        exact hb'
  · rintro σ' H' ⟨_, sm, good⟩
    exact kq (fun c hc => by
      obtain ⟨j, hj, rfl⟩ := List.mem_iff_getElem.mp hc
      exact good j _ hj (List.getElem?_eq_getElem hj)) H' sm
end
end Sx

set_option Elab.async false
set_option linter.all false
set_option maxRecDepth 100000
set_option maxHeartbeats 1000000
namespace Sx
open PySem PySem.Spec PyProof.Rows L2 SxK
theorem sgEq {a b : Nat} (h : sg a = sg b) : a = b := by
  have e : (#[a] : Array Nat) = #[b] := congrArg Str.cps h
  simpa using e
theorem beq_sg (a b : Nat) : (V.str (sg a) = V.str (sg b)) ↔ a = b := ⟨fun h => sgEq (V.str.inj h), fun h => by rw [h]⟩
theorem big6 {n : Nat} (h : n ≤ 1000000) : n ≤ sizeLine := Nat.le_trans h (by decide)
theorem pgs {X : Cx} {x z : Str} {k : Tok} {pos : Pos} (hg : Gl X x) (hm : X.mg x = some (.str z k)) (hd : (x == ("__debug__" : Str)) = false := by decide) : PE X (.Name x pos) (tC (.str z)) := pe_glob (v := .str z) hg hm ⟨_, rfl⟩ hd
theorem op_notInK {X : Cx} {K : PySem.W.Frag} (h : X.K = K) : OpR X (compareOp .NotIn) (rIn K true) := by
  subst h
  exact op_notIn_seq
theorem inV2 (c a b : Nat) (k1 k2 : Str) (h1 : k1 = sg a) (h2 : k2 = sg b) : inV (.str (sg c)) [.str k1, .str k2] = (decide (c = a) || decide (c = b)) := by
  subst h1 h2
  have e : ∀ d : Nat, eqV (.str (sg d)) (.str (sg c)) = decide (c = d) := fun d => by
    show (sg d == sg c) = decide (c = d)
    by_cases h : c = d
    · subst h; simp
    · rw [decide_eq_false h]
      exact beq_eq_false_iff_ne.mpr fun q => h (sgEq q).symm
  unfold inV
  rw [List.any_cons, List.any_cons, List.any_nil, e, e, Bool.or_false]
theorem at_sl {z : Str} {i c : Nat} (h : (sl z)[i]? = some c) : atI (sl z) (i : Int) = some c := atI_nat (j := i) h
/-! ### what a line's pieces are -/
/-- the place behind a plain piece -/
structure EndP (l : List Nat) (i j : Nat) : Prop where
  le : i ≤ j
  top : j ≤ l.length
  mid : ∀ k c : Nat, i ≤ k → k < j → l[k]? = some c → c ≠ 32 ∧ c ≠ 34
  stop : ∀ c : Nat, l[j]? = some c → c = 32 ∨ c = 34
inductive QR where
  | close (e : Nat)
  | over
  | bad (col : Nat)
/-- within a quoted string, from the place at -/
inductive Quo (l : List Nat) : Nat → List Nat → QR → Prop where
  | close {at_ : Nat} : l[at_]? = some 34 → Quo l at_ [] (.close at_)
  | over : Quo l l.length [] .over
  | esc {at_ c : Nat} {t : List Nat} {r : QR} : l[at_]? = some 92 → l[at_ + 1]? = some c → c = 34 ∨ c = 92 → Quo l (at_ + 2) t r → Quo l at_ (c :: t) r
  | bad {at_ c : Nat} : l[at_]? = some 92 → l[at_ + 1]? = some c → c ≠ 34 → c ≠ 92 → Quo l at_ [] (.bad (at_ + 1))
  | last {at_ : Nat} {t : List Nat} {r : QR} : l[at_]? = some 92 → at_ + 1 = l.length → Quo l (at_ + 1) t r → Quo l at_ (92 :: t) r
  | sign {at_ c : Nat} {t : List Nat} {r : QR} : l[at_]? = some c → c ≠ 34 → c ≠ 92 → Quo l (at_ + 1) t r → Quo l at_ (c :: t) r
/-- the column that an error of quoted_from names -/
def QR.col (start : Nat) : QR → Option Nat
  | .close _ => none
  | .over => some (start + 1)
  | .bad c => some c
/-- a piece: quoted?, its signs, its column -/
structure Pc where
  quo : Bool
  txt : List Nat
  col : Nat
inductive Lex (l : List Nat) : Nat → List Pc → Option Nat → Prop where
  | done : Lex l l.length [] none
  | space {at_ : Nat} {ps : List Pc} {e : Option Nat} : l[at_]? = some 32 → Lex l (at_ + 1) ps e → Lex l at_ ps e
  | quoted {at_ en : Nat} {t : List Nat} {ps : List Pc} {e : Option Nat} : l[at_]? = some 34 → Quo l (at_ + 1) t (.close en) → Lex l (en + 1) ps e → Lex l at_ (⟨true, t, at_ + 1⟩ :: ps) e
  | err {at_ col : Nat} {t : List Nat} {r : QR} : l[at_]? = some 34 → Quo l (at_ + 1) t r → r.col at_ = some col → Lex l at_ [] (some col)
  | plain {at_ j c : Nat} {ps : List Pc} {e : Option Nat} : l[at_]? = some c → c ≠ 32 → c ≠ 34 → EndP l at_ j → Lex l j ps e → Lex l at_ (⟨false, (l.drop at_).take (j - at_), at_ + 1⟩ :: ps) e
/-! ### end_of_plain -/
section
variable {P : Program} {w : World} {K : PySem.W.Frag} {mg : Str → Option Value} {base : Heap}
def spEnd : Sp := fun vs H Q _ => ∃ (z : Str) (i j : Nat), vs = [.str z, .int i] ∧ z.length ≤ 1000000 ∧ EndP (sl z) i j ∧ ∀ H', Same H H' → Q (.int (j : Nat)) H'
abbrev nsEnd : List Str := ["line", "start", "end"]
theorem scEnd : FnScope nsEnd ["line", "start"] (defScope sEndOfPlain) := ⟨rfl, rfl, rfl, by decide +kernel, rfl, by decide +kernel, by decide +kernel⟩
/-- while, by a word and a measure -/
theorem while_me {c : TT} {tb : TS} {D : Ends} {σ : L2.St} {H : Hp} (Pv : L2.St → Hp → Prop) (μ : L2.St → Hp → Nat) (h0 : Pv σ H)
    (hs : ∀ (m : Nat) (σ : L2.St) (H : Hp), Pv σ H → m = μ σ H → ∀ N : L2.St → Hp → Prop, (∀ σ' H', Pv σ' H' → μ σ' H' < m → N σ' H') →
      c σ H fun b H1 => if b = true then ∃ N2 : L2.St → Hp → Prop, (∀ σ' H', N2 σ' H' → N σ' H') ∧ tb { D with nx := N2, ct := N2, bk := D.nx } σ H1 else D.nx σ H1)
    (mono : ∀ σ H Q Q', (∀ b H1, Q b H1 → Q' b H1) → c σ H Q → c σ H Q') : tWhile c tb D σ H := by
  refine ⟨fun m σ H => m = μ σ H ∧ Pv σ H, ⟨_, rfl, h0⟩, ?_⟩
  rintro m σ H ⟨e, p⟩
  refine mono σ H _ _ (fun b H1 q => ?_) (hs m σ H p e (fun σ' H' => ∃ m', m' < m ∧ m' = μ σ' H' ∧ Pv σ' H') fun σ' H' p' l => ⟨_, l, rfl, p'⟩)
  cases b with
  | true =>
    obtain ⟨N2, h1, h2⟩ := q
    exact ⟨N2, fun σ' H' n => h1 σ' H' n, h2⟩
  | false => exact q
theorem ok_end (t : T K mg) : Ok P w K mg base 2 "end_of_plain" ["line", "start"] spEnd := by
  obtain ⟨k2, m2⟩ := t.s_QUOTE
  refine mkOk t.d_end_of_plain t.g_end_of_plain scEnd (fun vs H Q E h => ?_) (fun _ _ _ _ _ _ us hl => match us, hl with | [_, _], _ => rfl) fun cdv A outer s H vs Q E hr h => ?_
  · obtain ⟨z, i, j, rfl, _⟩ := h; rfl
  obtain ⟨z, i, j, rfl, hz, hE, k⟩ := h
  refine ⟨_, pss_cons (ps_set (i := 2) scEnd.nd rfl (Or.inl rfl) (pv 1))
    (pss_cons (ps_while PassesOwn.never (PW.pt (pw_and (pt_cmpR op_lt (pv 2) (pe_callB call_len_str rfl t.f_len boot_len (pa_cons (pv 0) pa_nil)) (nomark _))
        (pw_and1 (pt_cmpR (op_notInK (K := K) rfl) (pe_ix ix_str (pv 0) (pv 2) (fun _ _ => rfl)) (pe_tup (pa_cons pe_str (pa_cons (pgs rfl m2) pa_nil))) rfl))))
      (pss_one (ps_aug scEnd.nd rfl (Or.inl rfl) pe_int ip_add (i := 2))))
    (pss_one (ps_ret (pv 2)))), ?_⟩
  refine ⟨_, rfl, ?_⟩
  refine ⟨fun m σ' H' => ∃ q : Nat, σ' = [some (.str z), some (.int i), some (.int (q : Nat))] ∧ m = j - q ∧ i ≤ q ∧ q ≤ j ∧ Same H H', ⟨j - i, i, rfl, rfl, Nat.le_refl _, hE.le, Same.refl _⟩, ?_⟩
  rintro m σ' H' ⟨q, rfl, rfl, q1, q2, sm⟩
  have jl : j ≤ z.length := by rw [sl_len]; exact hE.top
  refine ⟨_, rfl, _, rfl, z, rfl, big6 hz, _, _, rfl, rfl, _, rfl, ?_⟩
  refine ite2 (fun h1 => ?_) (fun h1 => ?_)
  · have ql : q < z.length := by
      have := of_decide_eq_true h1
      omega
    have hq : (sl z)[q]? = some ((sl z)[q]'(by rw [← sl_len]; exact ql)) := List.getElem?_eq_getElem _
    generalize (sl z)[q]'(by rw [← sl_len]; exact ql) = c at hq
    refine ⟨_, rfl, _, rfl, z, (q : Nat), c, rfl, rfl, big6 hz, at_sl hq, ?_⟩
    refine ⟨(by show 2 ≤ sizeLine; decide), fun p hp => ⟨p, _, rfl, .inr (SqT.of upd_same), rfl, rfl, _, rfl, ?_⟩⟩
    have e := inV2 c 32 34 (Str.ofString " ") (Str.ofString "\"") (by decide +kernel) (by decide +kernel)
    have sm2 := Same.put (o := HO.tup [V.str (Str.ofString " "), V.str (Str.ofString "\"")]) sm (sm.free hp)
    refine ite2 (fun h2 => ?_) (fun h2 => ?_)
    · have h2' : (!inV (V.str (sg c)) [V.str (Str.ofString " "), V.str (Str.ofString "\"")]) = true := h2
      rw [e] at h2'
      have cn : c ≠ 32 ∧ c ≠ 34 := by
        simp at h2'
        exact h2'
      have qj : q ≠ j := fun z => by
        subst z
        rcases hE.stop c hq with n | n
        · exact cn.1 n
        · exact cn.2 n
      refine ⟨fun σ2 H2 => ∃ r : Nat, σ2 = [some (.str z), some (.int i), some (.int (r : Nat))] ∧ r = q + 1 ∧ Same H H2, fun σ2 H2 ⟨r, e1, e2, e3⟩ => ⟨_, (by omega), r, e1, rfl, by omega, by omega, e3⟩, ?_⟩
      exact ⟨_, rfl, _, _, rfl, rfl, q + 1, rfl, rfl, sm2⟩
    · have h2' : ¬ (!inV (V.str (sg c)) [V.str (Str.ofString " "), V.str (Str.ofString "\"")]) = true := h2
      rw [e] at h2'
      have cn : c = 32 ∨ c = 34 := by
        simp at h2'
        by_cases n : c = 32
        · exact .inl n
        · exact .inr (h2' n)
      have qj : q = j := by
        by_cases n : q < j
        · have := hE.mid q c q1 n hq
          rcases cn with m | m
          · exact absurd m this.1
          · exact absurd m this.2
        · omega
      subst qj
      exact ⟨_, rfl, k _ sm2⟩
  · have h1' : ¬ ((q : Int) < (z.length : Int)) := of_decide_eq_false (by simpa using h1)
    have qj : q = j := by omega
    subst qj
    exact ⟨_, rfl, k _ sm⟩
end
end Sx

set_option Elab.async false
set_option linter.all false
set_option maxRecDepth 100000
set_option maxHeartbeats 1000000
namespace Sx
open PySem PySem.Spec PyProof.Rows L2 SxK
section
variable {P : Program} {w : World} {K : PySem.W.Frag} {mg : Str → Option Value} {base : Heap}
/-! ### quoted_from -/
def spQuo (K : PySem.W.Frag) : Sp := fun vs H Q E => ∃ (z : Str) (n : Int) (i : Nat) (t : List Nat) (r : QR), vs = [.str z, .int n, .int i] ∧ (0 ≤ n ∧ n < 10 ^ 10) ∧ z.length ≤ 1000000 ∧ i < z.length ∧ Quo (sl z) (i + 1) t r ∧
  (∀ e, r = .close e → ∀ (H' : Hp) (T : Addr) (x : Str), Same H H' → H' T = some (.tup [.str x, .int ((e : Int) + 1)]) → sl x = t → Q (.ref T) H') ∧ ∀ col : Nat, r.col i = some col → Er K E H n col "quoted"
abbrev nsQuo : List Str := ["line", "number", "start", "signs", "at"]
theorem scQuo : FnScope nsQuo ["line", "number", "start"] (defScope sQuotedFrom) := ⟨rfl, rfl, rfl, by decide +kernel, rfl, by decide +kernel, by decide +kernel⟩
theorem quo_le {l : List Nat} {i : Nat} {t : List Nat} {r : QR} (h : Quo l i t r) : i ≤ l.length ∧ t.length ≤ l.length - i := by
  have lt : ∀ {j c : Nat}, l[j]? = some c → j < l.length := fun h => (List.getElem?_eq_some_iff.mp h).1
  induction h with
  | close h => exact ⟨Nat.le_of_lt (lt h), Nat.zero_le _⟩
  | over => exact ⟨Nat.le_refl _, Nat.zero_le _⟩
  | esc h1 h2 _ _ ih => have := lt h1; have := lt h2; rw [List.length_cons]; omega
  | bad h1 h2 _ _ => exact ⟨Nat.le_of_lt (lt h1), Nat.zero_le _⟩
  | last h1 h2 _ ih => have := lt h1; rw [List.length_cons]; omega
  | sign h1 _ _ _ ih => have := lt h1; rw [List.length_cons]; omega
theorem quo_step {l : List Nat} {q c : Nat} {rest : List Nat} {r : QR} (h : Quo l q rest r) (hq : l[q]? = some c) (c34 : c ≠ 34) :
    (c = 92 ∧ ∃ d, l[q + 1]? = some d ∧ (d = 34 ∨ d = 92) ∧ ∃ rest', rest = d :: rest' ∧ Quo l (q + 2) rest' r) ∨ (c = 92 ∧ ∃ d, l[q + 1]? = some d ∧ d ≠ 34 ∧ d ≠ 92 ∧ r = .bad (q + 1)) ∨
    (c = 92 ∧ q + 1 = l.length ∧ ∃ rest', rest = 92 :: rest' ∧ Quo l (q + 1) rest' r) ∨ (c ≠ 92 ∧ ∃ rest', rest = c :: rest' ∧ Quo l (q + 1) rest' r) := by
  cases h with
  | close h => rw [h] at hq; exact absurd (Option.some.inj hq).symm c34
  | over => rw [List.getElem?_eq_none (Nat.le_refl _)] at hq; cases hq
  | esc h1 h2 h3 h4 => rw [h1] at hq; exact .inl ⟨(Option.some.inj hq).symm, _, h2, h3, _, rfl, h4⟩
  | bad h1 h2 h3 h4 => rw [h1] at hq; exact .inr (.inl ⟨(Option.some.inj hq).symm, _, h2, h3, h4, rfl⟩)
  | last h1 h2 h3 => rw [h1] at hq; exact .inr (.inr (.inl ⟨(Option.some.inj hq).symm, h2, _, rfl, h3⟩))
  | sign h1 h2 h3 h4 => rw [h1] at hq; cases hq; exact .inr (.inr (.inr ⟨h3, _, rfl, h4⟩))
theorem quo_end {l : List Nat} {q : Nat} {rest : List Nat} {r : QR} (h : Quo l q rest r) (he : q = l.length ∨ l[q]? = some 34) : rest = [] ∧ ((q = l.length ∧ r = .over) ∨ (l[q]? = some 34 ∧ r = .close q)) := by
  have no : ∀ {c : Nat}, l[q]? = some c → c ≠ 34 → False := fun {c} h1 h2 => by
    rcases he with e | e
    · rw [List.getElem?_eq_none (by omega)] at h1; cases h1
    · rw [e] at h1; exact h2 (Option.some.inj h1).symm
  cases h with
  | close h => exact ⟨rfl, .inr ⟨h, rfl⟩⟩
  | over => exact ⟨rfl, .inl ⟨rfl, rfl⟩⟩
  | esc h1 h2 h3 h4 => exact (no h1 (by decide)).elim
  | bad h1 h2 h3 h4 => exact (no h1 (by decide)).elim
  | last h1 h2 h3 => exact (no h1 (by decide)).elim
  | sign h1 h2 h3 h4 => exact (no h1 h2).elim
theorem len_join (acc : List Nat) : ((acc.map sg).map (·.length)).sum = acc.length := by
  induction acc with
  | nil => rfl
  | cons c r ih => rw [List.map_cons, List.map_cons, List.sum_cons, ih, List.length_cons]; show 1 + _ = _; omega
theorem ok_quo (t : T K mg) (er : ErrC P K mg xTextError) : OkX P w K mg base 4 "quoted_from" ["line", "number", "start"] (spQuo K) := by
  obtain ⟨k2, m2⟩ := t.s_QUOTE
  obtain ⟨k3, m3⟩ := t.s_BACKSLASH
  refine mkOkX t.d_quoted_from t.g_quoted_from scQuo (fun vs H Q E h => ?_) (fun _ _ _ _ _ _ us hl => match us, hl with | [_, _, _], _ => rfl) fun cdv A outer s H vs Q E hr h => ?_
  · obtain ⟨z, n, i, tx, r, rfl, _⟩ := h; rfl
  obtain ⟨z, n, i, tx, r, rfl, hn, hz, hi, hQ, kq, ke⟩ := h
  refine ⟨_, pss_cons (ps_set (i := 3) scQuo.nd rfl (Or.inl rfl) (pe_lst pa_nil))
    (pss_cons (ps_set (i := 4) scQuo.nd rfl (Or.inl rfl) (pe_op op_add (pv 2) pe_int))
    (pss_cons (ps_while (passes_of rfl) (PW.pt (pw_and (pt_cmpR op_lt (pv 4) (pe_callB call_len_str rfl t.f_len boot_len (pa_cons (pv 0) pa_nil)) (nomark _))
        (pw_and1 (pt_cmpR op_ne (pe_ix ix_str (pv 0) (pv 4) (fun _ _ => rfl)) (pgs rfl m2) rfl))))
      (C8.pss_cut (ps_if (PW.pt (pw_and (pt_cmpR op_eq (pe_ix ix_str (pv 0) (pv 4) (fun _ _ => rfl)) (pgs rfl m3) rfl)
            (pw_and1 (pt_cmpR op_lt (pe_op op_add (pv 4) pe_int) (pe_callB call_len_str rfl t.f_len boot_len (pa_cons (pv 0) pa_nil)) (nomark _)))))
          (pss_cons (ps_if (pt_cmpR (op_notInK (K := K) rfl) (pe_ix ix_str (pv 0) (pe_op op_add (pv 4) pe_int) (fun _ _ => rfl)) (pe_tup (pa_cons (pgs rfl m2) (pa_cons (pgs rfl m3) pa_nil))) rfl)
              (pss_one (ps_raise rfl (takes_of rfl rfl rfl rfl) (pmk_text (k := 0) t er hr rfl (pa_cons (pv 1) (pa_cons (pe_op op_add (pv 4) pe_int) (pa_cons pe_str pa_nil)))))) pss_nil)
            (pss_one (ps_aug scQuo.nd rfl (Or.inl rfl) pe_int ip_add (i := 4)))) pss_nil)
        (pss_cons (ps_expr (pe_bm PySem.F.plainAttrs_list PySem.F.slot_list_append PySem.F.type_list_append mt_append (pv 3) (pa_cons (pe_ix ix_str (pv 0) (pv 4) (fun _ _ => rfl)) pa_nil)))
          (pss_one (ps_aug scQuo.nd rfl (Or.inl rfl) pe_int ip_add (i := 4))))))
    (pss_cons (ps_if (pt_cmpR op_eq (pv 4) (pe_callB call_len_str rfl t.f_len boot_len (pa_cons (pv 0) pa_nil)) (nomark _))
        (pss_one (ps_raise rfl (takes_of rfl rfl rfl rfl) (pmk_text (k := 0) t er hr rfl (pa_cons (pv 1) (pa_cons (pe_op op_add (pv 2) pe_int) (pa_cons pe_str pa_nil)))))) pss_nil)
    (pss_one (ps_ret (pe_tup (pa_cons (pe_join pe_str (pv 3)) (pa_cons (pe_op op_add (pv 4) pe_int) pa_nil)))))))), ?_⟩
  refine ⟨(by show 0 ≤ sizeLine; decide), fun L hL => ?_⟩
  refine ⟨_, rfl, _, _, rfl, rfl, ?_⟩
  have hzl : z.length = (sl z).length := sl_len z
  have eq1 : Str.ofString "\"" = sg 34 := by decide +kernel
  have eq2 : Str.ofString "\\" = sg 92 := by decide +kernel
  refine ⟨fun m σ' H' => ∃ (q : Nat) (acc rest : List Nat), σ' = [some (.str z), some (.int n), some (.int (i : Nat)), some (.ref L), some (.int (q : Nat))] ∧ m = z.length - q ∧ H' L = some (.lst (acc.map fun c => V.str (sg c))) ∧ Quo (sl z) q rest r ∧ tx = acc ++ rest ∧ Same H H',
    ⟨z.length - (i + 1), i + 1, [], tx, rfl, rfl, upd_same, hQ, rfl, Same.new hL⟩, ?_⟩
  rintro m σ' H' ⟨q, acc, rest, rfl, rfl, hA, hR, et, sm⟩
  have qle := (quo_le hR).1
  refine ⟨_, rfl, _, rfl, z, rfl, big6 hz, _, _, rfl, rfl, _, rfl, ?_⟩
  refine ite2 (fun h1 => ?_) (fun h1 => ?_)
  · have ql : q < (sl z).length := by
      have := of_decide_eq_true h1
      omega
    have hq : (sl z)[q]? = some ((sl z)[q]'ql) := List.getElem?_eq_getElem _
    generalize (sl z)[q]'ql = c at hq
    refine ⟨_, rfl, _, rfl, z, (q : Nat), c, rfl, rfl, big6 hz, at_sl hq, rfl, _, rfl, ?_⟩
    refine ite2 (fun h2 => ?_) (fun h2 => ?_)
    · have c34 : c ≠ 34 := fun x => by
        subst x
        rw [eq1] at h2
        simp at h2
      have upTo := quo_step hR hq c34
      refine ⟨fun σ2 H2 => ∃ (q2 : Nat) (acc2 rest2 : List Nat), σ2 = [some (.str z), some (.int n), some (.int (i : Nat)), some (.ref L), some (.int (q2 : Nat))] ∧ q < q2 ∧ H2 L = some (.lst (acc2.map fun c => V.str (sg c))) ∧ Quo (sl z) q2 rest2 r ∧ tx = acc2 ++ rest2 ∧ Same H H2,
        fun σ2 H2 ⟨q2, acc2, rest2, e1, lt, a1, a2, a3, a4⟩ => ⟨z.length - q2, by omega, q2, acc2, rest2, e1, rfl, a1, a2, a3, a4⟩, ?_⟩
      refine ⟨fun σ2 H2 => ∃ (q2 d : Nat) (rest2 : List Nat), σ2 = [some (.str z), some (.int n), some (.int (i : Nat)), some (.ref L), some (.int (q2 : Nat))] ∧ q ≤ q2 ∧ (sl z)[q2]? = some d ∧ rest = d :: rest2 ∧ Quo (sl z) (q2 + 1) rest2 r ∧ H2 L = some (.lst (acc.map fun c => V.str (sg c))) ∧ Same H H2, ?_, ?_⟩
      · refine ⟨_, rfl, _, rfl, z, (q : Nat), c, rfl, rfl, big6 hz, at_sl hq, rfl, _, rfl, ?_⟩
        refine ite2 (fun h3 => ?_) (fun h3 => ?_)
        · have c92 : c = 92 := by
            rw [eq2] at h3
            simp at h3
            exact h3
          subst c92
          refine ⟨_, rfl, _, _, rfl, rfl, _, rfl, z, rfl, big6 hz, _, _, rfl, rfl, _, rfl, ?_⟩
          refine ite2 (fun h4 => ?_) (fun h4 => ?_)
          · have q1l : q + 1 < (sl z).length := by
              have := of_decide_eq_true h4
              omega
            have hq1 : (sl z)[q + 1]? = some ((sl z)[q + 1]'q1l) := List.getElem?_eq_getElem _
            generalize (sl z)[q + 1]'q1l = d at hq1
            refine ⟨_, rfl, _, rfl, _, _, rfl, rfl, z, ((q + 1 : Nat) : Int), d, rfl, rfl, big6 hz, at_sl hq1, ?_⟩
            refine ⟨(by show 2 ≤ sizeLine; decide), fun p hp => ⟨p, _, rfl, .inr (SqT.of upd_same), rfl, rfl, _, rfl, ?_⟩⟩
            have e := inV2 d 34 92 (Str.ofString "\"") (Str.ofString "\\") eq1 eq2
            have sm2 := Same.put (o := HO.tup [V.str (Str.ofString "\""), V.str (Str.ofString "\\")]) sm (sm.free hp)
            have lp : L ≠ p := ne_of_none hA hp
            refine ite2 (fun h5 => ?_) (fun h5 => ?_)
            · have h5' : (!inV (V.str (sg d)) [V.str (Str.ofString "\""), V.str (Str.ofString "\\")]) = true := h5
              rw [e] at h5'
              have dn : d ≠ 34 ∧ d ≠ 92 := by
                simp at h5'
                exact h5'
              have rr : r = .bad (q + 1) := by
                rcases upTo with ⟨_, d2, x1, x2, _⟩ | ⟨_, d2, x1, _, _, x2⟩ | ⟨_, x1, _⟩ | ⟨x1, _⟩
                · rw [x1] at hq1
                  cases hq1
                  rcases x2 with x2 | x2
                  · exact absurd x2 dn.1
                  · exact absurd x2 dn.2
                · exact x2
                · omega
                · exact absurd rfl x1
              subst rr
              exact ⟨_, rfl, _, rfl, _, _, rfl, rfl, mk_err hn (by constructor <;> omega) (by decide +kernel) ((ke (q + 1) rfl).same sm2)⟩
            · have h5' : ¬ (!inV (V.str (sg d)) [V.str (Str.ofString "\""), V.str (Str.ofString "\\")]) = true := h5
              rw [e] at h5'
              have dn : d = 34 ∨ d = 92 := by
                simp at h5'
                by_cases n : d = 34
                · exact .inl n
                · exact .inr (h5' n)
              rcases upTo with ⟨_, d2, x1, x2, rest2, x3, x4⟩ | ⟨_, d2, x1, x3, x4, _⟩ | ⟨_, x1, _⟩ | ⟨x1, _⟩
              · rw [x1] at hq1
                cases hq1
                exact ⟨_, rfl, _, _, rfl, rfl, q + 1, d, rest2, rfl, by omega, x1, x3, x4, by rw [upd_ne lp]; exact hA, sm2⟩
              · rw [x1] at hq1
                cases hq1
                rcases dn with n | n
                · exact absurd n x3
                · exact absurd n x4
              · omega
              · exact absurd rfl x1
          · have q1l : ¬ (q + 1 < (sl z).length) := fun x => h4 (decide_eq_true (by omega))
            rcases upTo with ⟨_, d2, x1, _⟩ | ⟨_, d2, x1, _⟩ | ⟨_, x1, rest2, x3, x4⟩ | ⟨x1, _⟩
            · exact absurd (List.getElem?_eq_some_iff.mp x1).1 q1l
            · exact absurd (List.getElem?_eq_some_iff.mp x1).1 q1l
            · exact ⟨q, 92, rest2, rfl, Nat.le_refl _, hq, x3, x4, hA, sm⟩
            · exact absurd rfl x1
        · have c92 : c ≠ 92 := fun x => by
            subst x
            rw [eq2] at h3
            simp at h3
          rcases upTo with ⟨x, _⟩ | ⟨x, _⟩ | ⟨x, _⟩ | ⟨_, rest2, x3, x4⟩
          · exact absurd x c92
          · exact absurd x c92
          · exact absurd x c92
          · exact iteF ⟨q, c, rest2, rfl, Nat.le_refl _, hq, x3, x4, hA, sm⟩
      · rintro σ2 H2 ⟨q2, d, rest2, rfl, lt, hd, x3, x4, hA2, sm2⟩
        refine ⟨_, rfl, .inl ⟨rfl, _, SqL.of hA2⟩, _, rfl, _, rfl, z, (q2 : Nat), d, rfl, rfl, big6 hz, at_sl hd, ?_⟩
        refine ⟨L, _, _, rfl, rfl, hA2, ?_, ?_⟩
        · rw [List.length_map]
          have := (quo_le hQ).2
          rw [et, List.length_append] at this
          exact Nat.lt_of_le_of_lt (show acc.length ≤ 1000000 by omega) (by decide)
        · refine ⟨_, rfl, _, _, rfl, rfl, q2 + 1, acc ++ [d], rest2, rfl, by omega, ?_, x4, ?_, Same.put sm2 hL⟩
          · rw [upd_same, List.map_append]
            rfl
          · rw [et, x3, List.append_assoc]
            rfl
    · have c34 : c = 34 := by
        rw [eq1] at h2
        simp at h2
        exact h2
      subst c34
      obtain ⟨er0, hend⟩ := quo_end hR (.inr hq)
      subst er0
      rw [List.append_nil] at et
      refine ⟨_, rfl, _, rfl, z, rfl, big6 hz, rfl, _, rfl, ?_⟩
      refine ite2 (fun h3 => ?_) (fun h3 => ?_)
      · have e3 := of_decide_eq_true h3
        have e4 : (q : Int) = (z.length : Int) := V.int.inj e3
        have rr : r = .over := by
          rcases hend with ⟨_, x⟩ | ⟨x, _⟩
          · exact x
          · have := (List.getElem?_eq_some_iff.mp x).1
            omega
        subst rr
        exact ⟨_, rfl, _, rfl, _, _, rfl, rfl, mk_err hn (by constructor <;> omega) (by decide +kernel) ((ke (i + 1) rfl).same sm)⟩
      · have rr : r = .close q := by
          rcases hend with ⟨x, _⟩ | ⟨_, x⟩
          · refine absurd ?_ h3
            rw [x, ← hzl]
            exact decide_eq_true rfl
          · exact x
        subst rr
        refine ⟨⟨_, rfl⟩, _, rfl, _, L, acc.map sg, rfl, rfl, .inl (SqL.of (by rw [hA, List.map_map]; rfl)), ?_, ?_⟩
        · rw [len_join acc]
          have := (quo_le hQ).2
          rw [et] at this
          have e0 : (Str.ofString "").length = 0 := by decide +kernel
          rw [e0]
          omega
        · exact ⟨_, rfl, _, _, rfl, rfl, (by show 2 ≤ sizeLine; decide), fun T hT => kq q rfl _ T _ (Same.put sm (sm.free hT)) upd_same (by rw [join_sg]; exact et.symm)⟩
  · have h1' : ¬ ((q : Int) < (z.length : Int)) := of_decide_eq_false (by simpa using h1)
    obtain ⟨er0, hend⟩ := quo_end hR (.inl (by omega))
    subst er0
    rw [List.append_nil] at et
    refine ⟨_, rfl, _, rfl, z, rfl, big6 hz, rfl, _, rfl, ?_⟩
    refine ite2 (fun h3 => ?_) (fun h3 => ?_)
    · have e3 := of_decide_eq_true h3
      have e4 : (q : Int) = (z.length : Int) := V.int.inj e3
      have rr : r = .over := by
        rcases hend with ⟨_, x⟩ | ⟨x, _⟩
        · exact x
        · have := (List.getElem?_eq_some_iff.mp x).1
          omega
      subst rr
      exact ⟨_, rfl, _, rfl, _, _, rfl, rfl, mk_err hn (by constructor <;> omega) (by decide +kernel) ((ke (i + 1) rfl).same sm)⟩
    · have rr : r = .close q := by
        rcases hend with ⟨x, _⟩ | ⟨_, x⟩
        · refine absurd ?_ h3
          rw [x, ← hzl]
          exact decide_eq_true rfl
        · exact x
      subst rr
      refine ⟨⟨_, rfl⟩, _, rfl, _, L, acc.map sg, rfl, rfl, .inl (SqL.of (by rw [hA, List.map_map]; rfl)), ?_, ?_⟩
      · rw [len_join acc]
        have := (quo_le hQ).2
        rw [et] at this
        have e0 : (Str.ofString "").length = 0 := by decide +kernel
        rw [e0]
        omega
      · exact ⟨_, rfl, _, _, rfl, rfl, (by show 2 ≤ sizeLine; decide), fun T hT => kq q rfl _ T _ (Same.put sm (sm.free hT)) upd_same (by rw [join_sg]; exact et.symm)⟩
end
end Sx

set_option Elab.async false
set_option linter.all false
set_option maxRecDepth 100000
set_option maxHeartbeats 1000000
namespace Sx
open PySem PySem.Spec PyProof.Rows L2 SxK
/-! ### pieces -/
def kindS (b : Bool) : Str := if b = true then "quoted" else "plain"
def pcS (l : List Nat) : Str := ⟨l.toArray⟩
theorem sl_pcS (l : List Nat) : sl (pcS l) = l := by simp [pcS]
theorem pcS_of {x : Str} {l : List Nat} (h : sl x = l) : x = pcS l := sl_ext (by rw [sl_pcS]; exact h)
def PcV (H : Hp) (v : V) (pc : Pc) : Prop := ∃ T, v = .ref T ∧ H T = some (.tup [.str (kindS pc.quo), .str (pcS pc.txt), .int (pc.col : Nat)])
inductive PcsV (H : Hp) : List V → List Pc → Prop where
  | nil : PcsV H [] []
  | cons {v : V} {vs : List V} {p : Pc} {ps : List Pc} : PcV H v p → PcsV H vs ps → PcsV H (v :: vs) (p :: ps)
theorem PcsV.map {H H' : Hp} {vs : List V} {ps : List Pc} (h : PcsV H vs ps) (k : ∀ T xs, H T = some (.tup xs) → H' T = some (.tup xs)) : PcsV H' vs ps := by
  induction h with
  | nil => exact .nil
  | cons a _ ih =>
    obtain ⟨T, e, hT⟩ := a
    exact .cons ⟨T, e, k _ _ hT⟩ ih
theorem PcsV.snoc {H : Hp} {vs : List V} {ps : List Pc} {v : V} {p : Pc} (h : PcsV H vs ps) (hv : PcV H v p) : PcsV H (vs ++ [v]) (ps ++ [p]) := by
  induction h with
  | nil => exact .cons hv .nil
  | cons a _ ih => exact .cons a ih
theorem PcsV.len {H : Hp} {vs : List V} {ps : List Pc} (h : PcsV H vs ps) : vs.length = ps.length := by
  induction h with
  | nil => rfl
  | cons a _ ih => rw [List.length_cons, List.length_cons, ih]
def PcsAt (H : Hp) (p : Addr) (ps : List Pc) : Prop := ∃ vs, H p = some (.lst vs) ∧ PcsV H vs ps
theorem PcsAt.same {H H' : Hp} {p : Addr} {ps : List Pc} (h : PcsAt H p ps) (s : Same H H') : PcsAt H' p ps := by
  obtain ⟨vs, h1, h2⟩ := h
  exact ⟨vs, s _ _ h1, h2.map fun T xs => s T _⟩
theorem PcsAt.add {H : Hp} {p T : Addr} {vs : List V} {ps : List Pc} {pc : Pc} (h : PcsV H vs ps) (hp : H p = some (.lst vs)) (hT : H T = some (.tup [.str (kindS pc.quo), .str (pcS pc.txt), .int (pc.col : Nat)])) : PcsAt (upd H p (.lst (vs ++ [.ref T]))) p (ps ++ [pc]) := by
  have off : ∀ (U : Addr) (xs : List V), H U = some (.tup xs) → upd H p (.lst (vs ++ [.ref T])) U = some (.tup xs) := fun U xs hU => by
    have ne : U ≠ p := fun z => by rw [z, hp] at hU; cases hU
    rw [upd_ne ne]
    exact hU
  exact ⟨_, upd_same, (h.map off).snoc ⟨T, rfl, off _ _ hT⟩⟩
theorem quo_close {l : List Nat} {i e : Nat} {t : List Nat} {r : QR} (h : Quo l i t r) (hr : r = .close e) : i ≤ e ∧ e < l.length := by
  induction h with
  | close h => cases hr; exact ⟨Nat.le_refl _, (List.getElem?_eq_some_iff.mp h).1⟩
  | over => cases hr
  | esc _ _ _ _ ih => have := ih hr; exact ⟨by omega, this.2⟩
  | bad => cases hr
  | last _ _ _ ih => have := ih hr; exact ⟨by omega, this.2⟩
  | sign _ _ _ _ ih => have := ih hr; exact ⟨by omega, this.2⟩
theorem lex_le {l : List Nat} {i : Nat} {ps : List Pc} {e : Option Nat} (h : Lex l i ps e) : i ≤ l.length ∧ ps.length ≤ l.length - i := by
  have lt : ∀ {j c : Nat}, l[j]? = some c → j < l.length := fun h => (List.getElem?_eq_some_iff.mp h).1
  induction h with
  | done => exact ⟨Nat.le_refl _, Nat.zero_le _⟩
  | space h _ ih => have := lt h; omega
  | quoted h hq _ ih => have := lt h; have := quo_close hq rfl; rw [List.length_cons]; omega
  | err h _ _ => exact ⟨Nat.le_of_lt (lt h), Nat.zero_le _⟩
  | @plain a j c ps e h n1 n2 hE _ ih =>
    have := lt h
    have := hE.le
    have ne : j ≠ a := fun z => by
      subst z
      rcases hE.stop _ h with x | x
      · exact n1 x
      · exact n2 x
    rw [List.length_cons]
    omega
theorem lex_step {l : List Nat} {q c : Nat} {ps : List Pc} {e : Option Nat} (h : Lex l q ps e) (hq : l[q]? = some c) :
    (c = 32 ∧ Lex l (q + 1) ps e) ∨ (c = 34 ∧ ∃ t en ps', ps = ⟨true, t, q + 1⟩ :: ps' ∧ Quo l (q + 1) t (.close en) ∧ Lex l (en + 1) ps' e) ∨ (c = 34 ∧ ∃ t r col, ps = [] ∧ e = some col ∧ Quo l (q + 1) t r ∧ r.col q = some col) ∨
    (c ≠ 32 ∧ c ≠ 34 ∧ ∃ j ps', ps = ⟨false, (l.drop q).take (j - q), q + 1⟩ :: ps' ∧ EndP l q j ∧ Lex l j ps' e) := by
  cases h with
  | done => rw [List.getElem?_eq_none (Nat.le_refl _)] at hq; cases hq
  | space h1 h2 => rw [h1] at hq; exact .inl ⟨(Option.some.inj hq).symm, h2⟩
  | quoted h1 h2 h3 => rw [h1] at hq; exact .inr (.inl ⟨(Option.some.inj hq).symm, _, _, _, rfl, h2, h3⟩)
  | err h1 h2 h3 => rw [h1] at hq; exact .inr (.inr (.inl ⟨(Option.some.inj hq).symm, _, _, _, rfl, rfl, h2, h3⟩))
  | plain h1 h2 h3 h4 h5 => rw [h1] at hq; cases hq; exact .inr (.inr (.inr ⟨h2, h3, _, _, rfl, h4, h5⟩))
theorem lex_end {l : List Nat} {ps : List Pc} {e : Option Nat} {q : Nat} (h : Lex l q ps e) (he : q = l.length) : ps = [] ∧ e = none := by
  have no : ∀ {c : Nat}, l[q]? = some c → False := fun {c} h1 => by rw [List.getElem?_eq_none (by omega)] at h1; cases h1
  cases h with
  | done => exact ⟨rfl, rfl⟩
  | space h1 _ => exact (no h1).elim
  | quoted h1 _ _ => exact (no h1).elim
  | err h1 _ _ => exact (no h1).elim
  | plain h1 _ _ _ _ => exact (no h1).elim
theorem cut_at (z : Str) (i j : Nat) (hi : i ≤ z.length) (hj : j ≤ z.length) : cutS z (some (i : Int)) (some (j : Int)) = pcS (((sl z).drop i).take (j - i)) := by
  have e : ∀ (k d : Nat), k ≤ z.length → HT.sIx z.length d (some (k : Int)) = k := fun k d hk => by
    unfold HT.sIx
    have n0 : ¬ ((k : Int) < 0) := by omega
    simp only [n0, if_false, Int.toNat_natCast]
    omega
  unfold cutS pcS
  rw [e i 0 hi, e j z.length hj]
section
variable {P : Program} {w : World} {K : PySem.W.Frag} {mg : Str → Option Value} {base : Heap}
def spPcs (K : PySem.W.Frag) : Sp := fun vs H Q E => ∃ (z : Str) (n : Int), vs = [.str z, .int n] ∧ (0 ≤ n ∧ n < 10 ^ 10) ∧ z.length ≤ 1000000 ∧
  ((∃ i c : Nat, (sl z)[i]? = some c ∧ signB c = false ∧ (∀ j b : Nat, j < i → (sl z)[j]? = some b → signB b = true) ∧ Er K E H n ((i : Int) + 1) "sign") ∨
   ((∀ c ∈ sl z, signB c = true) ∧ ∃ ps eo, Lex (sl z) 0 ps eo ∧ (eo = none → ∀ H' p, Same H H' → PcsAt H' p ps → Q (.ref p) H') ∧ ∀ col : Nat, eo = some col → Er K E H n col "quoted"))
abbrev nsPcs : List Str := ["line", "number", "found", "at", "text", "end"]
theorem scPcs : FnScope nsPcs ["line", "number"] (defScope sPieces) := ⟨rfl, rfl, rfl, by decide +kernel, rfl, by decide +kernel, by decide +kernel⟩
theorem ok_pieces (t : T K mg) (er : ErrC P K mg xTextError) : OkX P w K mg base 5 "pieces" ["line", "number"] (spPcs K) := by
  obtain ⟨k2, m2⟩ := t.s_QUOTE
  refine mkOkX t.d_pieces t.g_pieces scPcs (fun vs H Q E h => ?_) (fun _ _ _ _ _ _ us hl => match us, hl with | [_, _], _ => rfl) fun cdv A outer s H vs Q E hr h => ?_
  · obtain ⟨z, n, rfl, _⟩ := h; rfl
  obtain ⟨z, n, rfl, hn, hz, hc⟩ := h
  refine ⟨_, pss_cons (ps_expr (pe_okX (ok_check t er) hr rfl (takes_of rfl rfl rfl rfl) (pa_cons (pv 0) (pa_cons (pv 1) pa_nil))))
    (pss_cons (ps_set (i := 2) scPcs.nd rfl (Or.inl rfl) (pe_lst pa_nil))
    (pss_cons (ps_set (i := 3) scPcs.nd rfl (Or.inl rfl) pe_int)
    (pss_cons (ps_while (passes_of rfl) (pt_cmpR op_lt (pv 3) (pe_callB call_len_str rfl t.f_len boot_len (pa_cons (pv 0) pa_nil)) (nomark _))
      (pss_one (ps_if (pt_cmpR op_eq (pe_ix ix_str (pv 0) (pv 3) (fun _ _ => rfl)) pe_str (nomark _))
        (pss_one (ps_aug scPcs.nd rfl (Or.inl rfl) pe_int ip_add (i := 3)))
        (pss_one (ps_if (pt_cmpR op_eq (pe_ix ix_str (pv 0) (pv 3) (fun _ _ => rfl)) (pgs rfl m2) rfl)
          (pss_cons (ps_asg (pe_okX (ok_quo t er) hr rfl (takes_of rfl rfl rfl rfl) (pa_cons (pv 0) (pa_cons (pv 1) (pa_cons (pv 3) pa_nil)))) (pg_tup rfl (pgs_cons (pg_name (i := 4) scPcs.nd rfl (Or.inl rfl)) (pgs_cons (pg_name (i := 5) scPcs.nd rfl (Or.inl rfl)) pgs_nil))))
            (pss_cons (ps_expr (pe_bm PySem.F.plainAttrs_list PySem.F.slot_list_append PySem.F.type_list_append mt_append (pv 2) (pa_cons (pe_tup (pa_cons pe_str (pa_cons (pv 4) (pa_cons (pe_op op_add (pv 3) pe_int) pa_nil)))) pa_nil)))
              (pss_one (ps_set (i := 3) scPcs.nd rfl (Or.inl rfl) (pv 5)))))
          (pss_cons (ps_set (i := 5) scPcs.nd rfl (Or.inl rfl) (pe_ok (ok_end t) (hr.mono (by decide)) rfl (pa_cons (pv 0) (pa_cons (pv 3) pa_nil))))
            (pss_cons (ps_expr (pe_bm PySem.F.plainAttrs_list PySem.F.slot_list_append PySem.F.type_list_append mt_append (pv 2) (pa_cons (pe_tup (pa_cons pe_str (pa_cons (pe_slice sl_str (pv 0) (po_some (pv 3)) (po_some (pv 5))) (pa_cons (pe_op op_add (pv 3) pe_int) pa_nil)))) pa_nil)))
              (pss_one (ps_set (i := 3) scPcs.nd rfl (Or.inl rfl) (pv 5))))))))))
    (pss_one (ps_ret (pv 2)))))), ?_⟩
  have hzl : z.length = (sl z).length := sl_len z
  have eq0 : Str.ofString " " = sg 32 := by decide +kernel
  have eq1 : Str.ofString "\"" = sg 34 := by decide +kernel
  rcases hc with ⟨i, c, hi, hb, good, ke⟩ | ⟨good, ps, eo, hL, kq, ke⟩
  · refine ⟨_, rfl, _, rfl, z, n, rfl, hn, hz, fun all => ?_, fun i2 c2 hi2 hb2 good2 => ?_⟩
    · have := all c (List.mem_of_getElem? hi)
      rw [hb] at this
      cases this
    · have e : i2 = i := by
        rcases Nat.lt_trichotomy i2 i with x | x | x
        · have := good i2 c2 x hi2
          rw [hb2] at this
          cases this
        · exact x
        · have := good2 i c x hi
          rw [hb] at this
          cases this
      subst e
      exact ke
  refine ⟨_, rfl, _, rfl, z, n, rfl, hn, hz, fun _ H1 sm1 => ?_, fun i2 c2 hi2 hb2 good2 => ?_⟩
  · refine ⟨(by show 0 ≤ sizeLine; decide), fun p hp => ?_⟩
    have hp0 : H p = none := sm1.free hp
    refine ⟨fun m σ' H' => ∃ (q : Nat) (acc rest : List Pc) (tv ev : Option V), σ' = [some (.str z), some (.int n), some (.ref p), some (.int (q : Nat)), tv, ev] ∧ m = z.length - q ∧ PcsAt H' p acc ∧ Lex (sl z) q rest eo ∧ ps = acc ++ rest ∧ Same H H',
      ⟨z.length - 0, 0, [], ps, none, none, rfl, rfl, ⟨[], upd_same, .nil⟩, hL, rfl, Same.put sm1 hp0⟩, ?_⟩
    rintro m σ' H' ⟨q, acc, rest, tv, ev, rfl, rfl, hA, hR, et, sm⟩
    have qle := (lex_le hR).1
    refine ⟨_, rfl, _, rfl, z, rfl, big6 hz, _, _, rfl, rfl, _, rfl, ?_⟩
    refine ite2 (fun h1 => ?_) (fun h1 => ?_)
    · have ql : q < (sl z).length := by
        have := of_decide_eq_true h1
        omega
      have hq : (sl z)[q]? = some ((sl z)[q]'ql) := List.getElem?_eq_getElem _
      generalize (sl z)[q]'ql = c at hq
      have st := lex_step hR hq
      refine ⟨fun σ2 H2 => ∃ (q2 : Nat) (acc2 rest2 : List Pc) (tv2 ev2 : Option V), σ2 = [some (.str z), some (.int n), some (.ref p), some (.int (q2 : Nat)), tv2, ev2] ∧ q < q2 ∧ PcsAt H2 p acc2 ∧ Lex (sl z) q2 rest2 eo ∧ ps = acc2 ++ rest2 ∧ Same H H2,
        fun σ2 H2 ⟨q2, acc2, rest2, tv2, ev2, e1, lt, a1, a2, a3, a4⟩ => ⟨z.length - q2, by omega, q2, acc2, rest2, tv2, ev2, e1, rfl, a1, a2, a3, a4⟩, ?_⟩
      refine ⟨_, rfl, _, rfl, z, (q : Nat), c, rfl, rfl, big6 hz, at_sl hq, rfl, _, rfl, ?_⟩
      refine ite2 (fun h2 => ?_) (fun h2 => ?_)
      · have c32 : c = 32 := by
          rw [eq0] at h2
          simp at h2
          exact h2
        subst c32
        have hx : Lex (sl z) (q + 1) rest eo := by
          rcases st with ⟨_, x⟩ | ⟨x, _⟩ | ⟨x, _⟩ | ⟨x, _⟩
          · exact x
          · cases x
          · cases x
          · exact absurd rfl x
        exact ⟨_, rfl, _, _, rfl, rfl, q + 1, acc, rest, tv, ev, rfl, by omega, hA, hx, et, sm⟩
      have c32 : c ≠ 32 := fun x => by
        subst x
        rw [eq0] at h2
        simp at h2
      refine ⟨_, rfl, _, rfl, z, (q : Nat), c, rfl, rfl, big6 hz, at_sl hq, rfl, _, rfl, ?_⟩
      refine ite2 (fun h3 => ?_) (fun h3 => ?_)
      · have c34 : c = 34 := by
          rw [eq1] at h3
          simp at h3
          exact h3
        subst c34
        rcases st with ⟨x, _⟩ | ⟨_, tt, en, ps', er1, hQ, hN⟩ | ⟨_, tt, r, col, er1, er2, hQ, hcol⟩ | ⟨_, x, _⟩
        · cases x
        · have qc := quo_close hQ rfl
          refine ⟨_, rfl, _, rfl, _, rfl, z, n, q, tt, .close en, rfl, hn, hz, by omega, hQ, fun e he H2 T x s2 hT hx => ?_, fun col hc => by cases hc⟩
          cases he
          obtain rfl := pcS_of hx
          refine ⟨T, _, rfl, SqT.of hT, rfl, _, _, rfl, _, _, rfl, rfl, ?_⟩
          obtain ⟨vs, hvp, hvv⟩ := hA.same s2
          refine ⟨_, rfl, .inl ⟨rfl, _, SqL.of hvp⟩, _, rfl, _, rfl, _, _, rfl, rfl, (by show 3 ≤ sizeLine; decide), fun U hU => ?_⟩
          have pU : p ≠ U := ne_of_none hvp hU
          have s3 := Same.new (o := HO.tup [V.str (kindS true), V.str (pcS tt), V.int ((q + 1 : Nat) : Int)]) hU
          have hv3 := hvv.map (H' := upd H2 U (HO.tup [V.str (kindS true), V.str (pcS tt), V.int ((q + 1 : Nat) : Int)])) fun T xs => s3 T _
          refine ⟨p, vs, _, rfl, rfl, (by rw [upd_ne pU]; exact hvp), ?_, ?_⟩
          · rw [hvv.len]
            have := (lex_le hL).2
            rw [et, List.length_append] at this
            exact Nat.lt_of_le_of_lt (show acc.length ≤ 1000000 by omega) (by decide)
          · refine ⟨_, rfl, en + 1, acc ++ [⟨true, tt, q + 1⟩], ps', _, _, rfl, by omega, ?_, hN, by rw [et, er1, List.append_assoc]; rfl, Same.put ((sm.trans s2).trans s3) hp0⟩
            exact PcsAt.add (pc := ⟨true, tt, q + 1⟩) hv3 (by rw [upd_ne pU]; exact hvp) (by rw [upd_same]; rfl)
        · refine ⟨_, rfl, _, rfl, _, rfl, z, n, q, tt, r, rfl, hn, hz, by omega, hQ, fun e he => ?_, fun col2 hc => ?_⟩
          · rw [he] at hcol
            cases hcol
          · rw [hcol] at hc
            cases hc
            exact (ke col er2).same sm
        · exact absurd rfl x
      · have c34 : c ≠ 34 := fun x => by
          subst x
          rw [eq1] at h3
          simp at h3
        rcases st with ⟨x, _⟩ | ⟨x, _⟩ | ⟨x, _⟩ | ⟨_, _, j, ps', er1, hE, hN⟩
        · exact absurd x c32
        · exact absurd x c34
        · exact absurd x c34
        · have qj : q < j := by
            have h4 := hE.le
            have h5 : j ≠ q := fun x => by
              subst x
              rcases hE.stop _ hq with x | x
              · exact c32 x
              · exact c34 x
            omega
          refine ⟨_, rfl, _, rfl, z, q, j, rfl, hz, hE, fun H2 s2 => ?_⟩
          obtain ⟨vs, hvp, hvv⟩ := hA.same s2
          refine ⟨_, rfl, .inl ⟨rfl, _, SqL.of hvp⟩, _, rfl, _, rfl, (q : Int), rfl, _, rfl, (j : Int), rfl, z, rfl, big6 hz, _, rfl, _, _, rfl, rfl, (by show 3 ≤ sizeLine; decide), fun U hU => ?_⟩
          have pU : p ≠ U := ne_of_none hvp hU
          have s3 := Same.new (o := HO.tup [V.str (kindS false), V.str (cutS z (some (q : Int)) (some (j : Int))), V.int ((q + 1 : Nat) : Int)]) hU
          have hv3 := hvv.map (H' := upd H2 U (HO.tup [V.str (kindS false), V.str (cutS z (some (q : Int)) (some (j : Int))), V.int ((q + 1 : Nat) : Int)])) fun T xs => s3 T _
          refine ⟨p, vs, _, rfl, rfl, (by rw [upd_ne pU]; exact hvp), ?_, ?_⟩
          · rw [hvv.len]
            have := (lex_le hL).2
            rw [et, List.length_append] at this
            exact Nat.lt_of_le_of_lt (show acc.length ≤ 1000000 by omega) (by decide)
          · refine ⟨_, rfl, j, acc ++ [⟨false, ((sl z).drop q).take (j - q), q + 1⟩], ps', _, _, rfl, qj, ?_, hN, by rw [et, er1, List.append_assoc]; rfl, Same.put ((sm.trans s2).trans s3) hp0⟩
            exact PcsAt.add (pc := ⟨false, ((sl z).drop q).take (j - q), q + 1⟩) hv3 (by rw [upd_ne pU]; exact hvp) (by rw [upd_same, cut_at z q j (by omega) (by have := hE.top; omega)]; rfl)
    · have qe : q = (sl z).length := by
        have : ¬ ((q : Int) < (z.length : Int)) := of_decide_eq_false (by simpa using h1)
        omega
      obtain ⟨r0, e0⟩ := lex_end hR qe
      subst r0 e0
      rw [List.append_nil] at et
      subst et
      exact ⟨_, rfl, kq rfl _ _ sm hA⟩
  · have := good c2 (List.mem_of_getElem? hi2)
    rw [hb2] at this
    cases this
end
end Sx

set_option Elab.async false
set_option linter.all false
set_option maxRecDepth 100000
set_option maxHeartbeats 1000000
namespace Sx
open PySem PySem.Spec PyProof.Rows L2 SxK
section
variable {P : Program} {w : World} {K : PySem.W.Frag} {mg : Str → Option Value} {base : Heap}
/-! ### _law_quoted -/
def escC (c : Nat) : List Nat := if c = 34 ∨ c = 92 then [92, c] else [c]
def escL (l : List Nat) : List Nat := l.flatMap escC
def spLQ : Sp := fun vs H Q _ => ∃ x : Str, vs = [.str x] ∧ x.length ≤ 1000 ∧ ∀ y : Str, sl y = 34 :: (escL (sl x) ++ [34]) → Q (.str y) H
abbrev nsLQ : List Str := ["text", "inner", "char"]
theorem scLQ : FnScope nsLQ ["text"] (defScope sLawQuoted) := ⟨rfl, rfl, rfl, by decide +kernel, rfl, by decide +kernel, by decide +kernel⟩
theorem escC_len (c : Nat) : (escC c).length ≤ 2 := by
  unfold escC
  split
  · exact Nat.le_refl _
  · exact Nat.le_succ _
theorem escL_len (l : List Nat) : (escL l).length ≤ 2 * l.length := by
  induction l with
  | nil => exact Nat.le_refl _
  | cons c r ih =>
    have := escC_len c
    unfold escL at ih ⊢
    rw [List.flatMap_cons, List.length_append, List.length_cons]
    omega
theorem escL_snoc (l : List Nat) (c : Nat) : escL (l ++ [c]) = escL l ++ escC c := by
  unfold escL
  rw [List.flatMap_append]
  simp
theorem ok_lq (t : T K mg) : Ok P w K mg base 1 "_law_quoted" ["text"] spLQ := by
  refine mkOk t.d_law_quoted t.g_law_quoted scLQ (fun vs H Q E h => ?_) (fun _ _ _ _ _ _ us hl => match us, hl with | [_], _ => rfl) fun cdv A outer s H vs Q E hr h => ?_
  · obtain ⟨x, rfl, _⟩ := h; rfl
  obtain ⟨x, rfl, hx, k⟩ := h
  refine ⟨_, pss_cons (ps_set (i := 1) scLQ.nd rfl (Or.inl rfl) pe_str)
    (pss_cons (ps_for PassesOwn.never rfl (pi_str (pv 0)) (pg_name (i := 2) scLQ.nd rfl (Or.inl rfl))
      (C8.pss_cut (ps_if (PW.pt (pw_or (pt_cmpR op_eq (pv 2) pe_str (nomark _)) (pw_or1 (pt_cmpR op_eq (pv 2) pe_str (nomark _)))))
          (pss_one (ps_set (i := 1) scLQ.nd rfl (Or.inl rfl) (pe_op op_add_str (pv 1) pe_str))) pss_nil)
        (pss_one (ps_set (i := 1) scLQ.nd rfl (Or.inl rfl) (pe_op op_add_str (pv 1) (pv 2))))))
    (pss_one (ps_ret (pe_op op_add_str (pe_op op_add_str pe_str (pv 1)) pe_str)))), ?_⟩
  have eq1 : Str.ofString "\"" = sg 34 := by decide +kernel
  have eq2 : Str.ofString "\\" = sg 92 := by decide +kernel
  have hxl : x.length = (sl x).length := sl_len x
  refine ⟨_, rfl, x, rfl, ?_⟩
  refine for_signs (z := x) (fun i σ' H' => (∃ (y : Str) (tv : Option V), σ' = [some (.str x), some (.str y), tv] ∧ sl y = escL ((sl x).take i)) ∧ H' = H) ⟨⟨Str.ofString "", none, rfl, by rw [sl_mt]; rfl⟩, rfl⟩ ?_ ?_
  · rintro i c σ' H' hc ⟨⟨y, tv, rfl, hy⟩, rfl⟩
    have il : i < (sl x).length := (List.getElem?_eq_some_iff.mp hc).1
    have ylen : y.length ≤ 2000 := by
      rw [sl_len, hy]
      have := escL_len ((sl x).take i)
      rw [List.length_take] at this
      omega
    have tk : escL ((sl x).take (i + 1)) = escL ((sl x).take i) ++ escC c := by
      rw [List.take_add_one, hc]
      exact escL_snoc _ _
    refine ⟨fun σ2 H2 => (∃ y2 : Str, σ2 = [some (.str x), some (.str y2), some (.str (sg c))] ∧ y2.length ≤ 2001 ∧ sl y2 ++ [c] = escL ((sl x).take (i + 1))) ∧ H2 = H', ?_, ?_⟩
    · have yes : (c = 34 ∨ c = 92) → ∃ y2 : Str, [some (V.str x), some (V.str (y ++ Str.ofString "\\")), some (V.str (sg c))] = [some (.str x), some (.str y2), some (.str (sg c))] ∧ y2.length ≤ 2001 ∧ sl y2 ++ [c] = escL ((sl x).take (i + 1)) := fun hcc => by
        refine ⟨_, rfl, ?_, ?_⟩
        · rw [len_app, eq2]
          show y.length + 1 ≤ 2001
          omega
        · rw [sl_app, eq2, sl_sg, hy, tk]
          unfold escC
          rw [if_pos hcc, List.append_assoc]
          rfl
      refine ⟨_, rfl, rfl, _, rfl, ?_⟩
      refine ite2 (fun h1 => ?_) (fun h1 => ?_)
      · have c34 : c = 34 := by
          rw [eq1] at h1
          simp at h1
          exact h1
        refine ⟨_, rfl, _, _, rfl, rfl, (by rw [eq2]; show y.length + 1 ≤ sizeLine; exact big6 (by omega)), yes (.inl c34), rfl⟩
      · refine ⟨_, rfl, rfl, _, rfl, ?_⟩
        refine ite2 (fun h2 => ?_) (fun h2 => ?_)
        · have c92 : c = 92 := by
            rw [eq2] at h2
            simp at h2
            exact h2
          refine ⟨_, rfl, _, _, rfl, rfl, (by rw [eq2]; show y.length + 1 ≤ sizeLine; exact big6 (by omega)), yes (.inr c92), rfl⟩
        · have n34 : c ≠ 34 := fun z => by
            subst z
            rw [eq1] at h1
            simp at h1
          have n92 : c ≠ 92 := fun z => by
            subst z
            rw [eq2] at h2
            simp at h2
          refine ⟨⟨y, rfl, by omega, ?_⟩, rfl⟩
          rw [tk, hy]
          unfold escC
          rw [if_neg (by omega)]
    · rintro σ2 H2 ⟨⟨y2, rfl, l2, e2⟩, rfl⟩
      refine ⟨_, rfl, _, rfl, _, _, rfl, rfl, (by show y2.length + 1 ≤ sizeLine; exact big6 (by omega)), ⟨_, _, rfl, ?_⟩, rfl⟩
      rw [sl_app, sl_sg]
      exact e2
  · rintro σ' H' ⟨⟨y, tv, rfl, hy⟩, rfl⟩
    rw [List.take_length] at hy
    have ylen : y.length ≤ 2000 := by
      rw [sl_len, hy]
      have := escL_len (sl x)
      omega
    refine ⟨_, rfl, _, _, rfl, rfl, (by rw [eq1]; show 1 + y.length ≤ sizeLine; exact big6 (by omega)), _, _, rfl, rfl, (by rw [eq1, len_app]; show 1 + y.length + 1 ≤ sizeLine; exact big6 (by omega)), k _ ?_⟩
    rw [sl_app, sl_app, eq1, sl_sg, hy]
    rfl
end
end Sx

set_option Elab.async false
set_option linter.all false
set_option maxRecDepth 100000
set_option maxHeartbeats 1000000
namespace Sx
open PySem PySem.Spec PyProof.Rows L2 SxK
theorem atN {l : List Nat} {u : Int} (h : u.toNat < l.length) (h0 : 0 ≤ u) : atI l u = some l[u.toNat] := by
  have h2 := atI_nat (xs := l) (j := u.toNat) (List.getElem?_eq_getElem h)
  have e : ((u.toNat : Nat) : Int) = u := by omega
  rw [e] at h2
  exact h2
/-! ### _law_piece -/
def quoCs : List Nat := [97, 32, 34, 92, 61, 126]
def plaCs : List Nat := [97, 49, 45, 61, 92, 94]
structure PieceOk (b : Bool) (x w : List Nat) : Prop where
  quo : b = true → (∀ c ∈ x, c ∈ quoCs) ∧ x.length ≤ 4 ∧ w = 34 :: (escL x ++ [34])
  pla : b = false → (∀ c ∈ x, c ∈ plaCs) ∧ 1 ≤ x.length ∧ x.length ≤ 4 ∧ w = x
section
variable {P : Program} {w : World} {K : PySem.W.Frag} {mg : Str → Option Value} {base : Heap}
def spPiece : Sp := fun vs H Q _ => ∃ (a L : Addr), vs = [.ref a] ∧ St H a L ∧ ∀ (b : Bool) (x w : Str) (T : Addr) (H' : Hp), PieceOk b (sl x) (sl w) → St H' a L → But a H H' → H T = none → H' T = some (.tup [.str (kindS b), .str x, .str w]) → Q (.ref T) H'
abbrev nsPiece : List Str := ["state", "text", "_law_turn"]
theorem scPiece : FnScope nsPiece ["state"] (defScope sLawPiece) := ⟨rfl, rfl, rfl, by decide +kernel, rfl, by decide +kernel, by decide +kernel⟩
theorem But.free {a : Addr} {H H' : Hp} (b : But a H H') {T : Addr} (hT : H' T = none) (ha : ∃ o, H a = some o) (ha' : ∃ o, H' a = some o) : H T = none := by
  cases e : H T with
  | none => rfl
  | some o =>
    by_cases ne : T = a
    · subst ne
      obtain ⟨o, h⟩ := ha'
      rw [hT] at h
      cases h
    · rw [b T o e ne] at hT
      cases hT
theorem ok_piece (t : T K mg) : Ok P w K mg base 2 "_law_piece" ["state"] spPiece := by
  refine mkOk t.d_law_piece t.g_law_piece scPiece (fun vs H Q E h => ?_) (fun _ _ _ _ _ _ us hl => match us, hl with | [_], _ => rfl) fun cdv A outer s H vs Q E hr h => ?_
  · obtain ⟨a, L, rfl, _⟩ := h; rfl
  obtain ⟨a, L, rfl, hS, k⟩ := h
  refine ⟨_, pss_cons (ps_set (i := 1) scPiece.nd rfl (Or.inl rfl) pe_str)
    (pss_cons (ps_if (pt_cmpR op_eq (pe_ok (ok_draw t) hr rfl (pa_cons (pv 0) (pa_cons pe_int pa_nil))) pe_int (nomark _))
      (pss_cons (ps_for PassesOwn.never rfl (pi_range1 rfl t.f_range (pa_cons (pe_ok (ok_draw t) hr rfl (pa_cons (pv 0) (pa_cons pe_int pa_nil))) pa_nil)) (pg_name (i := 2) scPiece.nd rfl (Or.inl rfl))
        (pss_one (ps_set (i := 1) scPiece.nd rfl (Or.inl rfl) (pe_op op_add_str (pv 1) (pe_ix ix_str pe_str (pe_ok (ok_draw t) hr rfl (pa_cons (pv 0) (pa_cons pe_int pa_nil))) (fun _ _ => rfl))))))
        (pss_one (ps_ret (pe_tup (pa_cons pe_str (pa_cons (pv 1) (pa_cons (pe_ok (ok_lq t) hr rfl (pa_cons (pv 1) pa_nil)) pa_nil))))))) pss_nil)
    (pss_cons (ps_for PassesOwn.never rfl (pi_range1 rfl t.f_range (pa_cons (pe_op op_add pe_int (pe_ok (ok_draw t) hr rfl (pa_cons (pv 0) (pa_cons pe_int pa_nil)))) pa_nil)) (pg_name (i := 2) scPiece.nd rfl (Or.inl rfl))
        (pss_one (ps_set (i := 1) scPiece.nd rfl (Or.inl rfl) (pe_op op_add_str (pv 1) (pe_ix ix_str pe_str (pe_ok (ok_draw t) hr rfl (pa_cons (pv 0) (pa_cons pe_int pa_nil))) (fun _ _ => rfl))))))
      (pss_one (ps_ret (pe_tup (pa_cons pe_str (pa_cons (pv 1) (pa_cons (pv 1) pa_nil)))))))), ?_⟩
  have q0 : sl (Str.ofString "a \"\\=~") = quoCs := by decide +kernel
  have p0 : sl (Str.ofString "a1-=\\^") = plaCs := by decide +kernel
  have grow : ∀ (x : Str) (d : Nat) (i : Nat) (cs : List Nat), x.length = i → (∀ c ∈ sl x, c ∈ cs) → d ∈ cs → (x ++ sg d).length = i + 1 ∧ ∀ c ∈ sl (x ++ sg d), c ∈ cs := fun x d i cs xl hx hd => by
    refine ⟨by rw [len_app, xl]; rfl, fun c hc => ?_⟩
    rw [sl_app, List.mem_append] at hc
    rcases hc with hc | hc
    · exact hx c hc
    · rw [sl_sg, List.mem_singleton] at hc
      rw [hc]
      exact hd
  refine ⟨_, rfl, a, L, 2, rfl, hS, by decide, by decide, fun v H1 v0 v1 S1 B1 => ?_⟩
  refine ⟨rfl, _, rfl, ?_⟩
  refine ite2 (fun h1 => ?_) (fun h1 => ?_)
  · refine ⟨_, rfl, a, L, 5, rfl, S1, by decide, by decide, fun v2 H2 v20 v21 S2 B2 => ?_⟩
    refine ⟨_, rfl, by omega, by omega, ?_⟩
    refine for_range (lo := 0) (n := v2.toNat) (fun i σ' H' => (∃ (x : Str) (tv : Option V), σ' = [some (.ref a), some (.str x), tv] ∧ x.length = i ∧ ∀ c ∈ sl x, c ∈ quoCs) ∧ St H' a L ∧ But a H H') ⟨⟨Str.ofString "", none, rfl, by decide +kernel, fun c hc => by rw [sl_mt] at hc; cases hc⟩, S2, B1.trans B2⟩ ?_ ?_
    · rintro i σ' H' hi ⟨⟨x, tv, rfl, xl, hx⟩, S3, B3⟩
      refine ⟨_, rfl, _, rfl, a, L, 6, rfl, S3, by decide, by decide, fun u H4 u0 u1 S4 B4 => ?_⟩
      have hu : u.toNat < (sl (Str.ofString "a \"\\=~")).length := by rw [q0]; show u.toNat < 6; omega
      obtain ⟨g1, g2⟩ := grow x _ i quoCs xl hx (by rw [← q0]; exact List.getElem_mem hu)
      exact ⟨_, u, _, rfl, rfl, big6 (by decide +kernel), atN hu u0, _, _, rfl, rfl, (by show x.length + 1 ≤ sizeLine; exact big6 (by omega)), ⟨_, _, rfl, g1, g2⟩, S4, B3.trans B4⟩
    · rintro σ' H' ⟨⟨x, tv, rfl, xl, hx⟩, S3, B3⟩
      refine ⟨_, rfl, _, rfl, x, rfl, by omega, fun y hy => ⟨(by show 3 ≤ sizeLine; decide), fun T hT => ?_⟩⟩
      have s9 : Same H' (upd H' T (.tup [.str (Str.ofString "quoted"), .str x, .str y])) := Same.new hT
      exact k true x y T _ ⟨fun _ => ⟨hx, by rw [← sl_len]; omega, hy⟩, fun z => by cases z⟩ (S3.same s9) (B3.trans (But.of s9)) (B3.free hT hS.hasA S3.hasA) upd_same
  · refine ⟨_, rfl, a, L, 4, rfl, S1, by decide, by decide, fun v2 H2 v20 v21 S2 B2 => ?_⟩
    refine ⟨_, _, rfl, rfl, _, rfl, by omega, by omega, ?_⟩
    refine for_range (lo := 0) (n := (1 + v2).toNat) (fun i σ' H' => (∃ (x : Str) (tv : Option V), σ' = [some (.ref a), some (.str x), tv] ∧ x.length = i ∧ ∀ c ∈ sl x, c ∈ plaCs) ∧ St H' a L ∧ But a H H') ⟨⟨Str.ofString "", none, rfl, by decide +kernel, fun c hc => by rw [sl_mt] at hc; cases hc⟩, S2, B1.trans B2⟩ ?_ ?_
    · rintro i σ' H' hi ⟨⟨x, tv, rfl, xl, hx⟩, S3, B3⟩
      refine ⟨_, rfl, _, rfl, a, L, 6, rfl, S3, by decide, by decide, fun u H4 u0 u1 S4 B4 => ?_⟩
      have hu : u.toNat < (sl (Str.ofString "a1-=\\^")).length := by rw [p0]; show u.toNat < 6; omega
      obtain ⟨g1, g2⟩ := grow x _ i plaCs xl hx (by rw [← p0]; exact List.getElem_mem hu)
      exact ⟨_, u, _, rfl, rfl, big6 (by decide +kernel), atN hu u0, _, _, rfl, rfl, (by show x.length + 1 ≤ sizeLine; exact big6 (by omega)), ⟨_, _, rfl, g1, g2⟩, S4, B3.trans B4⟩
    · rintro σ' H' ⟨⟨x, tv, rfl, xl, hx⟩, S3, B3⟩
      refine ⟨_, rfl, _, rfl, (by show 3 ≤ sizeLine; decide), fun T hT => ?_⟩
      have s9 : Same H' (upd H' T (.tup [.str (Str.ofString "plain"), .str x, .str x])) := Same.new hT
      exact k false x x T _ ⟨fun z => (by cases z), fun _ => ⟨hx, by rw [← sl_len]; omega, by rw [← sl_len]; omega, rfl⟩⟩ (S3.same s9) (B3.trans (But.of s9)) (B3.free hT hS.hasA S3.hasA) upd_same
end
end Sx

set_option Elab.async false
set_option linter.all false
set_option maxRecDepth 100000
set_option maxHeartbeats 1000000
namespace Sx
open PySem PySem.Spec PyProof.Rows L2 SxK
section
variable {P : Program} {w : World} {K : PySem.W.Frag} {mg : Str → Option Value} {base : Heap}
/-! ### _law_told -/
/-- the three of an error -/
def ErT (H : Hp) (T : Addr) (n c : Int) (r : Str) : Prop := H T = some (.tup [.int n, .int c, .str r])
def spTold : Sp := fun vs H Q _ => ∃ (z : Str) (n : Int), vs = [.str z, .int n] ∧ (0 ≤ n ∧ n < 10 ^ 10) ∧ z.length ≤ 1000000 ∧
  ((∃ i c : Nat, (sl z)[i]? = some c ∧ signB c = false ∧ (∀ j b : Nat, j < i → (sl z)[j]? = some b → signB b = true) ∧ ∀ H' T, Same H H' → ErT H' T n ((i : Int) + 1) "sign" → Q (.ref T) H') ∨
   ((∀ c ∈ sl z, signB c = true) ∧ ∃ ps eo, Lex (sl z) 0 ps eo ∧ (eo = none → ∀ H' p, Same H H' → PcsAt H' p ps → Q (.ref p) H') ∧ ∀ col : Nat, eo = some col → ∀ H' T, Same H H' → ErT H' T n (col : Int) "quoted" → Q (.ref T) H'))
abbrev nsTold : List Str := ["line", "number", "error"]
theorem scTold : FnScope nsTold ["line", "number"] (defScope sLawTold) := ⟨rfl, rfl, rfl, by decide +kernel, rfl, by decide +kernel, by decide +kernel⟩
theorem erL (l c : Int) (r : Str) : (erD l c r).lookup ("line" : Str) = some (.int l) := rfl
theorem erC (l c : Int) (r : Str) : (erD l c r).lookup ("column" : Str) = some (.int c) := rfl
theorem erR (l c : Int) (r : Str) : (erD l c r).lookup ("reason" : Str) = some (.str r) := rfl
theorem ok_told (t : T K mg) (er : ErrC P K mg xTextError) : Ok P w K mg base 6 "_law_told" ["line", "number"] spTold := by
  refine mkOk t.d_law_told t.g_law_told scTold (fun vs H Q E h => ?_) (fun _ _ _ _ _ _ us hl => match us, hl with | [_, _], _ => rfl) fun cdv A outer s H vs Q E hr h => ?_
  · obtain ⟨z, n, rfl, _⟩ := h; rfl
  obtain ⟨z, n, rfl, hn, hz, hc⟩ := h
  refine ⟨_, pss_one (ps_try_first (i := 2) (c := .ref (He.ga K "TextError")) (tb := fun W => tRet (tCallS (spPcs K) (WE W) (tCons (tVar 0) (tCons (tVar 1) tNil)))) (ts := fun a cls d => tRet (tTup (tCons (tXf a cls d (He.ga K "TextError") "line" (tVar 2)) (tCons (tXf a cls d (He.ga K "TextError") "column" (tVar 2)) (tCons (tXf a cls d (He.ga K "TextError") "reason" (tVar 2)) tNil)))))
    rfl rfl scTold.nd rfl rfl ⟨rfl, by decide, .inl er.glob⟩
    (fun W pn xe tk _ => pss_one (ps_ret (pe_okX (ok_pieces t er) hr rfl tk (by exact (pa_cons (pv 0) (pa_cons (pv 1) pa_nil))))))
    (fun a oe cls d pn hz2 hf => pss_one (ps_ret (pe_tup (pa_cons (pe_xf er.xf (er.ats _ (by decide)) hz2 hf (pv 2)) (pa_cons (pe_xf er.xf (er.ats _ (by decide)) hz2 hf (pv 2)) (pa_cons (pe_xf er.xf (er.ats _ (by decide)) hz2 hf (pv 2)) pa_nil))))))), ?_⟩
  have exc : ∀ (l c : Int) (r : Str), (∀ H' T, Same H H' → ErT H' T l c r → Q (.ref T) H') → Er K (WE (wFirst K (.ref (He.ga K "TextError")) 2 (fun a cls d => tRet (tTup (tCons (tXf a cls d (He.ga K "TextError") "line" (tVar 2)) (tCons (tXf a cls d (He.ga K "TextError") "column" (tVar 2)) (tCons (tXf a cls d (He.ga K "TextError") "reason" (tVar 2)) tNil)))))
      { nx := fun _ H' => Q .non H', rt := Q }) (L2.start nsTold [V.str z, V.int n])) H l c r := fun l c r q d H' s1 hd => by
    refine ⟨er.exm, fun a ha => ?_⟩
    refine ⟨_, rfl, rfl, rfl, d, _, _, rfl, hd, erL l c r, _, rfl, rfl, rfl, d, _, _, rfl, hd, erC l c r, _, rfl, rfl, rfl, d, _, _, rfl, hd, erR l c r, (by show 3 ≤ sizeLine; decide), fun T hT => ?_⟩
    exact q _ T (s1.trans (Same.new hT)) upd_same
  refine ⟨_, rfl, _, rfl, z, n, rfl, hn, hz, ?_⟩
  rcases hc with ⟨i, c, hi, hb, good, ke⟩ | ⟨good, ps, eo, hL, kq, ke⟩
  · exact .inl ⟨i, c, hi, hb, good, exc n _ _ ke⟩
  · exact .inr ⟨good, ps, eo, hL, kq, fun col hcol => exc n _ _ (ke col hcol)⟩
end
end Sx

set_option Elab.async false
set_option linter.all false
set_option maxRecDepth 100000
set_option maxHeartbeats 1000000
namespace Sx
/-! ### the mathematics of a line -/
structure Sg where
  gap : Nat
  quo : Bool
  txt : List Nat
def Sg.wr (s : Sg) : List Nat := if s.quo = true then 34 :: (escL s.txt ++ [34]) else s.txt
def Sg.all (s : Sg) : List Nat := List.replicate s.gap 32 ++ s.wr
def ren (l : List Sg) : List Nat := l.flatMap Sg.all
def dues (off : Nat) : List Sg → List Pc
  | [] => []
  | s :: r => ⟨s.quo, s.txt, off + s.gap + 1⟩ :: dues (off + s.all.length) r
def Chain : Bool → List Sg → Prop
  | _, [] => True
  | b, s :: r => (s.quo = false → (b = true → 1 ≤ s.gap) ∧ s.txt ≠ [] ∧ ∀ c ∈ s.txt, c ≠ 32 ∧ c ≠ 34) ∧ Chain (!s.quo) r
def lastP (b : Bool) (l : List Sg) : Bool := l.foldl (fun _ s => !s.quo) b
theorem ren_snoc (l : List Sg) (s : Sg) : ren (l ++ [s]) = ren l ++ s.all := by
  unfold ren
  rw [List.flatMap_append]
  simp
theorem dues_snoc : ∀ (l : List Sg) (s : Sg) (off : Nat), dues off (l ++ [s]) = dues off l ++ [⟨s.quo, s.txt, off + (ren l).length + s.gap + 1⟩]
  | [], s, off => rfl
  | u :: l, s, off => by
    show _ :: dues (off + u.all.length) (l ++ [s]) = _ :: dues (off + u.all.length) l ++ _
    rw [dues_snoc l s]
    have e : off + u.all.length + (ren l).length = off + (ren (u :: l)).length := by
      show _ = off + (u.all ++ ren l).length
      rw [List.length_append]
      omega
    rw [e]
    rfl
theorem last_snoc (b : Bool) (l : List Sg) (s : Sg) : lastP b (l ++ [s]) = !s.quo := by
  unfold lastP
  rw [List.foldl_append]
  rfl
theorem chain_snoc : ∀ (l : List Sg) (s : Sg) (b : Bool), Chain b l → (s.quo = false → (lastP b l = true → 1 ≤ s.gap) ∧ s.txt ≠ [] ∧ ∀ c ∈ s.txt, c ≠ 32 ∧ c ≠ 34) → Chain b (l ++ [s])
  | [], s, b, _, h => ⟨h, True.intro⟩
  | u :: l, s, b, h, h2 => ⟨h.1, chain_snoc l s (!u.quo) h.2 h2⟩
/-- what stands at a place -/
theorem at_drop {l r : List Nat} {k c : Nat} (h : l.drop k = c :: r) : l[k]? = some c ∧ l.drop (k + 1) = r := by
  constructor
  · have h2 : (l.drop k)[0]? = some c := by rw [h]; rfl
    rw [List.getElem?_drop] at h2
    exact h2
  · rw [← List.drop_drop, h]
    rfl
theorem drop_more {l a b : List Nat} {k : Nat} (h : l.drop k = a ++ b) : l.drop (k + a.length) = b := by
  rw [← List.drop_drop, h]
  simp
theorem lex_spaces {l rest : List Nat} {ps : List Pc} {e : Option Nat} : ∀ (g k : Nat), l.drop k = List.replicate g 32 ++ rest → Lex l (k + g) ps e → Lex l k ps e
  | 0, k, _, h => h
  | g + 1, k, hd, h => by
    obtain ⟨h1, h2⟩ := at_drop (show l.drop k = 32 :: (List.replicate g 32 ++ rest) from hd)
    exact .space h1 (lex_spaces g (k + 1) h2 (by have e2 : k + 1 + g = k + (g + 1) := by omega
                                                 rw [e2]; exact h))
theorem quo_esc {l post : List Nat} : ∀ (t : List Nat) (k : Nat), l.drop k = escL t ++ 34 :: post → Quo l k t (.close (k + (escL t).length))
  | [], k, h => .close (at_drop (show l.drop k = 34 :: post from h)).1
  | c :: t, k, h => by
    have e : escL (c :: t) = escC c ++ escL t := by unfold escL; rw [List.flatMap_cons]
    rw [e] at h ⊢
    by_cases hc : c = 34 ∨ c = 92
    · have ec : escC c = [92, c] := by unfold escC; rw [if_pos hc]
      rw [ec] at h ⊢
      obtain ⟨h1, h2⟩ := at_drop (show l.drop k = 92 :: (c :: (escL t ++ 34 :: post)) from h)
      obtain ⟨h3, h4⟩ := at_drop h2
      have q := quo_esc t (k + 2) h4
      have e2 : k + ([92, c] ++ escL t).length = k + 2 + (escL t).length := by rw [List.length_append]; show k + (2 + _) = _; omega
      rw [e2]
      exact .esc h1 h3 hc q
    · have ec : escC c = [c] := by unfold escC; rw [if_neg hc]
      rw [ec] at h ⊢
      obtain ⟨h1, h2⟩ := at_drop (show l.drop k = c :: (escL t ++ 34 :: post) from h)
      have q := quo_esc t (k + 1) h2
      have e2 : k + ([c] ++ escL t).length = k + 1 + (escL t).length := by rw [List.length_append]; show k + (1 + _) = _; omega
      rw [e2]
      exact .sign h1 (fun z => hc (.inl z)) (fun z => hc (.inr z)) q
theorem head_ren {r : List Sg} {post : List Nat} {c : Nat} (hc : Chain true r) (hp : ∀ c, post.head? = some c → c = 32 ∨ c = 34) (h : (ren r ++ post).head? = some c) : c = 32 ∨ c = 34 := by
  cases r with
  | nil => exact hp c h
  | cons s r =>
    obtain ⟨g, qu, t⟩ := s
    cases g with
    | succ g => exact .inl (Option.some.inj h).symm
    | zero =>
      cases qu with
      | true => exact .inr (Option.some.inj h).symm
      | false => exact absurd ((hc.1 rfl).1 rfl) (Nat.not_succ_le_zero 0)
theorem lex_sgs {l post : List Nat} {ps : List Pc} {e : Option Nat} (hp : ∀ c, post.head? = some c → c = 32 ∨ c = 34) : ∀ (r : List Sg) (b : Bool) (k : Nat), l.drop k = ren r ++ post → Chain b r → Lex l (k + (ren r).length) ps e → Lex l k (dues k r ++ ps) e
  | [], b, k, _, _, h => h
  | s :: r, b, k, hd, hc, h => by
    have er : ren (s :: r) = s.all ++ ren r := rfl
    rw [er, List.append_assoc] at hd
    have el : k + (ren (s :: r)).length = k + s.all.length + (ren r).length := by rw [er, List.length_append]; omega
    rw [el] at h
    have ih := lex_sgs hp r (!s.quo) (k + s.all.length) (drop_more hd) hc.2 h
    obtain ⟨g, qu, t⟩ := s
    have hd2 : l.drop k = List.replicate g 32 ++ (Sg.wr ⟨g, qu, t⟩ ++ (ren r ++ post)) := by rw [hd]; unfold Sg.all; rw [List.append_assoc]
    refine lex_spaces g k hd2 ?_
    have hd3 : l.drop (k + g) = Sg.wr ⟨g, qu, t⟩ ++ (ren r ++ post) := by
      have := drop_more hd2
      rw [List.length_replicate] at this
      exact this
    cases qu with
    | true =>
      obtain ⟨h1, h2⟩ := at_drop (show l.drop (k + g) = 34 :: ((escL t ++ [34]) ++ (ren r ++ post)) from hd3)
      rw [List.append_assoc] at h2
      have q := quo_esc t (k + g + 1) h2
      have e4 : k + (Sg.all ⟨g, true, t⟩).length = k + g + 1 + (escL t).length + 1 := by
        unfold Sg.all
        rw [List.length_append, List.length_replicate]
        show k + (g + ((escL t ++ [34]).length + 1)) = _
        rw [List.length_append]
        show k + (g + ((escL t).length + 1 + 1)) = _
        omega
      rw [e4] at ih
      have := Lex.quoted h1 q ih
      show Lex l (k + g) (⟨true, t, k + g + 1⟩ :: (dues (k + (Sg.all ⟨g, true, t⟩).length) r ++ ps)) e
      rw [e4]
      exact this
    | false =>
      obtain ⟨c1, c2, c3⟩ := hc.1 rfl
      have hd4 : l.drop (k + g) = t ++ (ren r ++ post) := hd3
      cases t with
      | nil => exact absurd rfl c2
      | cons c0 t =>
        have e4 : k + (Sg.all ⟨g, false, c0 :: t⟩).length = k + g + (c0 :: t).length := by
          unfold Sg.all
          rw [List.length_append, List.length_replicate]
          show k + (g + (c0 :: t).length) = _
          omega
        obtain ⟨h1, h2⟩ := at_drop (show l.drop (k + g) = c0 :: (t ++ (ren r ++ post)) from hd4)
        have kl : k + g < l.length := (List.getElem?_eq_some_iff.mp h1).1
        have len : l.length - (k + g) = (c0 :: t).length + (ren r ++ post).length := by
          rw [← List.length_drop, hd4, List.length_append]
        have get : ∀ j, k + g ≤ j → l[j]? = ((c0 :: t) ++ (ren r ++ post))[j - (k + g)]? := fun j hj => by
          rw [← hd4, List.getElem?_drop]
          congr 1
          omega
        have hE : EndP l (k + g) (k + g + (c0 :: t).length) := by
          refine ⟨by omega, by omega, fun j c j1 j2 hj => ?_, fun c hj => ?_⟩
          · rw [get j j1, List.getElem?_append_left (by omega)] at hj
            exact c3 c (List.mem_of_getElem? hj)
          · rw [get _ (by omega), List.getElem?_append_right (by omega)] at hj
            have e5 : k + g + (c0 :: t).length - (k + g) - (c0 :: t).length = 0 := by omega
            rw [e5] at hj
            exact head_ren hc.2 hp (by rw [List.head?_eq_getElem?]; exact hj)
        rw [e4] at ih
        have := Lex.plain h1 (c3 c0 List.mem_cons_self).1 (c3 c0 List.mem_cons_self).2 hE ih
        have e6 : (l.drop (k + g)).take (k + g + (c0 :: t).length - (k + g)) = c0 :: t := by
          rw [hd4]
          have e7 : k + g + (c0 :: t).length - (k + g) = (c0 :: t).length := by omega
          rw [e7]
          simp
        rw [e6] at this
        show Lex l (k + g) (⟨false, c0 :: t, k + g + 1⟩ :: (dues (k + (Sg.all ⟨g, false, c0 :: t⟩).length) r ++ ps)) e
        rw [e4]
        exact this
end Sx

set_option Elab.async false
set_option linter.all false
set_option maxRecDepth 100000
set_option maxHeartbeats 1000000
namespace Sx
open PySem PySem.Spec PyProof.Rows L2 SxK
/-- text * n -/
def rMulT : R2 := fun x y H Q => ∃ (z : Str) (n : Int), x = .str z ∧ y = .int n ∧ MulOk z n ∧ Q (.str (Txt.mul z n)) H
theorem op_mulT {X : Cx} : OpR X (binaryOp .Mult) rMulT := by
  intro pins s σ H x y v u Q I rx ry h
  obtain ⟨z, n, ex, ey, ok, q⟩ := h
  subst ex ey
  obtain ⟨t1, rfl⟩ := rx
  obtain ⟨t2, rfl⟩ := ry
  exact SB.mul ok fun t3 tk => ⟨.str (Txt.mul z n), H, I.tok _, ⟨_, rfl⟩, q⟩
theorem mulSp (n : Int) (h0 : 0 ≤ n) (h2 : n ≤ 2) : MulOk (sg 32) n ∧ sl (Txt.mul (sg 32) n) = List.replicate n.toNat 32 := by
  have c : n = 0 ∨ n = 1 ∨ n = 2 := by omega
  rcases c with rfl | rfl | rfl
  · exact ⟨⟨rfl, fun h => absurd (by decide) h, fun h => absurd (by decide) h⟩, rfl⟩
  · exact ⟨⟨rfl, fun _ _ => by show ¬ ((1 : Nat) : Int) > (2 ^ 63 - 1) / 1; decide, fun _ _ => rfl⟩, rfl⟩
  · exact ⟨⟨rfl, fun _ _ => by show ¬ ((1 : Nat) : Int) > (2 ^ 63 - 1) / 2; decide, fun _ _ => rfl⟩, rfl⟩
/-! ### data compared -/
def pyPc (p : Pc) : PyData := .tuple [.str (kindS p.quo), .str (pcS p.txt), .int (p.col : Nat)]
def pyPcs (ps : List Pc) : PyData := .list (ps.map pyPc)
theorem dp_all {K : PySem.W.Frag} {H : Hp} {vs : List V} {ps : List Pc} (h : PcsV H vs ps) : DpAll K H vs (ps.map pyPc) := by
  induction h with
  | nil => exact .nil
  | cons a _ ih =>
    obtain ⟨T, rfl, hT⟩ := a
    exact .cons (.tup (SqT.of hT) (.cons (.str _) (.cons (.str _) (.cons (.int _) .nil)))) ih
theorem dp_pcs {K : PySem.W.Frag} {H : Hp} {p : Addr} {ps : List Pc} (h : PcsAt H p ps) : Dp K H (.ref p) (pyPcs ps) := by
  obtain ⟨vs, h1, h2⟩ := h
  exact .lst (SqL.of h1) (dp_all h2)
theorem eqv_pc (p : Pc) : PyData.eqv (pyPc p) (pyPc p) = true := by
  unfold pyPc
  simp [PyData.eqv, PyData.eqvAll]
theorem eqv_all : ∀ ps : List Pc, PyData.eqvAll (ps.map pyPc) (ps.map pyPc) = true
  | [] => rfl
  | p :: ps => by rw [List.map_cons, PyData.eqvAll, eqv_pc, eqv_all ps]; rfl
theorem eqv_pcs (ps : List Pc) : PyData.eqv (pyPcs ps) (pyPcs ps) = true := by
  unfold pyPcs
  rw [PyData.eqv]
  exact eqv_all ps
def FineP (p : Pc) : Prop := ∀ c ∈ p.txt, c < 0x110000
theorem str_pcS {l : List Nat} (h : ∀ c ∈ l, c < 0x110000) : PyData.strOk (pcS l) = true := by
  unfold PyData.strOk pcS
  rw [List.all_toArray, List.all_eq_true]
  exact fun c hc => decide_eq_true (h c hc)
theorem str_kind (b : Bool) : PyData.strOk (kindS b) = true := by
  cases b
  · decide +kernel
  · decide +kernel
theorem lay_pc {p : Pc} (h : FineP p) : PyData.canLay0 (pyPc p) = true := by
  unfold pyPc
  rw [PyData.canLay0, PyData.canLayAll0, PyData.canLayAll0, PyData.canLayAll0, PyData.canLayAll0, PyData.canLay0, PyData.canLay0, PyData.canLay0, str_kind, str_pcS h]
  rfl
theorem lay_pcs : ∀ ps : List Pc, (∀ p ∈ ps, FineP p) → PyData.canLayAll0 (ps.map pyPc) = true
  | [], _ => rfl
  | p :: ps, h => by
    rw [List.map_cons, PyData.canLayAll0, lay_pc (h p List.mem_cons_self), lay_pcs ps fun q hq => h q (List.mem_cons_of_mem _ hq)]
    rfl
theorem dep_pc (p : Pc) : PyData.depth (pyPc p) ≤ 3 := by
  unfold pyPc
  simp [PyData.depth, PyData.depthAll]
theorem dep_pcs : ∀ ps : List Pc, PyData.depthAll (ps.map pyPc) ≤ 3
  | [] => Nat.zero_le _
  | p :: ps => by
    rw [List.map_cons, PyData.depthAll]
    exact Nat.max_le.mpr ⟨dep_pc p, dep_pcs ps⟩
theorem shaped_pcs {ps : List Pc} (h : ∀ p ∈ ps, FineP p) : SeqAt.shaped (pyPcs ps) = true := by
  unfold SeqAt.shaped pyPcs
  rw [PyData.canLay0, lay_pcs ps h, PyData.depth]
  have := dep_pcs ps
  simp
  omega
def pyEr (n c : Int) (r : Str) : PyData := .tuple [.int n, .int c, .str r]
theorem dp_er {K : PySem.W.Frag} {H : Hp} {T : Addr} {n c : Int} {r : Str} (h : ErT H T n c r) : Dp K H (.ref T) (pyEr n c r) := .tup (SqT.of h) (.cons (.int _) (.cons (.int _) (.cons (.str _) .nil)))
theorem eqv_er (n c : Int) (r : Str) : PyData.eqv (pyEr n c r) (pyEr n c r) = true := by
  unfold pyEr
  simp [PyData.eqv, PyData.eqvAll]
theorem shaped_er (n c : Int) {r : Str} (h : PyData.strOk r = true) : SeqAt.shaped (pyEr n c r) = true := by
  unfold SeqAt.shaped pyEr
  simp [PyData.canLay0, PyData.canLayAll0, PyData.depth, PyData.depthAll, h]
theorem hu64 {A : Around} {k : Nat} (hr : Room k A) : A.units + 64 < cLine := by
  have := hr.un
  omega
/-! ### lines of all kinds -/
theorem quo_over {l : List Nat} {k : Nat} (h : l.drop k = []) (hk : k ≤ l.length) : Quo l k [] .over := by
  have e : k = l.length := by
    have := congrArg List.length h
    rw [List.length_drop, List.length_nil] at this
    omega
  subst e
  exact .over
theorem lex_done {l : List Nat} {k : Nat} (h : l.drop k = []) (hk : k ≤ l.length) : Lex l k [] none := by
  have e : k = l.length := by
    have := congrArg List.length h
    rw [List.length_drop, List.length_nil] at this
    omega
  subst e
  exact .done
theorem lt_of {l : List Nat} {k c : Nat} (h : l[k]? = some c) : k < l.length := (List.getElem?_eq_some_iff.mp h).1
/-- behind the line: a string with a backslash ahead of c -/
theorem tail_bad {l : List Nat} {m : Nat} (h : l.drop m = [32, 34, 97, 98, 92, 99, 100, 34]) : Lex l m [] (some (m + 5)) := by
  obtain ⟨h0, h⟩ := at_drop h
  obtain ⟨h1, h⟩ := at_drop h
  obtain ⟨h2, h⟩ := at_drop h
  obtain ⟨h3, h⟩ := at_drop h
  obtain ⟨h4, h⟩ := at_drop h
  obtain ⟨h5, h⟩ := at_drop h
  exact .space h0 (.err h1 (.sign h2 (by decide) (by decide) (.sign h3 (by decide) (by decide) (.bad h4 h5 (by decide) (by decide)))) rfl)
/-- a string that does not end -/
theorem tail_open {l t : List Nat} {m : Nat} (h : l.drop m = 32 :: 34 :: t) (q : ∀ k, l.drop k = t → k ≤ l.length → ∃ x, Quo l k x .over) : Lex l m [] (some (m + 2)) := by
  obtain ⟨h0, h⟩ := at_drop h
  obtain ⟨h1, h⟩ := at_drop h
  obtain ⟨x, hx⟩ := q _ h (lt_of h1)
  exact .space h0 (.err h1 hx rfl)
theorem open0 {l : List Nat} : ∀ k, l.drop k = [] → k ≤ l.length → ∃ x, Quo l k x .over := fun k h hk => ⟨_, quo_over h hk⟩
theorem open1 {l : List Nat} : ∀ k, l.drop k = [97, 98] → k ≤ l.length → ∃ x, Quo l k x .over := fun k h hk => by
  obtain ⟨h0, h⟩ := at_drop h
  obtain ⟨h1, h⟩ := at_drop h
  exact ⟨_, .sign h0 (by decide) (by decide) (.sign h1 (by decide) (by decide) (quo_over h (lt_of h1)))⟩
theorem open2 {l : List Nat} : ∀ k, l.drop k = [97, 92, 34] → k ≤ l.length → ∃ x, Quo l k x .over := fun k h hk => by
  obtain ⟨h0, h⟩ := at_drop h
  obtain ⟨h1, h⟩ := at_drop h
  obtain ⟨h2, h⟩ := at_drop h
  exact ⟨_, .sign h0 (by decide) (by decide) (.esc h1 h2 (.inl rfl) (quo_over h (lt_of h2)))⟩
theorem open3 {l : List Nat} : ∀ k, l.drop k = [97, 92] → k ≤ l.length → ∃ x, Quo l k x .over := fun k h hk => by
  obtain ⟨h0, h⟩ := at_drop h
  obtain ⟨h1, h⟩ := at_drop h
  have e : k + 1 + 1 = l.length := by
    have := congrArg List.length h
    rw [List.length_drop, List.length_nil] at this
    have := lt_of h1
    omega
  exact ⟨_, .sign h0 (by decide) (by decide) (.last h1 e (quo_over h (lt_of h1)))⟩
theorem open4 {l : List Nat} : ∀ k, l.drop k = [92, 92] → k ≤ l.length → ∃ x, Quo l k x .over := fun k h hk => by
  obtain ⟨h0, h⟩ := at_drop h
  obtain ⟨h1, h⟩ := at_drop h
  exact ⟨_, .esc h0 h1 (.inr rfl) (quo_over h (lt_of h1))⟩
/-- the whole line, what may follow -/
theorem lex_line {k0 : Nat} {r : List Sg} {post : List Nat} {e : Option Nat} (hc : Chain false r) (hp : ∀ c, post.head? = some c → c = 32 ∨ c = 34)
    (h : Lex (List.replicate k0 32 ++ ren r ++ post) (List.replicate k0 32 ++ ren r).length [] e) : Lex (List.replicate k0 32 ++ ren r ++ post) 0 (dues k0 r ++ []) e := by
  have e0 : (List.replicate k0 32 ++ ren r ++ post).drop 0 = List.replicate k0 32 ++ (ren r ++ post) := by rw [List.drop_zero, List.append_assoc]
  have e1 : (List.replicate k0 32 ++ ren r ++ post).drop k0 = ren r ++ post := by
    have := drop_more e0
    rw [List.length_replicate, Nat.zero_add] at this
    exact this
  refine lex_spaces k0 0 e0 ?_
  rw [Nat.zero_add]
  refine lex_sgs hp r false k0 e1 hc ?_
  rw [List.length_append, List.length_replicate] at h
  exact h
end Sx

set_option Elab.async false
set_option linter.all false
set_option maxRecDepth 100000
set_option maxHeartbeats 1000000
namespace Sx
open PySem PySem.Spec PyProof.Rows L2 SxK
structure LineOk (k0 : Nat) (segs : List Sg) (ln : Str) : Prop where
  is : sl ln = List.replicate k0 32 ++ ren segs
  chain : Chain false segs
  good : ∀ c ∈ sl ln, signB c = true
  fine : ∀ s ∈ segs, ∀ c ∈ s.txt, c < 0x110000
theorem dues_fine : ∀ (l : List Sg) (off : Nat), (∀ s ∈ l, ∀ c ∈ s.txt, c < 0x110000) → ∀ p ∈ dues off l, FineP p
  | [], _, _, p, hp => absurd hp List.not_mem_nil
  | s :: l, off, h, p, hp => by
    rcases List.mem_cons.mp (show p ∈ _ :: dues (off + s.all.length) l from hp) with e | hp
    · rw [e]
      exact h s List.mem_cons_self
    · exact dues_fine l _ (fun q hq => h q (List.mem_cons_of_mem _ hq)) p hp
theorem quo_mem {c : Nat} (h : c ∈ quoCs) : signB c = true := by
  unfold quoCs at h
  simp at h
  rcases h with rfl | rfl | rfl | rfl | rfl | rfl <;> rfl
theorem pla_mem {c : Nat} (h : c ∈ plaCs) : signB c = true ∧ c ≠ 32 ∧ c ≠ 34 := by
  unfold plaCs at h
  simp at h
  rcases h with rfl | rfl | rfl | rfl | rfl | rfl <;> decide
theorem sign_lt {c : Nat} (h : signB c = true) : c < 0x110000 := by
  unfold signB at h
  simp at h
  omega
theorem esc_good {l : List Nat} (h : ∀ c ∈ l, signB c = true) : ∀ c ∈ escL l, signB c = true := fun c hc => by
  unfold escL at hc
  obtain ⟨d, hd, hc⟩ := List.mem_flatMap.mp hc
  unfold escC at hc
  split at hc
  · rcases List.mem_cons.mp hc with e | hc
    · rw [e]; rfl
    · rw [List.mem_singleton.mp hc]; exact h d hd
  · rw [List.mem_singleton.mp hc]; exact h d hd
theorem piece_wr {b : Bool} {x w : List Nat} (h : PieceOk b x w) (g : Nat) : Sg.wr ⟨g, b, x⟩ = w ∧ (∀ c ∈ w, signB c = true) ∧ w.length ≤ 10 ∧ (∀ c ∈ x, c < 0x110000) := by
  cases b with
  | true =>
    obtain ⟨h1, h2, rfl⟩ := h.quo rfl
    have hg : ∀ c ∈ x, signB c = true := fun c hc => quo_mem (h1 c hc)
    refine ⟨rfl, fun c hc => ?_, ?_, fun c hc => sign_lt (hg c hc)⟩
    · rcases List.mem_cons.mp hc with e | hc
      · rw [e]; rfl
      · rcases List.mem_append.mp hc with hc | hc
        · exact esc_good hg c hc
        · rw [List.mem_singleton.mp hc]; rfl
    · have := escL_len x
      rw [List.length_cons, List.length_append, List.length_singleton]
      omega
  | false =>
    obtain ⟨h1, h2, h3, rfl⟩ := h.pla rfl
    exact ⟨rfl, fun c hc => (pla_mem (h1 c hc)).1, by omega, fun c hc => sign_lt (pla_mem (h1 c hc)).1⟩
theorem line_step {k0 : Nat} {segs : List Sg} {ln x w m : Str} {b : Bool} {gq : Nat} (h : LineOk k0 segs ln) (hP : PieceOk b (sl x) (sl w)) (hg : b = false → lastP false segs = true → 1 ≤ gq) (hm : sl m = List.replicate gq 32) (g2 : gq ≤ 2) :
    LineOk k0 (segs ++ [⟨gq, b, sl x⟩]) (ln ++ m ++ w) ∧ (ln ++ m ++ w).length ≤ ln.length + 12 ∧ dues k0 (segs ++ [⟨gq, b, sl x⟩]) = dues k0 segs ++ [⟨b, sl x, (ln ++ m).length + 1⟩] := by
  obtain ⟨w1, w2, w3, w4⟩ := piece_wr hP gq
  have lm : (sl m).length = gq := by rw [hm, List.length_replicate]
  have ll : (ln ++ m).length = k0 + (ren segs).length + gq := by
    rw [len_app, sl_len ln, sl_len m, lm, h.is, List.length_append, List.length_replicate]
  refine ⟨⟨?_, ?_, ?_, ?_⟩, ?_, ?_⟩
  · rw [sl_app, sl_app, h.is, hm, ren_snoc]
    unfold Sg.all
    rw [w1]
    simp [List.append_assoc]
  · refine chain_snoc _ _ _ h.chain fun e => ?_
    have e' : b = false := e
    obtain ⟨h1, h2, _, _⟩ := hP.pla e'
    refine ⟨hg e', fun z => ?_, fun c hc => (pla_mem (h1 c hc)).2⟩
    have z' : sl x = [] := z
    rw [z'] at h2
    exact absurd h2 (by decide)
  · intro c hc
    rw [sl_app, sl_app] at hc
    rcases List.mem_append.mp hc with hc | hc
    · rcases List.mem_append.mp hc with hc | hc
      · exact h.good c hc
      · rw [hm] at hc
        rw [List.eq_of_mem_replicate hc]
        rfl
    · exact w2 c hc
  · intro s hs
    rcases List.mem_append.mp hs with hs | hs
    · exact h.fine s hs
    · rw [List.mem_singleton.mp hs]
      exact w4
  · rw [len_app, ll, sl_len w, sl_len ln, h.is, List.length_append, List.length_replicate]
    omega
  · rw [dues_snoc, ll]
theorem line0 {k0 : Nat} {m : Str} (hm : sl m = List.replicate k0 32) : LineOk k0 [] m :=
  ⟨by rw [hm]; simp [ren], True.intro, fun c hc => by rw [hm] at hc; rw [List.eq_of_mem_replicate hc]; rfl, fun s hs => absurd hs List.not_mem_nil⟩
end Sx

set_option Elab.async false
set_option linter.all false
set_option maxRecDepth 100000
set_option maxHeartbeats 1000000
namespace Sx
open PySem PySem.Spec PyProof.Rows L2 SxK
theorem lex_whole {k0 : Nat} {segs : List Sg} {ln : Str} (h : LineOk k0 segs ln) : Lex (sl ln) 0 (dues k0 segs) none := by
  have q := lex_line (k0 := k0) (r := segs) (post := []) (e := none) h.chain (fun c hc => by cases hc) (by
    rw [List.append_nil]
    exact .done)
  rw [List.append_nil, List.append_nil, ← h.is] at q
  exact q
theorem lex_with {k0 : Nat} {segs : List Sg} {ln : Str} {post : List Nat} {e : Nat} (h : LineOk k0 segs ln) (hp : ∀ c, post.head? = some c → c = 32 ∨ c = 34) (hl : Lex (sl ln ++ post) (sl ln).length [] (some e)) : ∃ ps, Lex (sl ln ++ post) 0 ps (some e) := by
  rw [h.is] at hl ⊢
  exact ⟨_, lex_line h.chain hp hl⟩
theorem drop_post (l post : List Nat) : (l ++ post).drop l.length = post := by simp
theorem lex_bad {k0 : Nat} {segs : List Sg} {ln y : Str} (h : LineOk k0 segs ln) (hy : sl y = [32, 34, 97, 98, 92, 99, 100, 34]) :
    (∀ c ∈ sl (ln ++ y), signB c = true) ∧ ∃ ps, Lex (sl (ln ++ y)) 0 ps (some (ln.length + 5)) := by
  rw [sl_app, hy]
  refine ⟨fun c hc => ?_, lex_with h (fun c hc => .inl (Option.some.inj hc).symm) ?_⟩
  · rcases List.mem_append.mp hc with hc | hc
    · exact h.good c hc
    · simp at hc
      rcases hc with rfl | rfl | rfl | rfl | rfl | rfl | rfl | rfl <;> rfl
  · rw [sl_len]
    exact tail_bad (drop_post _ _)
/-- the ends of strings that do not end -/
def ends : List (List Nat) := [[97, 98], [], [97, 92, 34], [97, 92], [92, 92]]
theorem lex_open {k0 : Nat} {segs : List Sg} {ln y : Str} {t : List Nat} (h : LineOk k0 segs ln) (ht : t ∈ ends) (hy : sl y = 32 :: 34 :: t) :
    (∀ c ∈ sl (ln ++ y), signB c = true) ∧ ∃ ps, Lex (sl (ln ++ y)) 0 ps (some (ln.length + 2)) := by
  have op : ∀ l : List Nat, ∀ k, l.drop k = t → k ≤ l.length → ∃ x, Quo l k x .over := by
    intro l
    unfold ends at ht
    simp at ht
    rcases ht with rfl | rfl | rfl | rfl | rfl
    · exact open1
    · exact open0
    · exact open2
    · exact open3
    · exact open4
  have gd : ∀ c ∈ t, signB c = true := by
    unfold ends at ht
    simp at ht
    rcases ht with rfl | rfl | rfl | rfl | rfl <;> decide
  rw [sl_app, hy]
  refine ⟨fun c hc => ?_, lex_with h (fun c hc => .inl (Option.some.inj hc).symm) ?_⟩
  · rcases List.mem_append.mp hc with hc | hc
    · exact h.good c hc
    · rcases List.mem_cons.mp hc with rfl | hc
      · rfl
      · rcases List.mem_cons.mp hc with rfl | hc
        · rfl
        · exact gd c hc
  · rw [sl_len]
    exact tail_open (drop_post _ _) (op _)
theorem cut_to (z : Str) (j : Nat) (hj : j ≤ z.length) : sl (cutS z none (some (j : Int))) = (sl z).take j := by
  unfold cutS
  rw [HT.sIx_none, HT.sIx_nat]
  show ((List.drop 0 (sl z)).take (min j z.length - 0)).toArray.toList = _
  rw [List.drop_zero, Nat.sub_zero, Nat.min_eq_left hj]
theorem cut_from (z : Str) (j : Nat) (hj : j ≤ z.length) : sl (cutS z (some (j : Int)) none) = (sl z).drop j := by
  unfold cutS
  rw [HT.sIx_none, HT.sIx_nat, Nat.min_eq_left hj]
  show ((List.drop j (sl z)).take (z.length - j)).toArray.toList = _
  rw [sl_len, ← List.length_drop, List.take_length]
/-- a sign put in that is none -/
theorem put_tab {ln ch : Str} {j : Nat} {r : List Nat} (hg : ∀ c ∈ sl ln, signB c = true) (hj : j ≤ ln.length) (hc : sl ch = 9 :: r) :
    (sl (cutS ln none (some (j : Int)) ++ ch ++ cutS ln (some (j : Int)) none))[j]? = some 9 ∧
    ∀ i b : Nat, i < j → (sl (cutS ln none (some (j : Int)) ++ ch ++ cutS ln (some (j : Int)) none))[i]? = some b → signB b = true := by
  rw [sl_app, sl_app, cut_to ln j hj, cut_from ln j hj, hc, List.append_assoc]
  have lt : ((sl ln).take j).length = j := by
    rw [List.length_take, ← sl_len]
    exact Nat.min_eq_left hj
  constructor
  · rw [List.getElem?_append_right (by omega), lt, Nat.sub_self]
    rfl
  · intro i b hi hb
    rw [List.getElem?_append_left (by omega)] at hb
    exact hg b (List.mem_of_mem_take (List.mem_of_getElem? hb))
theorem cut_len (z : Str) (lo hi : Option Int) : (cutS z lo hi).length ≤ z.length := cutS_length z lo hi
theorem lex_none {l : List Nat} (h : ∀ c ∈ l, c = 32) : Lex l 0 [] none := by
  have e : l.drop 0 = List.replicate l.length 32 ++ [] := by
    rw [List.drop_zero, List.append_nil]
    exact List.eq_replicate_iff.mpr ⟨rfl, h⟩
  refine lex_spaces l.length 0 e ?_
  rw [Nat.zero_add]
  exact .done
end Sx

set_option Elab.async false
set_option linter.all false
set_option maxRecDepth 100000
set_option maxHeartbeats 2000000
namespace Sx
open PySem PySem.Spec PyProof.Rows L2 SxK
section
variable {P : Program} {w : World} {K : PySem.W.Frag} {mg : Str → Option Value} {base : Heap}
def spLaw (K : PySem.W.Frag) : Sp := fun vs H Q _ => ∃ (a : Addr) (ns : List Int), vs = [.ref a] ∧ SqL K H a (ns.map V.int) ∧ ns.length ≤ 63 ∧ ∀ H', Q (.bl true) H'
abbrev nsLaw : List Str := ["script", "state", "number", "line", "due", "before", "_law_turn", "kind", "text", "written", "gap", "pick", "at", "char", "end"]
theorem scLaw : FnScope nsLaw ["script"] (defScope sLaw) := ⟨rfl, rfl, rfl, by decide +kernel, rfl, by decide +kernel, by decide +kernel⟩
theorem PcsAt.but {H H' : Hp} {a L p : Addr} {ps : List Pc} (h : PcsAt H p ps) (b : But a H H') (S : St H a L) (ne : p ≠ a) : PcsAt H' p ps := by
  obtain ⟨vs, h1, h2⟩ := h
  obtain ⟨_, _, _, _, _, S1⟩ := S
  refine ⟨vs, b _ _ h1 ne, h2.map fun T xs hT => b _ _ hT fun z => ?_⟩
  rw [z, S1.at_] at hT
  cases hT
theorem mkFn {x : Str} {st : Stmt} {N ps : List Str} {k : Nat} {sp : Sp} {fd : FuncData} (F : FunD K x x (defArgs st) (defBody st) (defScope st) [] [] (He.ga K x) fd) (S : FnScope N ps (defScope st)) (len : ∀ vs H Q E, sp vs H Q E → vs.length = ps.length)
    (body : ∀ (cdv : Value) (A : Around) (outer : List Env) (s : Shared) (H0 : Hp) (vs : List V) (Q : VK) (E : XK), Room k (A.deeper (envOfC x (defScope st) s.heap.objs.size (He.ga K x) cdv)) → sp vs H0 Q E →
      ∃ t, PSs (cxOf CX0 P w K mg base N x (defScope st) (He.ga K x) cdv A outer s H0 E).nox (defBody st) t ∧ t { nx := fun _ H' => Q .non H', rt := Q } (start N vs) H0) : FnOk P w K mg base CX0 (k + 1) (He.ga K x) fd ps sp := by
  refine F.ok S len fun cdv A outer s H vs Q E hr h => ?_
  obtain ⟨t, h1, h2⟩ := body cdv A outer s H vs Q E hr h
  exact ⟨t, h1.nox, h2⟩
theorem ok_law (t : T K mg) (er : ErrC P K mg xTextError) {fd : FuncData} (F : FunD K "law" "law" (defArgs sLaw) (defBody sLaw) (defScope sLaw) [] [] (He.ga K "law") fd) : FnOk P w K mg base CX0 7 (He.ga K "law") fd ["script"] (spLaw K) := by
  refine mkFn F scLaw (fun vs H Q E h => ?_) fun cdv A outer s H vs Q E hr h => ?_
  · obtain ⟨a, ns, rfl, _⟩ := h; rfl
  obtain ⟨sc, ns, rfl, hS, hlen, k⟩ := h
  have hr1 : Room 1 _ := hr.mono (by decide)
  have hr2 : Room 2 _ := hr.mono (by decide)
  refine ⟨_, pss_cons (ps_set (i := 1) scLaw.nd rfl (Or.inl rfl) (pe_ok (ok_state t) hr1 rfl (pa_cons (pv 0) pa_nil)))
    (pss_cons (ps_set (i := 2) scLaw.nd rfl (Or.inl rfl) (pe_op op_add pe_int (pe_ok (ok_draw t) hr1 rfl (pa_cons (pv 1) (pa_cons pe_int pa_nil)))))
    (pss_cons (ps_set (i := 3) scLaw.nd rfl (Or.inl rfl) (pe_op op_mulT pe_str (pe_ok (ok_draw t) hr1 rfl (pa_cons (pv 1) (pa_cons pe_int pa_nil)))))
    (pss_cons (ps_set (i := 4) scLaw.nd rfl (Or.inl rfl) (pe_lst pa_nil))
    (pss_cons (ps_set (i := 5) scLaw.nd rfl (Or.inl rfl) pe_str)
    (pss_cons (ps_for PassesOwn.never rfl (pi_range1 rfl t.f_range (pa_cons (pe_ok (ok_draw t) hr1 rfl (pa_cons (pv 1) (pa_cons pe_int pa_nil))) pa_nil)) (pg_name (i := 6) scLaw.nd rfl (Or.inl rfl))
      (pss_cons (ps_asg (pe_ok (ok_piece t) hr2 rfl (pa_cons (pv 1) pa_nil)) (pg_tup rfl (pgs_cons (pg_name (i := 7) scLaw.nd rfl (Or.inl rfl)) (pgs_cons (pg_name (i := 8) scLaw.nd rfl (Or.inl rfl)) (pgs_cons (pg_name (i := 9) scLaw.nd rfl (Or.inl rfl)) pgs_nil)))))
      (pss_cons (ps_set (i := 10) scLaw.nd rfl (Or.inl rfl) (pe_ok (ok_draw t) hr1 rfl (pa_cons (pv 1) (pa_cons pe_int pa_nil))))
      (C8.pss_cut (ps_if (PW.pt (pw_and (pt_cmpR op_eq (pv 10) pe_int (nomark _)) (pw_and (pt_cmpR op_eq (pv 7) pe_str (nomark _)) (pw_and1 (pt_cmpR op_eq (pv 5) pe_str (nomark _)))))) (pss_one (ps_set (i := 10) scLaw.nd rfl (Or.inl rfl) pe_int)) pss_nil)
      (pss_cons (ps_set (i := 3) scLaw.nd rfl (Or.inl rfl) (pe_op op_add_str (pv 3) (pe_op op_mulT pe_str (pv 10))))
      (pss_cons (ps_expr (pe_bm PySem.F.plainAttrs_list PySem.F.slot_list_append PySem.F.type_list_append mt_append (pv 4) (pa_cons (pe_tup (pa_cons (pv 7) (pa_cons (pv 8) (pa_cons (pe_op op_add (pe_callB call_len_str rfl t.f_len boot_len (pa_cons (pv 3) pa_nil)) pe_int) pa_nil)))) pa_nil)))
      (pss_cons (ps_set (i := 3) scLaw.nd rfl (Or.inl rfl) (pe_op op_add_str (pv 3) (pv 9)))
      (pss_one (ps_set (i := 5) scLaw.nd rfl (Or.inl rfl) (pv 7))))))))))
    (pss_cons (ps_if (pt_cmpR (op_neD (hu64 hr)) (pe_ok (ok_told t er) hr rfl (pa_cons (pv 3) (pa_cons (pv 2) pa_nil))) (pv 4) (nomark _)) (pss_one (ps_ret pe_bl)) pss_nil)
    (pss_cons (ps_set (i := 11) scLaw.nd rfl (Or.inl rfl) (pe_ok (ok_draw t) hr1 rfl (pa_cons (pv 1) (pa_cons pe_int pa_nil))))
    (pss_cons (ps_if (pt_cmpR op_eq (pv 11) pe_int (nomark _))
      (pss_cons (ps_set (i := 12) scLaw.nd rfl (Or.inl rfl) (pe_ok (ok_draw t) hr1 rfl (pa_cons (pv 1) (pa_cons (pe_op op_add (pe_callB call_len_str rfl t.f_len boot_len (pa_cons (pv 3) pa_nil)) pe_int) pa_nil))))
      (pss_cons (ps_set (i := 13) scLaw.nd rfl (Or.inl rfl) (pe_ix ix_list (pe_lst (pa_cons pe_str (pa_cons pe_str (pa_cons pe_str pa_nil)))) (pe_ok (ok_draw t) hr1 rfl (pa_cons (pv 1) (pa_cons pe_int pa_nil))) (fun _ _ => rfl)))
      (pss_one (ps_ret (pe_cmpR (op_eqD (hu64 hr)) (pe_ok (ok_told t er) hr rfl (pa_cons (pe_op op_add_str (pe_op op_add_str (pe_slice sl_str (pv 3) po_none (po_some (pv 12))) (pv 13)) (pe_slice sl_str (pv 3) (po_some (pv 12)) po_none)) (pa_cons (pv 2) pa_nil)))
        (pe_tup (pa_cons (pv 2) (pa_cons (pe_op op_add (pv 12) pe_int) (pa_cons pe_str pa_nil)))) (nomark _)))))) pss_nil)
    (pss_cons (ps_if (pt_cmpR op_eq (pv 11) pe_int (nomark _))
      (pss_one (ps_ret (pe_cmpR (op_eqD (hu64 hr)) (pe_ok (ok_told t er) hr rfl (pa_cons (pe_op op_add_str (pv 3) pe_str) (pa_cons (pv 2) pa_nil)))
        (pe_tup (pa_cons (pv 2) (pa_cons (pe_op op_add (pe_callB call_len_str rfl t.f_len boot_len (pa_cons (pv 3) pa_nil)) pe_int) (pa_cons pe_str pa_nil)))) (nomark _)))) pss_nil)
    (pss_cons (ps_if (pt_cmpR op_eq (pv 11) pe_int (nomark _))
      (pss_cons (ps_set (i := 14) scLaw.nd rfl (Or.inl rfl) (pe_ix ix_list (pe_lst (pa_cons pe_str (pa_cons pe_str (pa_cons pe_str (pa_cons pe_str (pa_cons pe_str pa_nil)))))) (pe_ok (ok_draw t) hr1 rfl (pa_cons (pv 1) (pa_cons pe_int pa_nil))) (fun _ _ => rfl)))
      (pss_one (ps_ret (pe_cmpR (op_eqD (hu64 hr)) (pe_ok (ok_told t er) hr rfl (pa_cons (pe_op op_add_str (pe_op op_add_str (pv 3) pe_str) (pv 14)) (pa_cons (pv 2) pa_nil)))
        (pe_tup (pa_cons (pv 2) (pa_cons (pe_op op_add (pe_callB call_len_str rfl t.f_len boot_len (pa_cons (pv 3) pa_nil)) pe_int) (pa_cons pe_str pa_nil)))) (nomark _))))) pss_nil)
    (pss_one (ps_ret (pe_and (pe_cmpR (op_eqD (hu64 hr)) (pe_ok (ok_told t er) hr rfl (pa_cons pe_str (pa_cons (pv 2) pa_nil))) (pe_lst pa_nil) (nomark _))
      (pe_one (pe_cmpR (op_eqD (hu64 hr)) (pe_ok (ok_told t er) hr rfl (pa_cons pe_str (pa_cons (pv 2) pa_nil))) (pe_lst pa_nil) (nomark _)))))))))))))))), ?_⟩
  -- state, number, line, due
  have eqs : Str.ofString " " = sg 32 := by decide +kernel
  refine ⟨_, rfl, sc, ns, rfl, hS, fun a L H1 ha0 hL0 s1 S1 => ?_⟩
  refine ⟨_, rfl, a, L, 90, rfl, S1, by decide, by decide, fun v H2 v0 v1 S2 B2 => ?_⟩
  refine ⟨_, _, rfl, rfl, ?_⟩
  refine ⟨_, rfl, a, L, 2, rfl, S2, by decide, by decide, fun g H3 g0 g1 S3 B3 => ?_⟩
  obtain ⟨mk0, ms0⟩ := mulSp g g0 (by omega)
  refine ⟨_, g, rfl, rfl, (by rw [eqs]; exact mk0), ?_⟩
  refine ⟨(by show 0 ≤ sizeLine; decide), fun D hD => ?_⟩
  obtain ⟨oa, ha3⟩ := S3.hasA
  obtain ⟨oL, hL3⟩ := S3.hasL
  have naD : a ≠ D := ne_of_none ha3 hD
  have nLD : L ≠ D := ne_of_none hL3 hD
  rw [eqs]
  generalize Txt.mul (sg 32) g = l0 at ms0
  refine ⟨_, rfl, a, L, 8, rfl, S3.write naD nLD, by decide, by decide, fun m H5 m0 m1 S5 B5 => ?_⟩
  refine ⟨_, rfl, by omega, by omega, ?_⟩
  have l0len : l0.length ≤ 1 := by rw [sl_len, ms0, List.length_replicate]; omega
  have eqp : Str.ofString "plain" = kindS false := rfl
  refine for_range (lo := 0) (n := m.toNat) (fun i σ' H' => (∃ (ln bf : Str) (segs : List Sg) (x6 x7 x8 x9 x10 : Option V), σ' = [some (.ref sc), some (.ref a), some (.int (1 + v)), some (.str ln), some (.ref D), some (.str bf), x6, x7, x8, x9, x10, none, none, none, none] ∧
    LineOk g.toNat segs ln ∧ (bf = Str.ofString "plain" ↔ lastP false segs = true) ∧ ln.length ≤ 1 + 20 * i ∧ segs.length = i ∧ PcsAt H' D (dues g.toNat segs)) ∧ St H' a L) ?_ ?_ ?_
  · refine ⟨⟨l0, Str.ofString "", [], none, none, none, none, none, rfl, line0 ms0, ⟨fun z => absurd z (by decide +kernel), fun z => by cases z⟩, by omega, rfl, ⟨[], B5 _ _ upd_same naD.symm, .nil⟩⟩, S5⟩
  · rintro i σ' H' hi ⟨⟨ln, bf, segs, x6, x7, x8, x9, x10, rfl, hL, hbf, hlen2, hsl, hD'⟩, S6⟩
    have hi8 : i < 8 := by omega
    refine ⟨_, rfl, a, L, rfl, S6, fun b x wr T H7 hP S7 B7 hT hTT => ?_⟩
    refine ⟨T, _, rfl, SqT.of hTT, rfl, _, _, rfl, _, _, rfl, _, _, rfl, rfl, ?_⟩
    refine ⟨_, rfl, a, L, 3, rfl, S7, by decide, by decide, fun gp H8 gp0 gp1 S8 B8 => ?_⟩
    refine ⟨fun σ2 H2 => (∃ gq : Int, σ2 = [some (.ref sc), some (.ref a), some (.int (1 + v)), some (.str ln), some (.ref D), some (.str bf), some (.int (0 + (i : Int))), some (.str (kindS b)), some (.str x), some (.str wr), some (.int gq), none, none, none, none] ∧ 0 ≤ gq ∧ gq ≤ 2 ∧ (b = false → lastP false segs = true → 1 ≤ gq)) ∧ H2 = H8, ?_, ?_⟩
    · refine ⟨_, rfl, rfl, _, rfl, ?_⟩
      refine ite2 (fun h1 => ?_) (fun h1 => ?_)
      · have e0 : gp = 0 := by
          have := of_decide_eq_true h1
          exact V.int.inj this
        refine ⟨_, rfl, rfl, _, rfl, ?_⟩
        refine ite2 (fun h2 => ?_) (fun h2 => ?_)
        · refine ⟨_, rfl, rfl, _, rfl, ?_⟩
          refine ite2 (fun h3 => ?_) (fun h3 => ?_)
          · exact ⟨⟨1, rfl, by decide, by decide, fun _ _ => by decide⟩, rfl⟩
          · refine ⟨⟨gp, rfl, by omega, by omega, fun _ z => absurd (decide_eq_true ?_) h3⟩, rfl⟩
            rw [hbf.mpr z]
        · refine ⟨⟨gp, rfl, by omega, by omega, fun z _ => absurd (decide_eq_true ?_) h2⟩, rfl⟩
          rw [z]
          rfl
      · refine ⟨⟨gp, rfl, by omega, by omega, fun _ _ => ?_⟩, rfl⟩
        have : ¬ gp = 0 := fun z => h1 (decide_eq_true (by rw [z]))
        omega
    · rintro σ2 H2 ⟨⟨gq, rfl, q0, q1, q2⟩, rfl⟩
      obtain ⟨mk1, ms1⟩ := mulSp gq q0 q1
      obtain ⟨p1, p2, p3⟩ := line_step (gq := gq.toNat) hL hP (fun e1 e2 => by have := q2 e1 e2; omega) ms1 (by omega)
      have ml : (Txt.mul (sg 32) gq).length = gq.toNat := by rw [sl_len, ms1, List.length_replicate]
      refine ⟨_, rfl, _, rfl, _, gq, rfl, rfl, mk1, ?_⟩
      generalize Txt.mul (sg 32) gq = mm at p1 p2 p3 ml ms1
      refine ⟨_, _, rfl, rfl, (by show ln.length + mm.length ≤ sizeLine; exact big6 (by omega)), ?_⟩
      obtain ⟨vs, hvp, hvv⟩ := (hD'.but B7 S6 naD.symm).but B8 S7 naD.symm
      have ml2 : (ln ++ mm).length ≤ 1000 := by rw [len_app]; omega
      refine ⟨_, rfl, .inl ⟨rfl, _, SqL.of hvp⟩, _, rfl, _, rfl, _, rfl, ln ++ mm, rfl, big6 (by omega), _, _, rfl, rfl, (by show 3 ≤ sizeLine; decide), fun U hU => ?_⟩
      have dU : D ≠ U := ne_of_none hvp hU
      have sU := Same.new (o := HO.tup [V.str (kindS b), V.str x, V.int (((ln ++ mm).length : Nat) + 1)]) hU
      refine ⟨D, vs, _, rfl, rfl, (by rw [upd_ne dU]; exact hvp), ?_, ?_⟩
      · rw [hvv.len]
        have e8 : ∀ (l : List Sg) (o : Nat), (dues o l).length = l.length := fun l => by
          induction l with
          | nil => intro o; rfl
          | cons s l ih => intro o; show (dues _ l).length + 1 = _; rw [ih, List.length_cons]
        rw [e8, hsl]
        exact Nat.lt_trans hi8 (by decide)
      · have w10 := (piece_wr hP 0).2.2.1
        have bw : (ln ++ mm).length + wr.length ≤ sizeLine := big6 (by rw [sl_len wr]; omega)
        refine ⟨_, rfl, _, rfl, _, _, rfl, rfl, bw, _, rfl, ?_⟩
        refine ⟨⟨ln ++ mm ++ wr, kindS b, segs ++ [⟨gq.toNat, b, sl x⟩], _, _, _, _, _, rfl, p1, ?_, by omega, by rw [List.length_append, hsl]; rfl, ?_⟩, (S8.same sU).write naD nLD⟩
        · rw [last_snoc]
          cases b with
          | true => exact ⟨fun z => absurd z (by decide +kernel), fun z => by cases z⟩
          | false => exact ⟨fun _ => rfl, fun _ => rfl⟩
        · rw [p3]
          have ex : x = pcS (sl x) := pcS_of rfl
          refine PcsAt.add (pc := ⟨b, sl x, (ln ++ mm).length + 1⟩) (hvv.map fun T xs => sU T _) (by rw [upd_ne dU]; exact hvp) ?_
          rw [upd_same, ← ex]
          rfl
  · rintro σ' H' ⟨⟨ln, bf, segs, x6, x7, x8, x9, x10, rfl, hL, hbf, hlen2, hsl, hD'⟩, S6⟩
    have mle : ln.length ≤ 200 := by omega
    have hn : 0 ≤ 1 + v ∧ 1 + v < 10 ^ 10 := ⟨by omega, by omega⟩
    have fineD := dues_fine segs g.toNat hL.fine
    refine ⟨_, rfl, _, rfl, ln, 1 + v, rfl, hn, by omega, .inr ⟨hL.good, dues g.toNat segs, none, lex_whole hL, fun _ H7 p s7 hp7 => ?_, fun col hc => by cases hc⟩⟩
    refine ⟨_, rfl, pyPcs (dues g.toNat segs), pyPcs (dues g.toNat segs), dp_pcs hp7, dp_pcs (hD'.same s7), shaped_pcs fineD, shaped_pcs fineD, _, rfl, ?_⟩
    rw [eqv_pcs]
    refine iteF ?_
    have S7 := S6.same s7
    refine ⟨_, rfl, a, L, 4, rfl, S7, by decide, by decide, fun pk H8 pk0 pk1 S8 B8 => ?_⟩
    refine ⟨_, rfl, rfl, _, rfl, ?_⟩
    refine ite2 (fun h1 => ?_) (fun h1 => ?_)
    · refine ⟨_, rfl, _, rfl, ln, rfl, big6 (by omega), _, _, rfl, rfl, a, L, _, rfl, S8, by omega, by omega, fun at' H9 at0 at1 S9 B9 => ?_⟩
      obtain ⟨j, rfl⟩ := Int.eq_ofNat_of_zero_le at0
      have hj : j ≤ ln.length := by omega
      have nap9 : ∀ {p : Addr}, H9 p = none → a ≠ p ∧ L ≠ p := fun hp => by
        obtain ⟨o1, h1⟩ := S9.hasA
        obtain ⟨o2, h2⟩ := S9.hasL
        exact ⟨ne_of_none h1 hp, ne_of_none h2 hp⟩
      refine ⟨(by show 3 ≤ sizeLine; decide), fun p hp => ?_⟩
      obtain ⟨nap, nLp⟩ := nap9 hp
      refine ⟨_, rfl, a, L, 3, rfl, S9.write nap nLp, by decide, by decide, fun ci H10 c0 c1 S10 B10 => ?_⟩
      have hp10 := B10 _ _ upd_same nap.symm
      obtain ⟨ch, r, hch, hcr, hcl⟩ : ∃ (ch : Str) (r : List Nat), atI [V.str (Str.ofString "\t"), V.str (Str.ofString "\t "), V.str (Str.ofString "\t\"")] ci = some (.str ch) ∧ sl ch = 9 :: r ∧ ch.length ≤ 2 := by
        have c3 : ci = 0 ∨ ci = 1 ∨ ci = 2 := by omega
        rcases c3 with rfl | rfl | rfl
        · exact ⟨_, [], rfl, by decide +kernel, by decide +kernel⟩
        · exact ⟨_, [32], rfl, by decide +kernel, by decide +kernel⟩
        · exact ⟨_, [34], rfl, by decide +kernel, by decide +kernel⟩
      refine ⟨p, _, ci, _, rfl, rfl, SqL.of hp10, hch, ?_⟩
      obtain ⟨get, bef⟩ := put_tab (r := r) hL.good hj hcr
      have l1 := cut_len ln none (some (j : Int))
      have l2 := cut_len ln (some (j : Int)) none
      refine ⟨_, rfl, _, rfl, (j : Int), rfl, ln, rfl, big6 (by omega), _, rfl, _, _, rfl, rfl, big6 (by omega), _, rfl, _, rfl, (j : Int), rfl, ln, rfl, big6 (by omega), _, _, rfl, rfl, big6 (by rw [len_app]; omega), _, rfl, _, 1 + v, rfl, hn, by rw [len_app, len_app]; omega, .inl ⟨j, 9, get, rfl, bef, fun H11 T s11 hT => ?_⟩⟩
      refine ⟨_, rfl, _, rfl, _, _, rfl, rfl, (by show 3 ≤ sizeLine; decide), fun U hU => ?_⟩
      refine ⟨pyEr (1 + v) ((j : Int) + 1) (Str.ofString "sign"), pyEr (1 + v) ((j : Int) + 1) (Str.ofString "sign"), dp_er (Same.new hU _ _ hT), dp_er upd_same, shaped_er _ _ (by decide +kernel), shaped_er _ _ (by decide +kernel), ?_⟩
      rw [eqv_er]
      exact k _
    refine ⟨_, rfl, rfl, _, rfl, ?_⟩
    refine ite2 (fun h2 => ?_) (fun h2 => ?_)
    · obtain ⟨gd, ps, lx⟩ := lex_bad (y := Str.ofString " \"ab\\cd\"") hL (by decide +kernel)
      have yl : (Str.ofString " \"ab\\cd\"").length = 8 := by decide +kernel
      generalize Str.ofString " \"ab\\cd\"" = yy at gd lx yl
      refine ⟨_, rfl, _, _, rfl, rfl, big6 (by omega), _, rfl, ln ++ yy, 1 + v, rfl, hn, by rw [len_app]; omega, .inr ⟨gd, ps, some (ln.length + 5), lx, fun z => (by cases z), fun col hc H9 T s9 hT => ?_⟩⟩
      cases hc
      refine ⟨_, rfl, _, rfl, ln, rfl, big6 (by omega), _, _, rfl, rfl, (by show 3 ≤ sizeLine; decide), fun U hU => ?_⟩
      refine ⟨pyEr (1 + v) ((ln.length + 5 : Nat) : Int) (Str.ofString "quoted"), pyEr (1 + v) ((ln.length + 5 : Nat) : Int) (Str.ofString "quoted"), dp_er (Same.new hU _ _ hT), dp_er upd_same, shaped_er _ _ (by decide +kernel), shaped_er _ _ (by decide +kernel), ?_⟩
      rw [eqv_er]
      exact k _
    refine ⟨_, rfl, rfl, _, rfl, ?_⟩
    refine ite2 (fun h3 => ?_) (fun h3 => ?_)
    · have nap8 : ∀ {p : Addr}, H8 p = none → a ≠ p ∧ L ≠ p := fun hp => by
        obtain ⟨o1, h1⟩ := S8.hasA
        obtain ⟨o2, h2⟩ := S8.hasL
        exact ⟨ne_of_none h1 hp, ne_of_none h2 hp⟩
      refine ⟨(by show 5 ≤ sizeLine; decide), fun p hp => ?_⟩
      obtain ⟨nap, nLp⟩ := nap8 hp
      refine ⟨_, rfl, a, L, 5, rfl, S8.write nap nLp, by decide, by decide, fun ci H10 c0 c1 S10 B10 => ?_⟩
      have hp10 := B10 _ _ upd_same nap.symm
      obtain ⟨en, hen, het, hel⟩ : ∃ en : Str, atI [V.str (Str.ofString "ab"), V.str (Str.ofString ""), V.str (Str.ofString "a\\\""), V.str (Str.ofString "a\\"), V.str (Str.ofString "\\\\")] ci = some (.str en) ∧ sl en ∈ ends ∧ en.length ≤ 3 := by
        have c5 : ci = 0 ∨ ci = 1 ∨ ci = 2 ∨ ci = 3 ∨ ci = 4 := by omega
        rcases c5 with rfl | rfl | rfl | rfl | rfl
        · exact ⟨_, rfl, by decide +kernel, by decide +kernel⟩
        · exact ⟨_, rfl, by decide +kernel, by decide +kernel⟩
        · exact ⟨_, rfl, by decide +kernel, by decide +kernel⟩
        · exact ⟨_, rfl, by decide +kernel, by decide +kernel⟩
        · exact ⟨_, rfl, by decide +kernel, by decide +kernel⟩
      refine ⟨p, _, ci, _, rfl, rfl, SqL.of hp10, hen, ?_⟩
      have e2 : sl (Str.ofString " \"") = [32, 34] := by decide +kernel
      have e2l : (Str.ofString " \"").length = 2 := by decide +kernel
      obtain ⟨gd, ps, lx⟩ := lex_open (y := Str.ofString " \"" ++ en) hL het (by rw [sl_app, e2]; rfl)
      have eas : ln ++ (Str.ofString " \"" ++ en) = ln ++ Str.ofString " \"" ++ en := sl_ext (by rw [sl_app, sl_app, sl_app, sl_app, List.append_assoc])
      rw [eas] at gd lx
      refine ⟨_, rfl, _, _, rfl, rfl, big6 (by omega), _, rfl, _, _, rfl, rfl, big6 (by rw [len_app]; omega), _, rfl, _, 1 + v, rfl, hn, by rw [len_app, len_app]; omega, .inr ⟨gd, ps, some (ln.length + 2), lx, fun z => (by cases z), fun col hc H9 T s9 hT => ?_⟩⟩
      cases hc
      refine ⟨_, rfl, _, rfl, ln, rfl, big6 (by omega), _, _, rfl, rfl, (by show 3 ≤ sizeLine; decide), fun U hU => ?_⟩
      refine ⟨pyEr (1 + v) ((ln.length + 2 : Nat) : Int) (Str.ofString "quoted"), pyEr (1 + v) ((ln.length + 2 : Nat) : Int) (Str.ofString "quoted"), dp_er (Same.new hU _ _ hT), dp_er upd_same, shaped_er _ _ (by decide +kernel), shaped_er _ _ (by decide +kernel), ?_⟩
      rw [eqv_er]
      exact k _
    · have em : sl (Str.ofString "") = [] := by decide +kernel
      have e3 : sl (Str.ofString "   ") = [32, 32, 32] := by decide +kernel
      have fin : ∀ (q : Addr) (H9 : Hp) (U : Addr), PcsAt H9 q [] → H9 U = none → Dp K (upd H9 U (.lst [])) (.ref q) (pyPcs []) ∧ Dp K (upd H9 U (.lst [])) (.ref U) (pyPcs []) := fun q H9 U h hU =>
        ⟨dp_pcs (h.same (Same.new hU)), dp_pcs ⟨[], upd_same, .nil⟩⟩
      have good0 : ∀ c ∈ sl (Str.ofString ""), signB c = true := fun c hc => by
        rw [em] at hc
        cases hc
      have good3 : ∀ c ∈ sl (Str.ofString "   "), signB c = true := fun c hc => by
        rw [e3] at hc
        simp at hc
        rw [hc]
        rfl
      have lex0 : Lex (sl (Str.ofString "")) 0 [] none := by
        rw [em]
        exact .done
      have lex3 : Lex (sl (Str.ofString "   ")) 0 [] none := lex_none fun c hc => by
        rw [e3] at hc
        simp at hc
        exact hc
      refine ⟨_, rfl, _, 1 + v, rfl, hn, (by decide +kernel), .inr ⟨good0, [], none, lex0, fun _ H9 q s9 hq => ?_, fun col hc => (by cases hc)⟩⟩
      refine ⟨(by show 0 ≤ sizeLine; decide), fun U hU => ?_⟩
      obtain ⟨f1, f2⟩ := fin q H9 U hq hU
      refine ⟨pyPcs [], pyPcs [], f1, f2, shaped_pcs (fun p hp => absurd hp List.not_mem_nil), shaped_pcs (fun p hp => absurd hp List.not_mem_nil), _, rfl, ?_⟩
      rw [eqv_pcs]
      refine iteT ?_
      refine ⟨_, rfl, _, 1 + v, rfl, hn, (by decide +kernel), .inr ⟨good3, [], none, lex3, fun _ H10 q2 s10 hq2 => ?_, fun col hc => (by cases hc)⟩⟩
      refine ⟨(by show 0 ≤ sizeLine; decide), fun U2 hU2 => ?_⟩
      obtain ⟨f3, f4⟩ := fin q2 H10 U2 hq2 hU2
      refine ⟨pyPcs [], pyPcs [], f3, f4, shaped_pcs (fun p hp => absurd hp List.not_mem_nil), shaped_pcs (fun p hp => absurd hp List.not_mem_nil), ?_⟩
      rw [eqv_pcs]
      exact k _
end
end Sx

set_option Elab.async false
set_option linter.all false
set_option maxRecDepth 100000
set_option maxHeartbeats 0
namespace Sx
open PySem PySem.Spec PyProof.Rows L2 SxK
theorem facts {P : Program} (hfile : P.main.file = xTextError.file) (htop : (P.main.scope.names.lookup ("super" : Str)).isSome = false) {w : World} {K : PySem.W.Frag} {h : Heap} {mg : Str → Option Value} {f : Addr} (X : K.In h) (G : h.Ns mainGlobals mg) (hfa : mg ("law" : Str) = some (.ref f)) (c : SxK.SaysX fa fn xs K) :
    ∃ fd : FuncData, (∀ (s : Shared) (v : Value), BindsTo s fd ⟨[v], []⟩ [("script", v)]) ∧ ∀ base : Heap, K.In base → base.Ns mainGlobals mg → FnOk P w K mg base CX0 7 f fd ["script"] (spLaw K) := by
  have t : T K mg := ⟨c, h, X, G⟩
  obtain ⟨fd, F⟩ := t.d_law
  have e := hfa.symm.trans t.g_law
  cases e
  have b := FunD.bindsA (ps := ["script"]) F fun _ _ _ _ _ _ us hl => match us, hl with | [_], _ => rfl
  exact ⟨fd, fun s v => b s [v] rfl, fun base _ _ => ok_law t (t.e_TextError hfile htop) F⟩
end Sx
open PySem PySem.W PySem.Calls PyProof.Rows
set_option maxRecDepth 100000 in
set_option maxHeartbeats 0 in
theorem PySem.Challenge.cw_sixdot_k01_pieces_of_a_line_holds : PySem.Challenge.rw_sixdot_k01_pieces_of_a_line.Holds := by
  w_on; o_law
  refine HandSHeadRun.head_any (r := OpenLaw.row PySem.Challenge.rw_sixdot_k01_pieces_of_a_line) (q := view (OpenLaw.row PySem.Challenge.rw_sixdot_k01_pieces_of_a_line).prog [24]) (H := Sx.hk) (ob := Sx.ob) (M := 4000) (loose := Sx.loose) (d := HandSHeadRun.topDef (OpenLaw.row PySem.Challenge.rw_sixdot_k01_pieces_of_a_line).prog 24) (kwd := []) Sx.ob_eq
    (by kernel_rfl) (fun s => by kernel_rfl) Sx.run (by kernel_rfl) (by kernel_rfl) (by kernel_rfl) (by rfl) (by first | assumption | decide +kernel) (by decide +kernel) ⟨rfl, rfl, rfl, rfl, rfl, by decide +kernel⟩ ?hw ?hc
  case hw => w_witness2
  case hc =>
    refine L2.walk_ofE (l := PySem.Challenge.rw_sixdot_k01_pieces_of_a_line) (n := 63) (k := 7) (x := "script") (CX := L2.CX0) rfl (by decide) (by kernel_rfl) ⟨rfl, by decide, by decide⟩ ?F (fun _ _ _ _ z => z)
    intro w mg fa h Y G hmg0
    obtain ⟨K, KX, c⟩ := Y
    have hmg : mg ("law" : PySem.Str) = some (.ref fa) := by
      have e : (HandSHeadRun.topDef (OpenLaw.row PySem.Challenge.rw_sixdot_k01_pieces_of_a_line).prog 24).name = ("law" : PySem.Str) := by kernel_rfl
      rw [← e]
      exact hmg0
    obtain ⟨fd, hb, hF⟩ := Sx.facts (P := (PySem.Challenge.rw_sixdot_k01_pieces_of_a_line).prog) (w := w) (by kernel_rfl) (by kernel_rfl) KX G hmg c
    exact ⟨K, fd, Sx.spLaw K, KX, hb, fun H a ns hl _ hS => ⟨a, ns, rfl, hS, hl, fun _ => rfl⟩, hF⟩
