import PyProof.Rows.All
import Wide.All
import OpenK.AllK
import Wide.FinOn
import PyProof.StrWalks
import PyProof.Draws
import KE.KExcSuper
import HandS.ForMost
import HandS.Exc
import HandS.ExcInit
import HandS.ExcField
import HandS.ExcOwn
import HandS.FStr
import HandS.Defaults
import KE.KStateDown
import HandS.MakeKwOnly
import HandS.Head0
import HandS.Head1
import HandS.Head2
import HandS.HeadEnd
import HandS.HeadHook1
import HandS.HeadHook2
import HandS.HeadHook3
import HandS.WrittenGet
import HandS.ExcIs
import Wide.Once
import PyProof.Rows.SetFrom
import KE.KRevIter
import HandS.Rev
import HandS.RevTup
import HandS.Style
import HandS.Flow
import HandS.WideBits
import HandS.Codes
import HandS.IsInst
import HandS.ForDict
import HandS.More
import HandS.Zip
import HandS.RevRange
import HandS.TupAny
import HandS.Walk
import KE.GoesEnumKw
import HandS.Call
import KE.GoesEnum
import KE.GoesMore
import HandS.Text
import PyProof.JoinWalk
import HandS.StrMore
import PySem.Challenge.RW_sixdot_k30_shapes_and_marks
set_option Elab.async false
set_option linter.all false
set_option maxRecDepth 100000
set_option maxHeartbeats 4000000
/-! rules that the layer lacks: enumerate over a text; two except clauses of which the first one has a name; super().__init__ of an own exception -/
namespace SxK
open PySem PySem.Spec PyProof.Rows L2
abbrev sgn (c : Nat) : Str := ⟨#[c]⟩
/-! ### for i, c in enumerate(text) -/
def Ise (z : Str) : It :=
  ⟨fun i _ => i < z.cps.size, fun i H v H' => ∃ T c, v = .ref T ∧ H T = none ∧ H' = upd H T (.tup [.int (i : Nat), .str (sgn c)]) ∧ z.cps[i]? = some c, fun i _ => z.cps.size ≤ i⟩
theorem drawsT {P : Program} {w : World} {A : Around} (hh : A.handled = none) (it : Addr) (z : Str) (t : Tok) : Draws P w A it [it] z.cps.size (SignAt z) (fun i h => h.IsStrIter it (strIterType z) z t i) := by
  unfold strIterType
  cases z.cps.all (· < 128)
  · exact Draws.strWide hh it z t
  · exact Draws.strAscii hh it z t
theorem turn_enumT {P : Program} {w : World} {K : PySem.W.Frag} {elts : List Expr} {kk : Nat} {tpos : Pos} (z : Str) (t : Tok) (e it : Addr) :
    Turn P w K (.Tuple elts kk tpos) (Ise z) [e, it] e (fun i h => (∃ old, IsEnum h e it ((i : Nat) : Int) old) ∧ h.IsStrIter it (strIterType z) z t i ∧ e ≠ it ∧ i ≤ z.cps.size) where
  mem := List.mem_cons_self
  obj := fun i h st b hb => by
    obtain ⟨⟨old, he⟩, ⟨o, ho, hcl, hdt⟩, _, _⟩ := st
    rcases List.mem_cons.mp hb with q | q
    · subst q; exact ⟨_, he, fun v n => nomatch n⟩
    · rw [List.mem_singleton.mp q]; exact ⟨o, ho, fun v n => by rw [hdt] at n; cases n⟩
  keep := fun i h h' st k => by
    obtain ⟨⟨old, he⟩, ⟨o, ho, r⟩, hne, hle⟩ := st
    exact ⟨⟨old, k e List.mem_cons_self _ he⟩, ⟨o, k it (List.mem_cons_of_mem _ List.mem_cons_self) o ho, r⟩, hne, hle⟩
  item := by
    intro X hP hw hK hc i pins s σ H E I hf st hg
    subst hP hw hK
    obtain ⟨⟨old, he⟩, hit, hne, hle⟩ := st
    have el : e < s.heap.objs.size := Heap.lt_size he
    have il : it < s.heap.objs.size := by
      obtain ⟨_, q, _⟩ := id hit
      exact Heap.lt_size q
    have D : Draws X.prog X.w X.A.in1 it [it] z.cps.size (SignAt z) (fun i h => h.IsStrIter it (strIterType z) z t i) := drawsT (A := X.A.in1) (show X.A.in1.handled = none from I.ok.hd hc) it z t
    refine wpAny_pyNext_enum_itemD D he hit hg hne (fun q => hne (List.mem_singleton.mp q)) fun x h' tk hx ho hit' hT hsz hk => ?_
    obtain ⟨c, u, hcz, rfl⟩ := hx
    refine ⟨_, rfl, wpAny_letOwnedTupleGo_enum (s := { s with heap := h', toks := tk + 1 }) ho fun h2 he2 sb => ?_⟩
    have hT2 : h2.get? s.heap.objs.size = some { cls := .type "tuple", data := .seq #[.int i tk, .str ⟨#[c]⟩ u] } := (sb.2 _ (Nat.ne_of_gt el)).trans hT
    have nw : ObjOk X.prog X.w (upd H s.heap.objs.size (.tup [.int (i : Nat), .str (sgn c)])) h2 s.heap.objs.size (.tup [.int (i : Nat), .str (sgn c)]) :=
      ⟨(by show 2 ≤ sizeLine; decide), [.int i tk, .str ⟨#[c]⟩ u], .cons ⟨_, rfl⟩ (.cons ⟨_, rfl⟩ .nil), ⟨_, hT2, rfl, _, rfl⟩⟩
    have I1 : Inv X pins σ (upd H s.heap.objs.size (.tup [.int (i : Nat), .str (sgn c)])) { s with heap := h2, toks := tk + 1 } :=
      I.turnedNew (ch := [e, it]) (fun b ob hb q => by
        have b1 : b ≠ e := fun n => hb (by rw [n]; exact List.mem_cons_self)
        have b2 : b ≠ it := fun n => hb (by rw [n]; exact List.mem_cons_of_mem _ List.mem_cons_self)
        exact (sb.2 b b1).trans (hk b ob b1 b2 q)) hf (Nat.le_refl _) nw
    have e1 : ((i + 1 : Nat) : Int) = (i : Int) + 1 := by omega
    refine ⟨.ref s.heap.objs.size, _, I1, rfl, ⟨_, c, rfl, I.hok.fresh (Nat.le_refl _), rfl, hcz⟩, ⟨⟨_, by rw [e1]; exact he2⟩, ?_, hne, Nat.succ_le_of_lt hg⟩, fun b hb => ?_⟩
    · obtain ⟨o, ho2, r⟩ := hit'
      exact ⟨o, (sb.2 it (Ne.symm hne)).trans ho2, r⟩
    · have lt : b < s.heap.objs.size := by
        rcases List.mem_cons.mp hb with q | q
        · rw [q]; exact el
        · rw [List.mem_singleton.mp q]; exact il
      rw [upd_ne (Nat.ne_of_lt lt)]
      exact (hf b hb).1
  done := by
    intro X hP hw hK hc i pins s σ H E I hf st hg
    subst hP hw hK
    obtain ⟨⟨old, he⟩, hit, hne, hle⟩ := st
    have D : Draws X.prog X.w X.A.in1 it [it] z.cps.size (SignAt z) (fun i h => h.IsStrIter it (strIterType z) z t i) := drawsT (A := X.A.in1) (show X.A.in1.handled = none from I.ok.hd hc) it z t
    obtain ⟨f0, f1, f2, f3, f4, f5⟩ := hf it (List.mem_cons_of_mem _ List.mem_cons_self)
    have ei : i = z.cps.size := Nat.le_antisymm hle hg
    subst ei
    exact wpAny_pyNext_enum_endD D he hit fun h' eb => ⟨rfl, I.turned (t' := s.toks) (fun b o hb q => eb b o hb q) f0 f1 f3 f4 f5⟩
  self := fun A i s Q E st h => by
    obtain ⟨⟨_, he⟩, _⟩ := st
    exact wpAny_pyIter_enum he h
def iEnumT (ta : TA) : TI := fun σ H R => ta σ H fun vs H1 => ∃ z : Str, vs = [.str z] ∧ R (Ise z) H1
theorem pi_enumT {X : Cx} {e : Expr} {ta : TA} {p pos tpos : Pos} {elts : List Expr} {kk : Nat} (hg : Gl X "enumerate") (hm : X.mg "enumerate" = none) (ha : PA X [e] ta) (hs : starEach [e] X.env = [(false, eval e X.env)] := by rfl) :
    PI X (.Tuple elts kk tpos) (.Call (.Name "enumerate" p) [e] [] pos) (iEnumT ta) := by
  refine ⟨fun pins s σ H R I h => ?_⟩
  refine Call_ (ld_blt I hg hm boot_enumerate (PyProof.Rows.callWith_type1 (thn (ha.run pos pins s σ H _ I h) fun us s1 ⟨vs, H1, I1, r1, z, ez, q⟩ => ?_) hs rfl))
  subst ez
  cases r1 with
  | cons r rr =>
    cases rr
    obtain ⟨t, rfl⟩ := r
    have gt : ∀ b, b ∈ [s1.heap.objs.size + 1, s1.heap.objs.size] → s1.heap.objs.size ≤ b := fun b hb => by
      rcases List.mem_cons.mp hb with n | n
      · rw [n]; exact Nat.le_add_right _ _
      · rw [List.mem_singleton.mp n]; exact Nat.le_refl _
    refine call_enumerate_str fun h' he hit hsz hk => wpAny_pyIter_enum he ?_
    exact ⟨s1.heap.objs.size + 1, [s1.heap.objs.size + 1, s1.heap.objs.size], _, _, H1, rfl, I1.kept (t' := s1.toks) hk, turn_enumT z t (s1.heap.objs.size + 1) s1.heap.objs.size,
      ⟨⟨.none, he⟩, hit, Nat.succ_ne_self _, Nat.zero_le _⟩, fun b hb => I1.fpOk (gt b hb) (I1.hok.fresh (gt b hb)), q⟩
theorem for_enumT {z : Str} {g : TG} {tb : TS} {D : Ends} {σ : L2.St} {H : Hp} (Pv : Nat → L2.St → Hp → Prop) (h0 : Pv 0 σ H)
    (hs : ∀ (i c : Nat) (T : Addr) (σ : L2.St) (H : Hp), z.cps.toList[i]? = some c → Pv i σ H → H T = none → g (.ref T) σ (upd H T (.tup [.int (i : Nat), .str (sgn c)])) fun σ2 H2 => tb { D with nx := Pv (i + 1), ct := Pv (i + 1), bk := D.nx } σ2 H2)
    (hd : ∀ σ H, Pv z.cps.toList.length σ H → D.nx σ H) :
    ∃ W : Nat → Nat → L2.St → Hp → Prop, (∃ m, W 0 m σ H) ∧ ∀ i m σ H, W i m σ H → ((Ise z).stop i H ∧ D.nx σ H) ∨ ((Ise z).go i H ∧ ∃ N : L2.St → Hp → Prop, (∀ σ' H', N σ' H' → ∃ m', m' < m ∧ W (i + 1) m' σ' H') ∧
      ∀ v H', (Ise z).yld i H v H' → g v σ H' fun σ2 H2 => tb { D with nx := N, ct := N, bk := D.nx } σ2 H2) := by
  have hsz : z.cps.size = z.cps.toList.length := by simp
  refine ⟨fun i m σ H => m = z.cps.toList.length - i ∧ i ≤ z.cps.toList.length ∧ Pv i σ H, ⟨z.cps.toList.length, rfl, Nat.zero_le _, h0⟩, ?_⟩
  rintro i m σ H ⟨rfl, hi, p⟩
  by_cases lt : i < z.cps.toList.length
  · refine .inr ⟨by show i < z.cps.size; omega, Pv (i + 1), fun σ' H' q => ⟨z.cps.toList.length - (i + 1), by omega, rfl, lt, q⟩, ?_⟩
    rintro v H' ⟨T, c, rfl, hT, rfl, hc⟩
    exact hs i c T σ _ (by rw [Array.getElem?_toList]; exact hc) p hT
  · have e : i = z.cps.toList.length := by omega
    subst e
    exact .inl ⟨by show z.cps.size ≤ z.cps.toList.length; omega, hd σ H p⟩
end SxK

set_option Elab.async false
set_option linter.all false
set_option maxRecDepth 100000
set_option maxHeartbeats 4000000
namespace SxK
open PySem PySem.Spec PyProof.Rows L2
/-! ### try with clauses of which the first one, with a name, takes every exception that is due -/
/-- the ends behind a suite whose name in slot i goes -/
def dropAt (i : Nat) (D : Ends) : Ends := { nx := fun σ' H' => D.nx (σ'.set i none) H', rt := D.rt, bk := fun σ' H' => D.bk (σ'.set i none) H', ct := fun σ' H' => D.ct (σ'.set i none) H' }
def wFirst (K : PySem.W.Frag) (c : Value) (i : Nat) (ts : Addr → Value → Option Addr → TS) (D : Ends) : WX := fun cls d σ H =>
  PySem.W.exmOne K cls c = some true ∧ ∀ a, H a = none → ts a cls d (dropAt i D) (σ.set i (some (.ref a))) H
section
variable {X : Cx} {x n : Str} {c : Value} {i : Nat} {body suite : List Stmt} {b₀ : Stmt} {np pos pos' : Pos} {more : List ExceptHandler} {tb : WX → TS} {ts : Addr → Value → Option Addr → TS}
theorem ps_try_first (st : X.stack = X.env :: X.outer) (fr : X.env.frame = some X.env.locals) (nd : X.N.Nodup) (ni : X.N[i]? = some n) (nl : X.env.kindOf n = some .local) (nc : Names X x c)
    (tryB : ∀ (W : WX) (pn : List (Addr × Obj)) (xe : Value → Shared → Prop), Takes (X.tr pn xe) W → PassesOwn (model X.prog X.w) X.A X.env xe → PSs (X.tr pn xe) body (tb W))
    (suiteB : ∀ (a : Addr) (oe : Obj) (cls : Value) (d : Option Addr) (pn : List (Addr × Obj)), Zc cls d oe → (∃ vs, oe.data = .fields vs) → PSs (X.suite a ((a, oe) :: pn)) (b₀ :: suite) (ts a cls d)) :
    PS X (.Try body (.ExceptHandler (some (.Name x np)) (some n) (b₀ :: suite) pos' :: more) [] [] pos) (fun D σ H => tb (wFirst X.K c i ts D) D σ H) := by
  refine ⟨fun pins s σ H D I h => ?_⟩
  have okX := I.ok
  have afr : X.A.frames = some (X.env :: X.outer) := by rw [okX.frames, st]
  refine wpAny_Try_except (wpAny_mono ((tryB (wFirst X.K c i ts D) (X.pn ++ pins) _ (fun u s2 y => ?_) PassesOwn.looking).run [] s σ H D (I.toTry _) h) (fun f s1 q => ?_) (fun e s1 q => q))
  · obtain ⟨a, B, sJ, pins2, τ, G, cls, d, rfl, J0, inB, upS, air, free, osJ, gnJ, mt, wish⟩ := y
    have J : Inv X pins τ G sJ := J0.ofTry okX
    have air2 : Sky B (X.env :: X.outer) a (Zc cls d) X.env.locals s2.heap := by rw [← st]; exact air
    show wpAny (model X.prog X.w) X.A (noteFrame (.ref a) X.env) _ _ _
    refine Sky.land Zc.steady afr fr air2 fun hL flL upL => ?_
    have JL : Inv X pins τ G { s2 with heap := hL } := J.landed inB flL.1 (upS.trans upL) osJ gnJ
    obtain ⟨oL, vL, eL, zL, dL⟩ := flL.there
    have off : a ∉ frs (X.env :: X.outer) := fun hm => by
      obtain ⟨_, o', e', hnf⟩ := flL.2.2.1.mem hm
      rw [eL] at e'
      cases e'
      exact hnf _ dL
    have aL : a ≠ X.env.locals := fun z => off (List.mem_filterMap.mpr ⟨X.env, List.mem_cons_self, by rw [fr, z]⟩)
    have aF : a ∉ X.fs := fun hm => by
      obtain ⟨e, he, q⟩ := List.mem_filterMap.mp hm
      exact off (List.mem_filterMap.mpr ⟨e, List.mem_cons_of_mem _ he, q⟩)
    have SL := JL.suite eL dL free aL aF
    refine wpAny_handleBy_cons (codeAny_handlers_test ?_) (fun q => by cases q)
    have tyL : PySem.W.Looks (model X.prog X.w) hL (typeOf (.ref a)) cls := fun A Q E s k q => wpAny_typeOf_ref (k _ _ eL) (by rw [zL.1]; exact q)
    have mtL := PySem.W.exm_one (M := model X.prog X.w) JL.kIn tyL mt
    have named : ∀ {Q : Value → Shared → Prop} {E : Value → Shared → Prop}, Q c { s2 with heap := hL } → wpAny (model X.prog X.w) (X.A.mark (some (.ref a))) (eval (.Name x np) X.env) Q E { s2 with heap := hL } := fun {Q E} q => by
      rcases nc with ⟨g1, g2, m1 | ⟨m1, m2, m3⟩⟩
      · exact ld_glob (X := X.suite a ((a, oL) :: (X.pn ++ pins))) SL g1 m1 q g2
      · exact ld_blt (X := X.suite a ((a, oL) :: (X.pn ++ pins))) SL g1 m1 m2 q m3 g2
    refine named (mtL.here (codeAny_handlers_suite_as (HandSPX.lands_againZ flL fun hR flR upR => ?_)))
    have JR : Inv X pins τ G { s2 with heap := hR } := J.landed inB flR.1 ((upS.trans upL).trans upR) osJ gnJ
    obtain ⟨oR, vR, eR, zR, dR⟩ := flR.there
    refine store_ok (X := X.suite a ((a, oR) :: (X.pn ++ pins))) (v := .ref a) (JR.suite eR dR free aL aF) nd ni (.inl nl) rfl (fun s5 S5 => ?_) (.inr nl)
    refine wpAny_mono ((suiteB a oR cls d (X.pn ++ pins) zR ⟨_, dR⟩).run [] s5 _ G _ S5 (wish a free)) (fun f s6 q => ?_) (fun _ _ z => z.elim)
    have goes : ∀ {ρ : L2.St} {F : Hp} {Q : Shared → Prop}, Inv (X.suite a ((a, oR) :: (X.pn ++ pins))) [] ρ F s6 → (∀ s7, Inv X pins (ρ.set i none) F s7 → Q s7) →
        wpAny (model X.prog X.w) X.A (do bindName X.env n .none; unbindBehindTheSuite X.env n pos') (fun _ s7 => Q s7) X.xe s6 := fun {ρ F Q} Sx hq => gone_ok (Sx.unsuite okX) nd ni nl hq
    cases f with
    | ret u =>
      obtain ⟨v, ρ, F, Sx, rv, q⟩ := q
      exact goes Sx fun s7 J7 => ⟨_, _, _, J7, rv, q⟩
    | next =>
      obtain ⟨ρ, F, Sx, q⟩ := q
      exact goes Sx fun s7 J7 => ⟨_, _, J7, q⟩
    | brk =>
      obtain ⟨ρ, F, Sx, q⟩ := q
      exact goes Sx fun s7 J7 => ⟨_, _, J7, q⟩
    | cont =>
      obtain ⟨ρ, F, Sx, q⟩ := q
      exact goes Sx fun s7 J7 => ⟨_, _, J7, q⟩
  · cases f with
    | ret u =>
      obtain ⟨v, τ, G, J, rv, q⟩ := q
      exact ⟨v, τ, G, J.ofTry okX, rv, q⟩
    | next =>
      obtain ⟨τ, G, J, q⟩ := q
      exact wpAny_execs_nil ⟨τ, G, J.ofTry okX, q⟩
    | brk =>
      obtain ⟨τ, G, J, q⟩ := q
      exact ⟨τ, G, J.ofTry okX, q⟩
    | cont =>
      obtain ⟨τ, G, J, q⟩ := q
      exact ⟨τ, G, J.ofTry okX, q⟩
end
end SxK

set_option Elab.async false
set_option linter.all false
set_option maxRecDepth 100000
set_option maxHeartbeats 4000000
namespace SxK
open PySem PySem.Spec PyProof.Rows L2 PySem.Calls
/-! ### an __init__ whose first statement is super().__init__(e), the base's one ValueError's -/
structure SupC (P : Program) (K : PySem.W.Frag) (mg : Str → Option Value) (C fI cc cda : Addr) (nm q : Str) (params : Arguments) (body : List Stmt) (scope : Scope) (fd : FuncData) : Prop where
  ex : OexC K C
  fn : ∃ oc od kV doc pm an ct osl, fd = PySem.W.ksFn nm q params body scope .none kV doc pm an (.ref cda) ct cc ∧ K.lookup fI = some ⟨oc, od, .func fd, osl⟩
  cod : PySem.W.codeIn K (.ref cda) q = true
  file : ∃ cl cd vs sl tf file, K.lookup cda = some ⟨cl, cd, .fields vs, sl⟩ ∧ vs[2]? = some (.str file tf) ∧ ((P.main.file : Str) == file) = true
  cell : ∃ cl cd sl, K.lookup cc = some ⟨cl, cd, .cell (some (.ref C)), sl⟩
  opq : PySem.W.nsIn K cStatics "thirdparty.any" = some none
  ini : PySem.W.ks_superIn K C C "__init__" = some (some (.builtin "ValueError.__init__"))
  sub : PySem.W.mroIn K C (.ref C) = some true
  isB : PySem.W.subIn K (.ref C) (.type "ValueError") = some true
  sup : mg "super" = none
  top : (P.main.scope.names.lookup ("super" : Str)).isSome = false
  iC : PySem.W.findIn K (.ref C) "__init__" = some (some (.ref fI))
  tI : PySem.W.typeIn K (.ref fI) = some (.type "function")
section
variable {X : Cx} {pins : List (Addr × Obj)} {σ : L2.St} {H : Hp} {s : Shared} {a C u : Addr} {us : List Value} {Q : Value → Shared → Prop} {E : Value → Shared → Prop}
/-- the bound ValueError.__init__ is called: nothing of it is told -/
theorem mw_call (T : OexC X.K C) (I : Inv X pins σ H s) (e : H a = some (exo a C none)) (hu : s.heap.get? u = some (PySem.W.kxs_mw "ValueError.__init__" a)) (hl : us.length ≤ sizeLine) (h : ∀ s', Inv X pins σ H s' → Q .none s') :
    wpAny (model X.prog X.w) X.A (call (.ref u) us) Q E s := by
  obtain ⟨nm, q, N, bs, bm, sn, sub, ab, col, dd, k0, k1, k2, k3, k5, hC, hbm⟩ := T.cls
  obtain ⟨t1, ho⟩ := exo_at I.hok e
  obtain ⟨hp, g, d, t, os⟩ := s
  have FB := F.excBase_ValueError
  have mt : (Value.type "method-wrapper" == Value.type "method" || Value.type "method-wrapper" == Value.type "builtin_function_or_method" || Value.type "method-wrapper" == Value.type "method-wrapper") = true := by decide
  refine wpAny_call (codeAny_of_tree ?_); show wpAny _ X.A.in1 (callAny (.ref u) ⟨us, []⟩) _ _ _
  simp only [callAny]; refine wpAny_bind (wpAny_load hu ?_)
  simp only [PySem.W.kxs_mw, mt, if_true]
  refine PySem.W.KFB.if_so (by decide) (wpAny_bind (PySem.W.check_bound_init FB.toExcCallFacts (I.kIn _ _ hC) ho rfl (wpAny_bind (wpAny_pure (wpAny_pure ?_)))))
  refine ⟨plainId_quiet FB.init.plain _, codeAny_builtin FB.initEntry (PySem.W.exc_init_tree (cls := .ref C) (t0 := t1) (dv := none) (c2 := .none) (c3 := .none) (b4 := .bool false) ho hl fun h' k hx _ => ?_)⟩
  have J := I.write (t' := t) (x := a) (e := a) (o := exo a C none) (by rw [e]; exact True.intro) (.inl rfl) k ⟨_, hx⟩ (exo_ok hx)
  have eu : upd H a (exo a C none) = H := funext fun b => by
    by_cases hb : b = a
    · rw [hb, upd_same, e]
    · exact upd_ne hb
  rw [eu] at J
  exact h _ J
end
end SxK

set_option Elab.async false
set_option linter.all false
set_option maxRecDepth 100000
set_option maxHeartbeats 4000000
namespace SxK
open PySem PySem.Spec PyProof.Rows L2 PySem.Calls
/-- the context of such an __init__ -/
def cxSup (CX : CXT) (P : Program) (w : World) (K : PySem.W.Frag) (mg : Str → Option Value) (base : Heap) (N : List Str) (q : Str) (scope : Scope) (f cda cc : Addr) (A : Around) (outer : List Env) (s : Shared) (H : Hp) (E : XK) : Cx :=
  { prog := P, w := w, K := K, mg := mg, base := base, A := A.deeper (PySem.W.ksEnv q scope s.heap.objs.size f (.ref cda) cc), N := N, s_0 := s, H_0 := H, env := PySem.W.ksEnv q scope s.heap.objs.size f (.ref cda) cc, outer := outer,
    stack := PySem.W.ksEnv q scope s.heap.objs.size f (.ref cda) cc :: outer, ex := [], calm := true, fn := fun x => !(x == ("__class__" : Str)), pn := [],
    xe := fun e s' => wpAny (model P w) (A.deeper (PySem.W.ksEnv q scope s.heap.objs.size f (.ref cda) cc)) (leaving (PySem.W.ksEnv q scope s.heap.objs.size f (.ref cda) cc) e) (fun _ s'' => CX outer H s E e s'') (fun e' s'' => CX outer H s E e' s'') s' }
structure ScSup (scope : Scope) (ps : List Str) : Prop where
  kind : scope.kind = .function
  co : scope.isCoroutine = false
  gen : scope.isGenerator = false
  nd : ps.Nodup
  par : ∀ x ∈ ps, scope.names.lookup x = some .local
  nocell : ∀ y ∈ scope.names, y.2 ≠ .cell
  fre : ∀ y ∈ scope.names, y.2 = .free → y.1 = ("__class__" : Str)
  ks : scope.names.lookup ("super" : Str) = some .globalImplicit
  kc : scope.names.lookup ("__class__" : Str) = some .free
section
variable {CX : CXT} {P : Program} {w : World} {K : PySem.W.Frag} {mg : Str → Option Value} {base : Heap} {N ps : List Str} {q nm : Str} {scope : Scope} {C fI cda cc a : Addr} {A : Around} {outer : List Env} {s0 s : Shared} {H0 H : Hp} {E : XK}
  {params : Arguments} {body body2 : List Stmt} {fd : FuncData} {σ : L2.St} {p0 p1 p2 p3 p4 : Pos} {arg : Expr} {t : TA} {G : Hp → Prop} {m : Str → Option Value} {ar : Arg} {pl : Sem Bool}
theorem sup_first (S : SupC P K mg C fI cc cda nm q params body scope fd) (Z : ScSup scope ps) (hp : (params.posonlyargs ++ params.args).head? = some ar) (hpa : ar.arg ∈ ps)
    (I : Inv (cxSup CX P w K mg base N q scope fI cda cc A outer s0 H0 E) [] σ H s) (hns : s.heap.Ns s0.heap.objs.size m) (hv : m ar.arg = some (.ref a)) (e : H a = some (exo a C none))
    (ha : PA (cxSup CX P w K mg base N q scope fI cda cc A outer s0 H0 E) [arg] t)
    (hq : t σ H fun vs H1 => vs.length ≤ 1000 ∧ H1 a = some (exo a C none) ∧ G H1)
    (hs : starEach [arg] (PySem.W.ksEnv q scope s0.heap.objs.size fI (.ref cda) cc) = (false, eval arg (PySem.W.ksEnv q scope s0.heap.objs.size fI (.ref cda) cc)) :: starEach [] (PySem.W.ksEnv q scope s0.heap.objs.size fI (.ref cda) cc) := by rfl)
    (hi : interactive (PySem.W.ksEnv q scope s0.heap.objs.size fI (.ref cda) cc) = false := by rfl)
    (hsw : swapsWith (.Call (.Attribute (.Call (.Name "super" p0) [] [] p1) "__init__" p2) [arg] [] p3) none p4.line (PySem.W.ksEnv q scope s0.heap.objs.size fI (.ref cda) cc) = pure false := by rfl)
    (hev : eval (.Call (.Attribute (.Call (.Name "super" p0) [] [] p1) "__init__" p2) [arg] [] p3) (PySem.W.ksEnv q scope s0.heap.objs.size fI (.ref cda) cc) = (do
      let ov ← attributeBase (.Call (.Name "super" p0) [] [] p1) "__init__" (PySem.W.ksEnv q scope s0.heap.objs.size fI (.ref cda) cc) (eval (.Call (.Name "super" p0) [] [] p1) (PySem.W.ksEnv q scope s0.heap.objs.size fI (.ref cda) cc))
      standAt p2.atName
      let (f, first) ← holding [ov] (getMethod ov "__init__" pl)
      callWith p3 f first (backTo p3 (starEach [arg] (PySem.W.ksEnv q scope s0.heap.objs.size fI (.ref cda) cc))) []) := by rfl) :
    PySem.wpAt (model P w) (A.deeper (PySem.W.ksEnv q scope s0.heap.objs.size fI (.ref cda) cc)) (.func body2 (PySem.W.ksEnv q scope s0.heap.objs.size fI (.ref cda) cc))
      (exec (.Expr (.Call (.Attribute (.Call (.Name "super" p0) [] [] p1) "__init__" p2) [arg] [] p3) p4) (PySem.W.ksEnv q scope s0.heap.objs.size fI (.ref cda) cc))
      (fun f s' => f = .next ∧ ∃ H1, Inv (cxSup CX P w K mg base N q scope fI cda cc A outer s0 H0 E) [] σ H1 s' ∧ H1 a = some (exo a C none) ∧ G H1) (cxSup CX P w K mg base N q scope fI cda cc A outer s0 H0 E).xe s := by
  obtain ⟨oc, od, kV, doc, pm, an, ct, osl, efd, hf⟩ := S.fn
  subst efd
  obtain ⟨cl, cd, vs, sl, tf, file, hcode, hvs, hfile⟩ := S.file
  obtain ⟨cl2, cd2, sl2, hcell⟩ := S.cell
  obtain ⟨cn, cq, cN, bs, bm, sn, sub, ab, col, dd, k0, k1, k2, k3, k5, hC, hbm⟩ := S.ex.cls
  obtain ⟨t1, hx⟩ := exo_at I.hok e
  obtain ⟨mb, hb1, hb2⟩ := I.mod.blt
  have KI : K.In s.heap := I.kIn
  have hcd : PySem.W.clsIn K C = some { name := cn, bases := bs, mro := .ref C :: bm, ns := cN, qualname := cq, hasDict := true, slotNames := sn, subclasses := sub, abstract := ab, collection := col, hasDel := false } := by
    unfold PySem.W.clsIn
    rw [hC]
  have hax : a ≠ C := fun z => by
    have h1 := KI _ _ hC
    rw [← z, hx] at h1
    cases h1
  have hm : PySem.W.alongIn K "__init__" (((Value.ref C :: bm).dropWhile (· != .ref C)).drop 1) = some (some (.builtin "ValueError.__init__")) := by
    have h1 := S.ini
    unfold PySem.W.ks_superIn at h1
    rw [hcd] at h1
    exact h1
  refine ks_wpAt_Expr_any (ks_wpAt_MethodCall (ks_wpAt_super_base (env := PySem.W.ksEnv q scope s0.heap.objs.size fI (.ref cda) cc) Z.ks Z.kc (by decide) rfl (KI _ _ hf) rfl hp rfl (KI _ _ hcode) rfl hvs hfile S.top ?_) hev) hi hsw
  refine PySem.W.ks_loadName_global Z.kind Z.ks (loadGlobal_builtin (env := PySem.W.ksEnv q scope s0.heap.objs.size fI (.ref cda) cc) (I.mod.glob.keeps I.bk) S.sup (hb1.keeps I.bk) ((hb2 _ (by decide)).trans (by decide +kernel)) ⟨rfl, ?_⟩)
  refine wpAny_loadName_free Z.kind Z.kc (by rfl) ⟨_, KI _ _ hcell, rfl⟩ (wpAny_loadName_local Z.kind (Z.par _ hpa) hns hv ?_)
  obtain ⟨hh, g, d, tk, os⟩ := s
  refine ks_wpAny_isType_cls (KI _ _ hC) rfl ⟨rfl, ?_⟩
  refine ks_wpAny_call_super (KI _ _ hC) rfl hx rfl (fun c z => by cases z) (PySem.W.looks_mroIn KI S.sub) fun h1 e1 kp1 => ?_
  have K1 : K.In h1 := KI.keeps kp1
  have lx : PySem.W.Looks (model P w) h1 (isInstance (.ref a) (.type "ValueError")) true :=
    PySem.W.Looks.andThen (a := Value.ref C) (fun A Q E s k q => wpAny_typeOf_ref (k _ _ (kp1 _ _ hx)) q) (PySem.W.looks_subIn K1 S.isB)
  refine PySem.W.kxs_getMethod PySem.W.kxs_ValueError e1 (PySem.W.looks_opaque K1 S.opq) (l₀ := .ref C :: bm) ((PySem.W.looks_clsIn K1 hcd).andThen .now) rfl K1 hm lx hax (by decide) ?_
  have kp2 : ∀ b o, hh.get? b = some o → (h1.push (PySem.W.kxs_mw "ValueError.__init__" a)).get? b = some o := fun b o z => Heap.get?_push_of_some _ (kp1 _ _ z)
  have hu : (h1.push (PySem.W.kxs_mw "ValueError.__init__" a)).get? h1.objs.size = some (PySem.W.kxs_mw "ValueError.__init__" a) := Heap.get?_push_size _ rfl
  have I2 : Inv (cxSup CX P w K mg base N q scope fI cda cc A outer s0 H0 E) [] σ H ⟨h1.push (PySem.W.kxs_mw "ValueError.__init__" a), g, d, tk + 1, os⟩ := I.kept (t' := tk + 1) kp2
  have hle : hh.objs.size ≤ h1.objs.size := Nat.le_of_lt (Heap.lt_size e1)
  have I3 : Inv (cxSup CX P w K mg base N q scope fI cda cc A outer s0 H0 E) [(h1.objs.size, PySem.W.kxs_mw "ValueError.__init__" a)] σ H ⟨h1.push (PySem.W.kxs_mw "ValueError.__init__" a), g, d, tk + 1, os⟩ := I2.pins_of fun p hpp => by
    rw [List.mem_singleton.mp hpp]
    exact ⟨hu, I.hok.fresh hle, Nat.ne_of_gt (Nat.lt_of_lt_of_le I.lt hle), I.nofs hle, fun v z => by cases z⟩
  have run := ha.run p3 _ _ σ H _ I3 hq
  show wpAny _ _ (callWith p3 (.ref h1.objs.size) [] (backTo p3 (starEach [arg] (PySem.W.ksEnv q scope s0.heap.objs.size fI (.ref cda) cc))) []) _ _ _
  have run2 : wpAny (model P w) (A.deeper (PySem.W.ksEnv q scope s0.heap.objs.size fI (.ref cda) cc)) (spliced (backTo p3 (starEach [arg] (PySem.W.ksEnv q scope s0.heap.objs.size fI (.ref cda) cc)))) _ _ _ := run
  rw [hs] at run2 ⊢
  refine PySem.W.kxs_callWith (i := "ValueError.__init__") (x := a) rfl (evalArgs_plain (thn run2 fun us s4 h4 => ?_))
  obtain ⟨vs4, H4, I4, r4, l4, e4, q4⟩ := h4
  have hu4 := (I4.pin _ (List.mem_append_right _ List.mem_cons_self)).1
  refine ⟨hu4, mw_call (X := cxSup CX P w K mg base N q scope fI cda cc A outer s0 H0 E) S.ex I4 e4 hu4 (by rw [List.nil_append, ← r4.length, sizeLine_eq]; omega) fun s5 J5 => ?_⟩
  exact ⟨rfl, H4, J5.pins_of (pins' := []) (fun p hpp => absurd hpp (List.not_mem_nil)), e4, q4⟩
end
end SxK

set_option Elab.async false
set_option linter.all false
set_option maxRecDepth 100000
set_option maxHeartbeats 4000000
namespace SxK
open PySem PySem.Spec PyProof.Rows L2 PySem.Calls
theorem look_rev : ∀ (ps : List Str) (us : List Value) (i : Nat) (x : Str) (u : Value), ps.Nodup → ps[i]? = some x → us[i]? = some u → (ps.zip us).reverse.lookup x = some u
  | [], _, _, _, _, _, h, _ => by simp at h
  | _ :: _, [], _, _, _, _, _, h => by simp at h
  | p :: ps, v :: us, i, x, u, nd, h1, h2 => by
    obtain ⟨n1, n2⟩ := List.nodup_cons.mp nd
    rw [List.zip_cons_cons, List.reverse_cons, List.lookup_append]
    cases i with
    | zero =>
      have e1 : p = x := by simpa using h1
      have e2 : v = u := by simpa using h2
      subst e1 e2
      have e3 : (ps.zip us).reverse.lookup p = none := by
        rw [List.lookup_eq_none_iff]
        intro q hq
        have h3 := (List.of_mem_zip (List.mem_reverse.mp hq : (q.1, q.2) ∈ ps.zip us)).1
        have h4 : p ≠ q.1 := fun z => n1 (by rw [z]; exact h3)
        simpa using h4
      rw [e3]
      simp [List.lookup]
    | succ i => rw [look_rev ps us i x u n2 (by simpa using h1) (by simpa using h2)]; rfl
section
variable {CX : CXT} {P : Program} {w : World} {K : PySem.W.Frag} {mg : Str → Option Value} {base : Heap} {ps : List Str} {q nm : Str} {scope : Scope} {C fI cda cc : Addr}
  {params : Arguments} {rest : List Stmt} {fd : FuncData} {p0 p1 p2 p3 p4 : Pos} {arg : Expr} {ar : Arg} {pl : Sem Bool} {sp : Sp} {k : Nat}
theorem sup_start {body : List Stmt} {A : Around} {outer : List Env} {s : Shared} {H : Hp} {E : XK} {us : List Value} {vs : List V} {h0 : Heap} {tk : Nat} (S : SupC P K mg C fI cc cda nm q params body scope fd) (Z : ScSup scope ps)
    (hd : A.handled = none) (e0 : Env0 P w K mg base A outer s H) (hl : vs.length = ps.length) (r : Vals vs us) (hns : h0.Ns s.heap.objs.size (fun x => (ps.zip us).reverse.lookup x)) (hk : ∀ b o, s.heap.get? b = some o → h0.get? b = some o) :
    Inv (cxSup CX P w K mg base ps q scope fI cda cc A outer s H E) [] (start ps vs) H { s with heap := h0, toks := tk } := by
  obtain ⟨cl2, cd2, sl2, hcell⟩ := S.cell
  have hc0 := e0.bs _ _ (e0.mod.kin _ _ hcell)
  have none_in : ∀ b : Addr, b ∉ (cxSup CX P w K mg base ps q scope fI cda cc A outer s H E).ex := fun b z => absurd (show b ∈ ([] : List Addr) from z) List.not_mem_nil
  have cells : ∀ y c, (cxSup CX P w K mg base ps q scope fI cda cc A outer s H E).env.cells.lookup y = some c → y = ("__class__" : Str) ∧ c = cc := fun y c z => by
    have z1 : List.lookup y [(("__class__" : Str), cc)] = some c := z
    by_cases hy : y = ("__class__" : Str)
    · subst hy
      have z2 : List.lookup ("__class__" : Str) [(("__class__" : Str), cc)] = some cc := by simp [List.lookup]
      rw [z2] at z1
      exact ⟨rfl, (Option.some.inj z1).symm⟩
    · have q1 : (y == ("__class__" : Str)) = false := by simpa using hy
      simp [List.lookup, q1] at z1
  have upto : ∀ i v, (start ps vs)[i]? = some (some v) → vs[i]? = some v := fun i v z => by
    unfold L2.start at z
    rw [hl, Nat.sub_self, List.replicate_zero, List.append_nil, List.getElem?_map] at z
    cases n : vs[i]? with
    | none => rw [n] at z; cases z
    | some a => rw [n] at z; cases z; rfl
  refine ⟨⟨e0.mod, Z.kind, rfl, rfl, Nat.le_refl _, fun y z c h1 h2 => by rw [(cells _ _ h1).1, (cells _ _ h2).1], fun y hy => ?_, fun y c h1 h2 => ?_, fun _ => hd, Around.frames_deeper e0.frames, .inr ⟨rfl, rfl⟩, fun b z => absurd z (none_in b), e0.bs, e0.bsz, fun b _ _ => none_in b,
      fun b z => absurd z (none_in b), e0.funs, e0.frf⟩, rfl, e0.bare, Un.kept hk, ⟨_, hns, fun i y v h1 h2 h3 => ?_⟩, fun y c h => ?_, e0.hok.fresh (Nat.le_refl _), fun y c h => ?_, fun p hp => absurd (show p ∈ ([] : List (Addr × Obj)) from hp) List.not_mem_nil, e0.hok.kept hk, ?_⟩
  · have hy' : scope.names.lookup y = some .cell ∨ scope.names.lookup y = some .free := hy
    rcases hy' with z | z
    · exact absurd rfl (Z.nocell _ (PySem.mem_of_lookup z))
    · have e1 := Z.fre _ (PySem.mem_of_lookup z) rfl
      have e2 : y = ("__class__" : Str) := e1
      subst e2
      exact ⟨cc, by show List.lookup ("__class__" : Str) [(("__class__" : Str), cc)] = some cc; simp [List.lookup]⟩
  · have h1' : (!(y == ("__class__" : Str))) = true := h1
    rw [(cells _ _ h2).1] at h1'
    simp at h1'
  · obtain ⟨u, hu, rv⟩ := r.get (upto i v h2)
    exact ⟨u, rv, .inl ⟨Z.par y (List.mem_of_getElem? h1), look_rev ps us i y u Z.nd h1 hu⟩⟩
  · rw [(cells _ _ h).2]
    exact ⟨_, _, hk _ _ hc0.1, rfl⟩
  · rw [(cells _ _ h).2]
    exact hc0.2
  · unfold L2.start
    show _ = ps.length
    rw [List.length_append, List.length_map, List.length_replicate]
    omega
theorem fn_sup (S : SupC P K mg C fI cc cda nm q params (.Expr (.Call (.Attribute (.Call (.Name "super" p0) [] [] p1) "__init__" p2) [arg] [] p3) p4 :: rest) scope fd) (Z : ScSup scope ps)
    (hp : (params.posonlyargs ++ params.args).head? = some ar) (hps : ps[0]? = some ar.arg) (len : ∀ vs H Q E, sp vs H Q E → vs.length = ps.length)
    (body : ∀ (A : Around) (outer : List Env) (s : Shared) (H : Hp) (vs : List V) (Q : VK) (E : XK), Room k (A.deeper (PySem.W.ksEnv q scope s.heap.objs.size fI (.ref cda) cc)) → sp vs H Q E →
      ∃ (t : TA) (t2 : TS) (a : Addr) (vr : List V), PA (cxSup CX P w K mg base ps q scope fI cda cc A outer s H E) [arg] t ∧ PSs (cxSup CX P w K mg base ps q scope fI cda cc A outer s H E) rest t2 ∧ vs = .ref a :: vr ∧ H a = some (exo a C none) ∧
        t (start ps vs) H fun us H1 => us.length ≤ 1000 ∧ H1 a = some (exo a C none) ∧ t2 { nx := fun _ H' => Q .non H', rt := Q } (start ps vs) H1)
    (hs : ∀ L, starEach [arg] (PySem.W.ksEnv q scope L fI (.ref cda) cc) = (false, eval arg (PySem.W.ksEnv q scope L fI (.ref cda) cc)) :: starEach [] (PySem.W.ksEnv q scope L fI (.ref cda) cc))
    (hi : ∀ L, interactive (PySem.W.ksEnv q scope L fI (.ref cda) cc) = false)
    (hsw : ∀ L, swapsWith (.Call (.Attribute (.Call (.Name "super" p0) [] [] p1) "__init__" p2) [arg] [] p3) none p4.line (PySem.W.ksEnv q scope L fI (.ref cda) cc) = pure false)
    (hev : ∀ L, eval (.Call (.Attribute (.Call (.Name "super" p0) [] [] p1) "__init__" p2) [arg] [] p3) (PySem.W.ksEnv q scope L fI (.ref cda) cc) = (do
      let ov ← attributeBase (.Call (.Name "super" p0) [] [] p1) "__init__" (PySem.W.ksEnv q scope L fI (.ref cda) cc) (eval (.Call (.Name "super" p0) [] [] p1) (PySem.W.ksEnv q scope L fI (.ref cda) cc))
      standAt p2.atName
      let (f, first) ← holding [ov] (getMethod ov "__init__" pl)
      callWith p3 f first (backTo p3 (starEach [arg] (PySem.W.ksEnv q scope L fI (.ref cda) cc))) [])) : FnOk P w K mg base CX (k + 1) fI fd ps sp := by
  refine ⟨len, fun A outer s H args us vs Q E hr e0 hb r hsp => ?_⟩
  have hl := len _ _ _ _ hsp
  obtain ⟨t, t2, a, vr, ha, hr2, evs, he, hq⟩ := body A outer s H vs Q E (hr.deeper _) hsp
  have KX : K.In s.heap := e0.mod.kin.keeps fun b o e => (e0.bs b o e).1
  have lim : s.heap.NoLimit := e0.mod.nolimit.keeps fun b o e => (e0.bs b o e).1
  obtain ⟨u0, hu0, ru0⟩ := r.get (i := 0) (x := V.ref a) (by rw [evs]; rfl)
  obtain rfl : u0 = Value.ref a := ru0
  obtain ⟨oc, od, kV, doc, pm, an, ct, osl, efd, hf⟩ := id S.fn
  refine ks_codeAny_call_defAt (fd := fd) (body := .Expr (.Call (.Attribute (.Call (.Name "super" p0) [] [] p1) "__init__" p2) [arg] [] p3) p4 :: rest) (binds := ps.zip us) hr.depth (KX _ _ hf) rfl lim
    (by rw [efd]; exact PySem.W.codeRec_of KX S.cod) (by rw [efd]) hb (by rw [efd]; exact Z.nocell) (by rw [efd]; exact fun y hy => Z.par _ (List.of_mem_zip (show (y.1, y.2) ∈ ps.zip us from hy)).1) (fun h0 hns hk => ?_) (by rw [efd]; exact Z.co) (by rw [efd]; exact Z.gen) (by rw [efd]; exact Z.kind)
  have I : Inv (cxSup CX P w K mg base ps q scope fI cda cc A outer s H E) [] (start ps vs) H { s with heap := h0, toks := s.toks + (ps.zip us).length } := sup_start S Z hr.hd e0 hl r hns hk
  have ee : callEnv fd s.heap.objs.size fI = PySem.W.ksEnv q scope s.heap.objs.size fI (.ref cda) cc := by rw [efd]; rfl
  rw [ee]
  refine ks_wpAt_execs_cons (ks_wpAt_mono (sup_first S Z hp (List.mem_of_getElem? hps) I hns (look_rev ps us 0 _ _ Z.nd hps hu0) he ha hq (hs _) (hi _) (hsw _) (hev _)) (fun f s1 h1 => ?_) fun e s1 h1 => h1)
  obtain ⟨rfl, H1, I1, e1, q1⟩ := h1
  refine wpAt_of_wpAny (wpAny_mono (hr2.run [] s1 (start ps vs) H1 _ I1 q1) (fun fl s2 h2 => ?_) fun e s2 h2 => h2)
  cases fl with
  | ret u =>
    obtain ⟨v, σ', H', J, rv, z⟩ := h2
    exact ⟨v, H', J.os, J.bare, J.base, J.hok, rv, z⟩
  | next =>
    obtain ⟨σ', H', J, z⟩ := h2
    exact ⟨V.non, H', J.os, J.bare, J.base, J.hok, rfl, z⟩
  | brk => obtain ⟨_, _, _, z⟩ := h2; exact z.elim
  | cont => obtain ⟨_, _, _, z⟩ := h2; exact z.elim
end
end SxK

set_option Elab.async false
set_option linter.all false
set_option maxRecDepth 100000
set_option maxHeartbeats 2000000
namespace SxK
open PySem PySem.Spec PyProof.Rows L2
/-! ### facts of own exceptions, read at the head -/
def oexB (K : PySem.W.Frag) (C : Addr) : Bool := match K.lookup C with
  | some ⟨.type "type", _, .cls cd, sl⟩ => (match cd.mro, sl.toList with
    | .ref C' :: bm, [_, _, _, _, some (.builtin n), _] => decide (C' = C) && (decide (n = "ValueError.__new__") && (!cd.hasDel && (cd.hasDict && PySem.HandSPX.refsVE bm)))
    | _, _ => false)
  | _ => false
theorem oexB_ok {K : PySem.W.Frag} {C : Addr} (h : oexB K C = true) :
    ∃ nm q N bs bm sn sub ab col dd k0 k1 k2 k3 k5, K.lookup C = some (excClassObj nm q C N bs bm true sn sub ab col dd k0 k1 k2 k3 k5 "ValueError.__new__") ∧ PySem.HandSPX.refsVE bm = true := by
  unfold oexB at h
  split at h
  · rename_i dd cd sl ho
    split at h
    · rename_i C' bm k0 k1 k2 k3 n k5 hm hs
      obtain ⟨nm, bs, mro, ns, qn, hd, sn, sb, ab, col, del⟩ := cd
      obtain ⟨l⟩ := sl
      have hs' : l = [k0, k1, k2, k3, some (.builtin n), k5] := hs
      have hm' : mro = .ref C' :: bm := hm
      subst hs' hm'
      obtain ⟨h1, h⟩ := Bool.and_eq_true_iff.mp h
      obtain ⟨h2, h⟩ := Bool.and_eq_true_iff.mp h
      obtain ⟨h3, h⟩ := Bool.and_eq_true_iff.mp h
      obtain ⟨h4, h5⟩ := Bool.and_eq_true_iff.mp h
      have h1' := of_decide_eq_true h1
      have h2' := of_decide_eq_true h2
      have h3' : del = false := by simpa using h3
      have h4' : hd = true := h4
      subst h1' h2' h3' h4'
      exact ⟨_, _, _, _, _, _, _, _, _, _, _, _, _, _, _, ho, h5⟩
    · cases h
  · cases h
abbrev FnS : Type := Option (Str × Str × Arguments × FuncBody × Scope × Addr × Addr)
/-- one such class: its name, its __init__ -/
structure SupD where
  cls : Str
  qual : Str
  params : Arguments
  body : List Stmt
  scope : Scope
  file : Str
  ats : List Str
  no : List Str
def SupD.I (K : PySem.W.Frag) (d : SupD) : Addr := He.ma K (He.ga K d.cls) "__init__"
def SupD.obs (K : PySem.W.Frag) (d : SupD) : FnS := match K.lookup (d.I K) with
  | some ⟨_, _, .func fd, _⟩ => some (fd.name, fd.qualname, fd.params, fd.body, fd.scope, fd.globals, fd.builtins)
  | _ => none
def SupD.val (d : SupD) : FnS := some ("__init__", d.qual, d.params, .stmts d.body, d.scope, mainGlobals, builtinsNs)
def SupD.fnB (K : PySem.W.Frag) (d : SupD) : Bool := match K.lookup (d.I K) with
  | some ⟨_, _, .func fd, _⟩ => (match fd.defaults, fd.code, fd.closure with
    | .none, .ref cda, [(n, cc)] => decide (n = "__class__") && (PySem.W.codeIn K (.ref cda) d.qual && ((match K.lookup cda with
        | some ⟨_, _, .fields vs, _⟩ => (match vs[2]? with
          | some (Value.str f _) => decide (f = d.file)
          | _ => false)
        | _ => false) && (match K.lookup cc with
        | some ⟨_, _, .cell (some (.ref D)), _⟩ => decide (D = He.ga K d.cls)
        | _ => false)))
    | _, _, _ => false)
  | _ => false
def SupD.ok (K : PySem.W.Frag) (d : SupD) : Bool :=
  oexB K (He.ga K d.cls) && (xfB K (He.ga K d.cls) && (d.fnB K && (He.eqO (PySem.W.findIn K (.ref (He.ga K d.cls)) "__setattr__") (some (some (.builtin "object.__setattr__"))) && (
  decide (PySem.W.subIn K (.ref (He.ga K d.cls)) (.type "BaseException") = some true) && (decide (PySem.W.typeIn K (.ref (He.ga K d.cls)) = some (.type "type")) && (PySem.W.keepIn K (.ref (He.ga K d.cls)) && (
  He.eqO (PySem.W.nsIn K cStatics "thirdparty.any") (some none) && (He.eqO (PySem.W.ks_superIn K (He.ga K d.cls) (He.ga K d.cls) "__init__") (some (some (.builtin "ValueError.__init__"))) && (
  decide (PySem.W.mroIn K (He.ga K d.cls) (.ref (He.ga K d.cls)) = some true) && (decide (PySem.W.subIn K (.ref (He.ga K d.cls)) (.type "ValueError") = some true) && (He.eqO (PySem.W.nsIn K mainGlobals "super") (some none) && (
  He.eqO (PySem.W.findIn K (.ref (He.ga K d.cls)) "__init__") (some (some (.ref (d.I K)))) && (decide (PySem.W.typeIn K (.ref (d.I K)) = some (.type "function")) && (He.eqO (PySem.W.nsIn K mainGlobals d.cls) (some (some (.ref (He.ga K d.cls)))) && (
  decide (PySem.W.exmOne K (.ref (He.ga K d.cls)) (.ref (He.ga K d.cls)) = some true) &&
  ((d.no.all fun c => decide (PySem.W.exmOne K (.ref (He.ga K d.cls)) (.ref (He.ga K c)) = some false)) && d.ats.all fun f => He.eqO (PySem.W.findIn K (.ref (He.ga K d.cls)) f) (some none)))))))))))))))))
/-- what is known of such a class -/
structure ErrC (P : Program) (K : PySem.W.Frag) (mg : Str → Option Value) (d : SupD) : Prop where
  sup : ∃ cc cda fd, SupC P K mg (He.ga K d.cls) (d.I K) cc cda "__init__" d.qual d.params d.body d.scope fd
  xf : XfC K (He.ga K d.cls)
  glob : mg d.cls = some (.ref (He.ga K d.cls))
  exm : PySem.W.exmOne K (.ref (He.ga K d.cls)) (.ref (He.ga K d.cls)) = some true
  ats : ∀ f ∈ d.ats, PySem.W.findIn K (.ref (He.ga K d.cls)) f = some none
  no : ∀ c ∈ d.no, PySem.W.exmOne K (.ref (He.ga K d.cls)) (.ref (He.ga K c)) = some false
theorem SupD.err {P : Program} {K : PySem.W.Frag} {mg : Str → Option Value} {d : SupD} {h : Heap} (X : K.In h) (G : h.Ns mainGlobals mg) (e : d.obs K = d.val) (c : d.ok K = true) (hfile : P.main.file = d.file)
    (htop : (P.main.scope.names.lookup ("super" : Str)).isSome = false) : ErrC P K mg d := by
  unfold SupD.ok at c
  obtain ⟨c1, c⟩ := He.ba c
  obtain ⟨c2, c⟩ := He.ba c
  obtain ⟨c3, c⟩ := He.ba c
  obtain ⟨c4, c⟩ := He.ba c
  obtain ⟨c5, c⟩ := He.ba c
  obtain ⟨c6, c⟩ := He.ba c
  obtain ⟨c7, c⟩ := He.ba c
  obtain ⟨c8, c⟩ := He.ba c
  obtain ⟨c9, c⟩ := He.ba c
  obtain ⟨c10, c⟩ := He.ba c
  obtain ⟨c11, c⟩ := He.ba c
  obtain ⟨c12, c⟩ := He.ba c
  obtain ⟨c13, c⟩ := He.ba c
  obtain ⟨c14, c⟩ := He.ba c
  obtain ⟨c15, c⟩ := He.ba c
  obtain ⟨c16, c⟩ := He.ba c
  obtain ⟨c18, c17⟩ := He.ba c
  refine ⟨?_, xfB_ok c2, PySem.W.mg_of X G (He.eqO_ok c15), of_decide_eq_true c16, fun f hf => He.eqO_ok (List.all_eq_true.mp c17 f hf), fun c hc => of_decide_eq_true (List.all_eq_true.mp c18 c hc)⟩
  have ex : OexC K (He.ga K d.cls) := ⟨oexB_ok c1, He.eqO_ok c4, of_decide_eq_true c5, of_decide_eq_true c6, c7⟩
  unfold SupD.fnB at c3
  unfold SupD.obs at e
  split at c3
  · rename_i o1 o2 fd o3 ho
    rw [ho] at e
    split at c3
    · rename_i cda n cc e1 e2 e3
      obtain ⟨d1, c3⟩ := He.ba c3
      obtain ⟨d2, c3⟩ := He.ba c3
      obtain ⟨d3, d4⟩ := He.ba c3
      obtain ⟨n1, n2, n3, n4, n5, n6, n7, n8, n9, n10, n11, n12, n13, n14, n15⟩ := fd
      have e4 : (some (n1, n2, n3, n4, n5, n6, n15) : FnS) = (some ("__init__", d.qual, d.params, .stmts d.body, d.scope, mainGlobals, builtinsNs) : FnS) := e
      simp only [Option.some.injEq, Prod.mk.injEq] at e4
      obtain ⟨h1, h2, h3, h4, h5, h6, h7⟩ := e4
      have e1' : n8 = .none := e1
      have e2' : n13 = .ref cda := e2
      have e3' : n7 = [(n, cc)] := e3
      have d1' := of_decide_eq_true d1
      subst h1 h2 h3 h4 h5 h6 h7 e1' e2' e3' d1'
      refine ⟨cc, cda, _, ex, ⟨_, _, _, _, _, _, _, _, rfl, ho⟩, d2, ?_, ?_, He.eqO_ok c8, He.eqO_ok c9, of_decide_eq_true c10, of_decide_eq_true c11, PySem.W.mg_none_of X G (He.eqO_ok c12), htop, He.eqO_ok c13, of_decide_eq_true c14⟩
      · split at d3
        · rename_i a1 a2 vs a3 ha
          split at d3
          · rename_i f t hv
            exact ⟨_, _, _, _, t, f, ha, hv, by rw [hfile, of_decide_eq_true d3]; simp⟩
          · cases d3
        · cases d3
      · split at d4
        · rename_i a1 a2 D a3 ha
          have eD := of_decide_eq_true d4
          subst eD
          exact ⟨_, _, _, ha⟩
        · cases d4
    · cases c3
  · cases c3
/-! ### the Hook with such classes -/
abbrev AlX : Type := He.AlD × (Bool × List FnS)
def obsX (fa : List He.Fa) (fn : List He.DefD) (xs : List SupD) (K : PySem.W.Frag) : AlX := (He.obsD fa fn K, xs.all fun d => d.ok K, xs.map fun d => d.obs K)
def valX (fn : List He.DefD) (xs : List SupD) : AlX := (He.valD fn, true, xs.map SupD.val)
def SaysX (fa : List He.Fa) (fn : List He.DefD) (xs : List SupD) (K : PySem.W.Frag) : Prop := obsX fa fn xs K = valX fn xs
def obsXG (n : Nat) (fa : List He.Fa) (fn : List He.DefD) (xs : List SupD) (g : Addr → Option Obj) : AlX := obsX fa fn xs (He.frG g (He.asD g n ++ [cStatics]))
def hookX (n : Nat) (fa : List He.Fa) (fn : List He.DefD) (xs : List SupD) : PySem.W.Hook where
  α := AlX
  obs := fun s => obsXG n fa fn xs s.heap.get?
  val := fun _ => valX fn xs
  says := fun _ h => ∃ K : PySem.W.Frag, K.In h ∧ SaysX fa fn xs K
  of := fun _ _ e => ⟨_, He.frG_in, e⟩
  keeps := fun _ _ _ ⟨K, hK, c⟩ k => ⟨K, PySem.W.Frag.In.keeps hK k, c⟩
theorem obsXG_eq {n : Nat} {fa : List He.Fa} {fn : List He.DefD} {xs : List SupD} {g : Addr → Option Obj} {s : Shared} (h : ∀ a, g a = s.heap.get? a) : obsXG n fa fn xs g = (hookX n fa fn xs).obs s := by
  have e : g = s.heap.get? := funext h
  rw [e] <;> rfl
section
variable {fa : List He.Fa} {fn : List He.DefD} {xs : List SupD} {K : PySem.W.Frag}
theorem SaysX.d (c : SaysX fa fn xs K) : He.SaysD fa fn K := congrArg (fun z : AlX => z.1) c
theorem SaysX.sup (c : SaysX fa fn xs K) (i : Nat) {d : SupD} (h : xs[i]? = some d := by rfl) : d.obs K = d.val ∧ d.ok K = true := by
  have c1 : (xs.all fun d => d.ok K) = true := congrArg (fun z : AlX => z.2.1) c
  have c2 : xs.map (fun d => d.obs K) = xs.map SupD.val := congrArg (fun z : AlX => z.2.2) c
  have e2 : (xs.map fun d => d.obs K)[i]? = (xs.map SupD.val)[i]? := by rw [c2]
  rw [List.getElem?_map, List.getElem?_map, h] at e2
  exact ⟨Option.some.inj e2, List.all_eq_true.mp c1 d (List.mem_of_getElem? h)⟩
end
end SxK

set_option Elab.async false
set_option linter.all false
set_option maxRecDepth 100000
set_option maxHeartbeats 2000000
namespace SxK
open PySem PySem.Spec PyProof.Rows L2
/-! ### the Hook with dicts and tuples of the top, and with own exceptions without an own __init__ -/
abbrev TabK : Type := Str × List (Str × He.Dv)
abbrev TupK : Type := Str × List He.Dv
/-- an own exception class without an own __init__ -/
def pexB (K : PySem.W.Frag) (x : Str) : Bool :=
  PySem.W.excIn K (He.ga K x) He.veBase "ValueError.__new__" && (PySem.W.keepIn K (.ref (He.ga K x)) && (decide (PySem.W.subIn K (.ref (He.ga K x)) (.type "BaseException") = some true) && (decide (PySem.W.typeIn K (.ref (He.ga K x)) = some (.type "type")) && (
  decide (PySem.W.exmOne K (.ref (He.ga K x)) (.ref (He.ga K x)) = some true) && (He.eqO (PySem.W.nsIn K mainGlobals x) (some (some (.ref (He.ga K x)))) && (
  He.eqO (PySem.W.findIn K (.ref (He.ga K x)) "__getattribute__") (some (some (.builtin "BaseException.__getattribute__"))) && (He.eqO (PySem.W.findIn K (.ref (He.ga K x)) "__getattr__") (some none) && (
  PySem.W.hasDictIn K (He.ga K x) && (He.eqO (PySem.W.findIn K (.ref (He.ga K x)) "__class__") (some (some (.builtin "object.__class__"))) && (He.eqO (PySem.W.specialIn K (.builtin "object.__class__") "__get__") (some (some (.builtin "getset_descriptor.__get__"))) && (
  decide (PySem.W.takesIn K (.builtin "object.__class__") = some true) && (decide (PySem.W.mroIn K (He.ga K x) (.type "object") = some true) && decide (PySem.W.kitOne K (.ref (He.ga K x)) (.type "ValueError") = some true)))))))))))))
structure PexC (K : PySem.W.Frag) (mg : Str → Option Value) (x : Str) : Prop where
  exc : PySem.W.excIn K (He.ga K x) He.veBase "ValueError.__new__" = true
  keep : PySem.W.keepIn K (.ref (He.ga K x)) = true
  sub : PySem.W.subIn K (.ref (He.ga K x)) (.type "BaseException") = some true
  ty : PySem.W.typeIn K (.ref (He.ga K x)) = some (.type "type")
  exm : PySem.W.exmOne K (.ref (He.ga K x)) (.ref (He.ga K x)) = some true
  glob : mg x = some (.ref (He.ga K x))
  exC : ExcC K (He.ga K x)
  kit : PySem.W.kitOne K (.ref (He.ga K x)) (.type "ValueError") = some true
theorem pexB_ok {K : PySem.W.Frag} {mg : Str → Option Value} {x : Str} {h : Heap} (X : K.In h) (G : h.Ns mainGlobals mg) (c : pexB K x = true) : PexC K mg x := by
  unfold pexB at c
  obtain ⟨c1, c⟩ := He.ba c
  obtain ⟨c2, c⟩ := He.ba c
  obtain ⟨c3, c⟩ := He.ba c
  obtain ⟨c4, c⟩ := He.ba c
  obtain ⟨c5, c⟩ := He.ba c
  obtain ⟨c6, c⟩ := He.ba c
  obtain ⟨c7, c⟩ := He.ba c
  obtain ⟨c8, c⟩ := He.ba c
  obtain ⟨c9, c⟩ := He.ba c
  obtain ⟨c10, c⟩ := He.ba c
  obtain ⟨c11, c⟩ := He.ba c
  obtain ⟨c12, c⟩ := He.ba c
  obtain ⟨c13, c14⟩ := He.ba c
  exact ⟨c1, c2, of_decide_eq_true c3, of_decide_eq_true c4, of_decide_eq_true c5, PySem.W.mg_of X G (He.eqO_ok c6), ⟨He.eqO_ok c7, He.eqO_ok c8, of_decide_eq_true c3, c9, He.eqO_ok c10, He.eqO_ok c11, of_decide_eq_true c12, of_decide_eq_true c13⟩, of_decide_eq_true c14⟩
abbrev AlXU : Type := AlX × ((Bool × Bool × Bool) × List (Option (List (Option (Str × Int)))))
def obsXU (fa : List He.Fa) (fn : List He.DefD) (xs : List SupD) (ts : List TabK) (us : List TupK) (ys : List Str) (K : PySem.W.Frag) : AlXU :=
  (obsX fa fn xs K, (ts.all (fun t => He.valsB K (He.ga K t.1) t.2), us.all (fun t => He.tupB K t.1 t.2), ys.all fun x => pexB K x), ts.map fun t => He.dicW K (He.ga K t.1))
def valXU (fn : List He.DefD) (xs : List SupD) (ts : List TabK) (w : World) : AlXU := (valX fn xs, (true, true, true), ts.map fun t => some (He.keysIn w.params (t.2.map (·.1))))
def SaysXU (fa : List He.Fa) (fn : List He.DefD) (xs : List SupD) (ts : List TabK) (us : List TupK) (ys : List Str) (w : World) (K : PySem.W.Frag) : Prop := obsXU fa fn xs ts us ys K = valXU fn xs ts w
def obsXUG (n : Nat) (fa : List He.Fa) (fn : List He.DefD) (xs : List SupD) (ts : List TabK) (us : List TupK) (ys : List Str) (g : Addr → Option Obj) : AlXU := obsXU fa fn xs ts us ys (He.frG g (He.asD g n ++ [cStatics]))
def hookXU (n : Nat) (fa : List He.Fa) (fn : List He.DefD) (xs : List SupD) (ts : List TabK) (us : List TupK) (ys : List Str) : PySem.W.Hook where
  α := AlXU
  obs := fun s => obsXUG n fa fn xs ts us ys s.heap.get?
  val := fun w => valXU fn xs ts w
  says := fun w h => ∃ K : PySem.W.Frag, K.In h ∧ SaysXU fa fn xs ts us ys w K
  of := fun _ _ e => ⟨_, He.frG_in, e⟩
  keeps := fun _ _ _ ⟨K, hK, c⟩ k => ⟨K, PySem.W.Frag.In.keeps hK k, c⟩
theorem obsXUG_eq {n : Nat} {fa : List He.Fa} {fn : List He.DefD} {xs : List SupD} {ts : List TabK} {us : List TupK} {ys : List Str} {g : Addr → Option Obj} {s : Shared} (h : ∀ a, g a = s.heap.get? a) : obsXUG n fa fn xs ts us ys g = (hookXU n fa fn xs ts us ys).obs s := by
  have e : g = s.heap.get? := funext h
  rw [e] <;> rfl
/-- z is a key of the written dict at a: b -/
def KIn (K : PySem.W.Frag) (w : World) (a : Addr) (z : Str) (b : Bool) : Prop := ∃ es n r, K.lookup a = some ⟨.type "dict", none, .dict es n, #[]⟩ ∧ PySem.W.KeysLit w.params es.toList ∧ (a == sysModules) = false ∧ PySem.W.nsIn K a z = some r ∧ r.isSome = b
theorem low_of {K : PySem.W.Frag} {a : Addr} {l : List (Option (Str × Int))} (h : He.dicW K a = some l) : (a == sysModules) = false := by
  unfold He.dicW at h
  split at h
  · split at h
    · rename_i hb
      obtain ⟨_, hb⟩ := He.ba hb
      obtain ⟨_, hb⟩ := He.ba hb
      simpa using hb
    · cases h
  · cases h
theorem entries_of {K : PySem.W.Frag} {a : Addr} {l : List (Option (Str × Int))} (h : He.dicW K a = some l) : ∃ oc od es n sl, K.lookup a = some ⟨oc, od, .dict es n, sl⟩ ∧ es.toList.map He.keyOf = l := by
  unfold He.dicW at h
  split at h
  · rename_i c es n sl hl
    split at h
    · exact ⟨_, _, es, n, sl, hl, Option.some.inj h⟩
    · cases h
  · cases h
theorem miss_of {K : PySem.W.Frag} {w : World} {a : Addr} {ks : List Str} {z : Str} (h : He.dicW K a = some (He.keysIn w.params ks)) (hz : z ∉ ks) : PySem.W.nsIn K a z = some none := by
  obtain ⟨oc, od, es, n, sl, hl, he⟩ := entries_of h
  have key : ∀ e ∈ es.toList, ∃ k t, e.key = .str k t ∧ k ∈ ks := fun e hm => by
    have : He.keyOf e ∈ He.keysIn w.params ks := by rw [← he]; exact List.mem_map.mpr ⟨e, hm, rfl⟩
    obtain ⟨k, hk, ek⟩ := List.mem_map.mp this
    unfold He.keyOf at ek
    split at ek
    · rename_i x t q
      have e2 := Option.some.inj ek
      exact ⟨x, t, q, by rw [← (Prod.mk.inj e2).1]; exact hk⟩
    · cases ek
  unfold PySem.W.nsIn
  rw [hl]
  dsimp only
  have f1 : es.toList.find? (fun e => e.key.isStr z) = none := by
    rw [List.find?_eq_none]
    intro e hm q
    obtain ⟨k, t, ek, hk⟩ := key e hm
    rw [ek] at q
    have : k = z := by simpa [Value.isStr] using q
    exact hz (by rw [← this]; exact hk)
  have f2 : es.toList.any (fun e => e.refKey) = false := by
    rw [List.any_eq_false]
    intro e hm q
    obtain ⟨k, t, ek, hk⟩ := key e hm
    simp [DictEntry.refKey, ek] at q
  rw [f1, f2]
  rfl
def rInKD (K : PySem.W.Frag) (w : World) : R2 := fun x y H Q => ∃ (p : Addr) (z : Str) (b : Bool), x = .str z ∧ y = .ref p ∧ KIn K w p z b ∧ Q (.bl b) H
theorem op_inKD {X : Cx} {K : PySem.W.Frag} {w : World} (hK : X.K = K) (hw : X.w = w) : OpR X (compareOp .In) (rInKD K w) := by
  subst hK
  subst hw
  intro pins s σ H x y v u Q I rx ry h
  obtain ⟨p, z, b, rfl, rfl, ⟨es, n, r, hl, hk, lo, e, eb⟩, q⟩ := h
  obtain ⟨t, rfl⟩ := (show ∃ t, v = Value.str z t from rx)
  obtain rfl : u = Value.ref p := ry
  have hm := PySem.W.mapOf_K (prog := X.prog) (w := X.w) I.kIn hl hk
  refine wpAny_in_of (strKind_is X.prog X.w z t) lo hm ?_
  rw [PySem.W.find_K hl e, eb]
  exact ⟨.bl b, H, I.tok _, rfl, q⟩
section
variable {fa : List He.Fa} {fn : List He.DefD} {xs : List SupD} {ts : List TabK} {us : List TupK} {ys : List Str} {w : World} {K : PySem.W.Frag}
theorem SaysXU.x (c : SaysXU fa fn xs ts us ys w K) : SaysX fa fn xs K := congrArg (fun z : AlXU => z.1) c
theorem SaysXU.dic (c : SaysXU fa fn xs ts us ys w K) (i : Nat) {t : TabK} (h : ts[i]? = some t) : He.dicW K (He.ga K t.1) = some (He.keysIn w.params (t.2.map (·.1))) := by
  have e : ts.map (fun t => He.dicW K (He.ga K t.1)) = ts.map fun t => some (He.keysIn w.params (t.2.map (·.1))) := congrArg (fun z : AlXU => z.2.2) c
  have e2 : (ts.map (fun t => He.dicW K (He.ga K t.1)))[i]? = (ts.map fun t => some (He.keysIn w.params (t.2.map (·.1))))[i]? := by rw [e]
  rw [List.getElem?_map, List.getElem?_map, h] at e2
  exact Option.some.inj e2
theorem SaysXU.val (c : SaysXU fa fn xs ts us ys w K) (i : Nat) {t : TabK} (h : ts[i]? = some t) : He.valsB K (He.ga K t.1) t.2 = true := by
  have e1 : ts.all (fun t => He.valsB K (He.ga K t.1) t.2) = true := congrArg (fun z : AlXU => z.2.1.1) c
  exact List.all_eq_true.mp e1 t (List.mem_of_getElem? h)
theorem SaysXU.tab (c : SaysXU fa fn xs ts us ys w K) (i : Nat) {t : TabK} (h : ts[i]? = some t) {x : Str} {d : He.Dv} (hx : (x, d) ∈ t.2) : KDct K w (He.ga K t.1) x (d.v K) := by
  obtain ⟨es, n, k⟩ := He.dicW_ok (c.dic i h)
  obtain ⟨u, q1, q2⟩ := He.valsB_ok (c.val i h) hx
  exact ⟨es, n, u, k.at_, k.lit, q1, q2⟩
theorem SaysXU.has (c : SaysXU fa fn xs ts us ys w K) (i : Nat) {t : TabK} (h : ts[i]? = some t) (z : Str) : KIn K w (He.ga K t.1) z (decide (z ∈ t.2.map (·.1))) := by
  obtain ⟨es, n, k⟩ := He.dicW_ok (c.dic i h)
  by_cases q : z ∈ t.2.map (·.1)
  · obtain ⟨⟨x, d⟩, hm, rfl⟩ := List.mem_map.mp q
    obtain ⟨u, q1, _⟩ := He.valsB_ok (c.val i h) hm
    exact ⟨es, n, some u, k.at_, k.lit, low_of (c.dic i h), q1, by rw [decide_eq_true q]; rfl⟩
  · exact ⟨es, n, none, k.at_, k.lit, low_of (c.dic i h), miss_of (c.dic i h) q, by rw [decide_eq_false q]; rfl⟩
theorem SaysXU.tup (c : SaysXU fa fn xs ts us ys w K) (i : Nat) {t : TupK} (h : us[i]? = some t) (H : Hp) : SqT K H (He.ga K t.1) (t.2.map (He.Dv.v K)) := by
  have e1 : us.all (fun t => He.tupB K t.1 t.2) = true := congrArg (fun z : AlXU => z.2.1.2.1) c
  exact He.tupB_ok (List.all_eq_true.mp e1 t (List.mem_of_getElem? h)) H
theorem SaysXU.pex (c : SaysXU fa fn xs ts us ys w K) (i : Nat) {x : Str} (h : ys[i]? = some x) {hp : Heap} {mg : Str → Option Value} (X : K.In hp) (G : hp.Ns mainGlobals mg) : PexC K mg x := by
  have e1 : (ys.all fun x => pexB K x) = true := congrArg (fun z : AlXU => z.2.1.2.2) c
  exact pexB_ok X G (List.all_eq_true.mp e1 x (List.mem_of_getElem? h))
end
/-! ### X() -/
theorem raises_of {X : Cx} {mg : Str → Option Value} {x : Str} (c : PexC X.K mg x) : Raises X (.ref (He.ga X.K x)) := fun _ _ hK => ⟨PySem.W.looks_subIn hK c.sub, PySem.W.looks_typeIn hK c.ty⟩
theorem pmk_own0 {X : Cx} {x : Str} {p pos : Pos} (c : PexC X.K X.mg x) (hg : Gl X x) (hdb : (x == ("__debug__" : Str)) = false := by decide) : PMk X (.Call (.Name x p) [] [] pos) (fun _ H Q => Q (.ref (He.ga X.K x)) none H) := by
  intro pins s σ H Q I h
  refine wpAny_Call_Name_kw (ld_glob I hg c.glob ?_ hdb)
  refine PySem.W.callWith_K0 I.kIn c.keep ?_
  show wpAny _ _ (call (.ref (He.ga X.K x)) []) _ _ _
  obtain ⟨bm, N, nm, qn, bs, hdct, sn, sub, ab, col, dd, k0, k1, k2, k3, k5, mN, hC, hN, hni, T⟩ := exc_obj I.kIn c.exc
  refine wpAny_call_exc_subT PySem.F.excBase_ValueError T hC hN hni (fun h' e hm => ?_) (Nat.zero_le _)
  exact mk_of I hm (raises_of c) h (I.hok.gone hm.new)
end SxK

set_option Elab.async false
set_option linter.all false
set_option maxRecDepth 100000
set_option maxHeartbeats 0
namespace Sx
open PySem PySem.Spec PyProof.Rows L2
/-! ### the text by places -/
def top (i : Nat) : Stmt := PySem.Challenge.pw_sixdot_k30_shapes_and_marks.main.body.getD i (.Pass ⟨0, 0, 0, 0⟩)
abbrev sMarksInit : Stmt := inClass (top 17) 0
abbrev sShapeInit : Stmt := inClass (top 18) 0
abbrev sNumberWord : Stmt := top 5
abbrev sCopyOfMarks : Stmt := top 19
abbrev sAreSizes : Stmt := top 20
abbrev sRowsOfMarks : Stmt := top 21
abbrev sIsMark : Stmt := top 22
abbrev sAreApart : Stmt := top 23
abbrev sAreMarks : Stmt := top 24
abbrev sFigures : Stmt := top 25
abbrev sLabelRow : Stmt := top 26
abbrev sDepthMark : Stmt := top 27
abbrev sBlockMark : Stmt := top 28
abbrev sLawDraws : Stmt := top 30
abbrev sLawTake : Stmt := top 31
abbrev sLawSame : Stmt := top 32
abbrev sLawMarks : Stmt := top 33
abbrev sLawMadeMarks : Stmt := top 34
abbrev sLawShape : Stmt := top 35
abbrev sLawMadeShape : Stmt := top 36
abbrev sLawFigures : Stmt := top 37
abbrev sLawBegin : Stmt := top 38
abbrev sLawNumberLine : Stmt := top 39
abbrev sLawSpoilt : Stmt := top 40
abbrev sLawRefused : Stmt := top 41
abbrev sLaw : Stmt := top 42
/-! ### the head: facts by names, the run -/
def dMarksInit : He.DefD := ⟨("Marks", some "__init__"), "__init__", "Marks.__init__", defArgs sMarksInit, defBody sMarksInit, defScope sMarksInit, [], []⟩
def dShapeInit : He.DefD := ⟨("Shape", some "__init__"), "__init__", "Shape.__init__", defArgs sShapeInit, defBody sShapeInit, defScope sShapeInit, [], []⟩
def dNumberWord : He.DefD := ⟨("number_word", none), "number_word", "number_word", defArgs sNumberWord, defBody sNumberWord, defScope sNumberWord, [], []⟩
def dCopyOfMarks : He.DefD := ⟨("copy_of_marks", none), "copy_of_marks", "copy_of_marks", defArgs sCopyOfMarks, defBody sCopyOfMarks, defScope sCopyOfMarks, [], []⟩
def dAreSizes : He.DefD := ⟨("are_sizes", none), "are_sizes", "are_sizes", defArgs sAreSizes, defBody sAreSizes, defScope sAreSizes, [], []⟩
def dRowsOfMarks : He.DefD := ⟨("rows_of_marks", none), "rows_of_marks", "rows_of_marks", defArgs sRowsOfMarks, defBody sRowsOfMarks, defScope sRowsOfMarks, [], []⟩
def dIsMark : He.DefD := ⟨("is_mark", none), "is_mark", "is_mark", defArgs sIsMark, defBody sIsMark, defScope sIsMark, [], []⟩
def dAreApart : He.DefD := ⟨("are_apart", none), "are_apart", "are_apart", defArgs sAreApart, defBody sAreApart, defScope sAreApart, [], []⟩
def dAreMarks : He.DefD := ⟨("are_marks", none), "are_marks", "are_marks", defArgs sAreMarks, defBody sAreMarks, defScope sAreMarks, [], []⟩
def dFigures : He.DefD := ⟨("figures", none), "figures", "figures", defArgs sFigures, defBody sFigures, defScope sFigures, [], []⟩
def dLabelRow : He.DefD := ⟨("label_row", none), "label_row", "label_row", defArgs sLabelRow, defBody sLabelRow, defScope sLabelRow, [], []⟩
def dDepthMark : He.DefD := ⟨("depth_mark", none), "depth_mark", "depth_mark", defArgs sDepthMark, defBody sDepthMark, defScope sDepthMark, [], []⟩
def dBlockMark : He.DefD := ⟨("block_mark", none), "block_mark", "block_mark", defArgs sBlockMark, defBody sBlockMark, defScope sBlockMark, [], []⟩
def dLawDraws : He.DefD := ⟨("_law_draws", none), "_law_draws", "_law_draws", defArgs sLawDraws, defBody sLawDraws, defScope sLawDraws, [], []⟩
def dLawTake : He.DefD := ⟨("_law_take", none), "_law_take", "_law_take", defArgs sLawTake, defBody sLawTake, defScope sLawTake, [], []⟩
def dLawSame : He.DefD := ⟨("_law_same", none), "_law_same", "_law_same", defArgs sLawSame, defBody sLawSame, defScope sLawSame, [], []⟩
def dLawMarks : He.DefD := ⟨("_law_marks", none), "_law_marks", "_law_marks", defArgs sLawMarks, defBody sLawMarks, defScope sLawMarks, [], []⟩
def dLawMadeMarks : He.DefD := ⟨("_law_made_marks", none), "_law_made_marks", "_law_made_marks", defArgs sLawMadeMarks, defBody sLawMadeMarks, defScope sLawMadeMarks, [], []⟩
def dLawShape : He.DefD := ⟨("_law_shape", none), "_law_shape", "_law_shape", defArgs sLawShape, defBody sLawShape, defScope sLawShape, [], []⟩
def dLawMadeShape : He.DefD := ⟨("_law_made_shape", none), "_law_made_shape", "_law_made_shape", defArgs sLawMadeShape, defBody sLawMadeShape, defScope sLawMadeShape, [], []⟩
def dLawFigures : He.DefD := ⟨("_law_figures", none), "_law_figures", "_law_figures", defArgs sLawFigures, defBody sLawFigures, defScope sLawFigures, [], []⟩
def dLawBegin : He.DefD := ⟨("_law_begin", none), "_law_begin", "_law_begin", defArgs sLawBegin, defBody sLawBegin, defScope sLawBegin, [], []⟩
def dLawNumberLine : He.DefD := ⟨("_law_number_line", none), "_law_number_line", "_law_number_line", defArgs sLawNumberLine, defBody sLawNumberLine, defScope sLawNumberLine, [], []⟩
def dLawSpoilt : He.DefD := ⟨("_law_spoilt", none), "_law_spoilt", "_law_spoilt", defArgs sLawSpoilt, defBody sLawSpoilt, defScope sLawSpoilt, [], []⟩
def dLawRefused : He.DefD := ⟨("_law_refused", none), "_law_refused", "_law_refused", defArgs sLawRefused, defBody sLawRefused, defScope sLawRefused, [], []⟩
def dLaw : He.DefD := ⟨("law", none), "law", "law", defArgs sLaw, defBody sLaw, defScope sLaw, [], []⟩
def xs : List SxK.SupD := []
def fn : List He.DefD := [dMarksInit, dShapeInit, dNumberWord, dCopyOfMarks, dAreSizes, dRowsOfMarks, dIsMark, dAreApart, dAreMarks, dFigures, dLabelRow, dDepthMark, dBlockMark, dLawDraws, dLawTake, dLawSame, dLawMarks, dLawMadeMarks, dLawShape, dLawMadeShape, dLawFigures, dLawBegin, dLawNumberLine, dLawSpoilt, dLawRefused, dLaw]
def fa : List He.Fa := [.glo "number_word", .glo "copy_of_marks", .glo "are_sizes", .glo "rows_of_marks", .glo "is_mark", .glo "are_apart", .glo "are_marks", .glo "figures", .glo "label_row", .glo "depth_mark", .glo "block_mark", .glo "_law_draws", .glo "_law_take", .glo "_law_same", .glo "_law_marks", .glo "_law_made_marks", .glo "_law_shape", .glo "_law_made_shape", .glo "_law_figures", .glo "_law_begin", .glo "_law_number_line", .glo "_law_spoilt", .glo "_law_refused", .glo "law", .free "ValueError", .free "abs", .free "all", .free "any", .free "bool", .free "divmod", .free "enumerate", .free "int", .free "isinstance", .free "len", .free "list", .free "max", .free "min", .free "range", .free "reversed", .free "str", .free "tuple", .int "MOST_CELL" 63, .int "PART_DIGITS" 64, .int "PART" 10000000000000000000000000000000000000000000000000000000000000000, .int "LEAST_WIDTH" 8, .int "MOST_WIDTH" 40, .int "LEAST_HEIGHT" 3, .int "MOST_HEIGHT" 30, .int "MOST_SIZE" 50, .int "MOST_MARK_CELLS" 2, .int "LABEL_CELL" 11, .glo "MOST_NUMBERS", .glo "SixdotError", .glo "InvalidShape", .glo "Marks", .cls "Marks", .mkr "Marks", .noat "Marks" "head", .noat "Marks" "par", .noat "Marks" "depths", .noat "Marks" "note", .noat "Marks" "stop", .noat "Marks" "on", .noat "Marks" "joined", .noat "Marks" "number", .glo "Shape", .cls "Shape", .mkr "Shape", .noat "Shape" "width", .noat "Shape" "height", .noat "Shape" "size", .noat "Shape" "marks"]
def loose0 : List Str := ["MOST_CELL", "MOST_NUMBERS", "PART_DIGITS", "PART", "number_word", "SixdotError", "InvalidShape", "LEAST_WIDTH", "MOST_WIDTH", "LEAST_HEIGHT", "MOST_HEIGHT", "MOST_SIZE", "MOST_MARK_CELLS", "LABEL_CELL", "Marks", "Shape", "copy_of_marks", "are_sizes", "rows_of_marks", "is_mark", "are_apart", "are_marks", "figures", "label_row", "depth_mark", "block_mark", "_law_draws", "_law_take", "_law_same", "_law_marks"]
def loose1 : List Str := ["_law_made_marks", "_law_shape", "_law_made_shape", "_law_figures", "_law_begin", "_law_number_line", "_law_spoilt", "_law_refused"]
abbrev loose : List Str := loose0 ++ loose1
abbrev R : PySem.W.OpenRow := PySem.W.OpenLaw.row PySem.Challenge.rw_sixdot_k30_shapes_and_marks
def ts : List SxK.TabK := [("MOST_NUMBERS", [("item", .int 3), ("note", .int 99)])]
def us : List SxK.TupK := []
def ys : List Str := ["InvalidShape"]
abbrev hk : PySem.W.Hook := SxK.hookXU 5 fa fn xs ts us ys
def ob (s : PySem.W.SharedT) : SxK.AlXU := SxK.obsXUG 5 fa fn xs ts us ys (HandSHeadRun.getT s)
theorem ob_eq (s : PySem.W.SharedT) : ob s = hk.obs s.abs := SxK.obsXUG_eq (HandSHeadRun.getT_eq s)
abbrev RP (w : World) : Prop := HandSHeadRun.RunEq R (PySem.W.view R.prog [42]) hk ob 4000 loose w
theorem runF (w : World) : RP (w.withFollow "special-get-raises" false) := by
  intro os
  kernel_rfl
theorem runT (w : World) : RP (w.withFollow "special-get-raises" true) := by
  intro os
  kernel_rfl
theorem run (w : World) : RP w := PySem.W.byRow2 "special-get-raises" (P := RP) runF runT w
end Sx

set_option Elab.async false
set_option linter.all false
set_option maxRecDepth 100000
set_option maxHeartbeats 4000000
/-! rules that the layer lacks: len(set(text)), text * int, list(reversed(list)) -/
namespace SxA
open PySem PySem.Spec PyProof.Rows L2

/-! ### the different signs of a text, in the order in which they come -/
def stepD (acc : List Nat) (c : Nat) : List Nat := if c ∈ acc then acc else acc ++ [c]
def firsts (l : List Nat) : List Nat := l.foldl stepD []
theorem firsts_snoc (l : List Nat) (c : Nat) : firsts (l ++ [c]) = stepD (firsts l) c := by
  unfold firsts; rw [List.foldl_append]; rfl
theorem mem_step (acc : List Nat) (c k : Nat) : k ∈ stepD acc c ↔ k ∈ acc ∨ k = c := by
  unfold stepD
  by_cases h : c ∈ acc
  · rw [if_pos h]
    exact ⟨Or.inl, fun q => q.elim id fun e => by rw [e]; exact h⟩
  · rw [if_neg h, List.mem_append, List.mem_singleton]
theorem mem_fold : ∀ (l acc : List Nat) (k : Nat), k ∈ l.foldl stepD acc ↔ k ∈ acc ∨ k ∈ l
  | [], acc, k => by simp
  | c :: l, acc, k => by
    rw [List.foldl_cons, mem_fold l, mem_step, List.mem_cons]
    constructor
    · rintro ((h | h) | h)
      · exact .inl h
      · exact .inr (.inl h)
      · exact .inr (.inr h)
    · rintro (h | h | h)
      · exact .inl (.inl h)
      · exact .inl (.inr h)
      · exact .inr h
theorem mem_firsts (l : List Nat) (k : Nat) : k ∈ firsts l ↔ k ∈ l := by
  unfold firsts; rw [mem_fold]; simp
theorem firsts_take {l : List Nat} {i c : Nat} (h : l[i]? = some c) : firsts (l.take (i + 1)) = stepD (firsts (l.take i)) c := by
  rw [List.take_add_one, h]; exact firsts_snoc _ _
theorem firsts_count : ∀ (l : List Nat) (i : Nat), i ≤ l.length → (firsts (l.take i)).length ≤ i ∧ ((firsts (l.take i)).length = i ↔ (l.take i).Nodup)
  | l, 0, _ => by simp [firsts]
  | l, i + 1, hi => by
    have hc : l[i]? = some l[i] := List.getElem?_eq_getElem hi
    obtain ⟨a, b⟩ := firsts_count l i (by omega)
    rw [firsts_take hc]
    have et : l.take (i + 1) = l.take i ++ [l[i]] := by rw [List.take_add_one, hc]; rfl
    unfold stepD
    by_cases hm : l[i] ∈ firsts (l.take i)
    · rw [if_pos hm]
      refine ⟨by omega, fun q => by omega, fun nd => ?_⟩
      rw [et, List.nodup_append] at nd
      exact absurd rfl (nd.2.2 _ ((mem_firsts _ _).mp hm) _ (List.mem_singleton.mpr rfl))
    · rw [if_neg hm, List.length_append, List.length_singleton]
      refine ⟨by omega, ?_⟩
      rw [et, List.nodup_append]
      constructor
      · intro q
        refine ⟨b.mp (by omega), by simp, fun x hx y hy e => hm ?_⟩
        rw [List.mem_singleton] at hy
        rw [← hy, ← e]
        exact (mem_firsts _ _).mpr hx
      · intro q
        have := b.mpr q.1
        omega
/-- len(set(text)) -/
def kinds (z : Str) : Nat := (firsts z.cps.toList).length
theorem kinds_eq (z : Str) : kinds z = z.length ↔ z.cps.toList.Nodup := by
  have h := firsts_count z.cps.toList z.cps.toList.length (Nat.le_refl _)
  rw [List.take_length] at h
  have e : z.length = z.cps.toList.length := by simp [Str.length]
  unfold kinds
  rw [e]
  exact h.2
theorem kinds_le (z : Str) : kinds z ≤ z.length := by
  have h := firsts_count z.cps.toList z.cps.toList.length (Nat.le_refl _)
  rw [List.take_length] at h
  have e : z.length = z.cps.toList.length := by simp [Str.length]
  unfold kinds
  rw [e]
  exact h.1

/-! ### set(text) on the machine -/
abbrev sg (c : Nat) : Str := ⟨#[c]⟩
theorem sg_inj {a b : Nat} (h : sg a = sg b) : a = b := by
  have e : (#[a] : Array Nat) = #[b] := congrArg Str.cps h
  simpa using e
def hasD (l : List Nat) (k : Str) : Bool := l.any fun c => decide (k = sg c)
theorem hasD_sg (l : List Nat) (c : Nat) : hasD l (sg c) = decide (c ∈ l) := by
  unfold hasD
  by_cases h : c ∈ l
  · rw [decide_eq_true h]
    exact List.any_eq_true.mpr ⟨c, h, decide_eq_true rfl⟩
  · rw [decide_eq_false h]
    refine Bool.eq_false_iff.mpr fun q => ?_
    obtain ⟨d, hd, e⟩ := List.any_eq_true.mp q
    rw [sg_inj (of_decide_eq_true e)] at h
    exact h hd
theorem hasD_step (l : List Nat) (c : Nat) (k : Str) : hasD (stepD l c) k = (hasD l k || decide (k = sg c)) := by
  unfold stepD
  by_cases h : c ∈ l
  · rw [if_pos h]
    by_cases e : k = sg c
    · rw [e, hasD_sg, decide_eq_true h]
      rfl
    · rw [decide_eq_false e, Bool.or_false]
  · rw [if_neg h]
    unfold hasD
    rw [List.any_append]
    simp
theorem len_step (l : List Nat) (c : Nat) : (stepD l c).length = if hasD l (sg c) = true then l.length else l.length + 1 := by
  rw [hasD_sg]
  unfold stepD
  by_cases h : c ∈ l
  · rw [if_pos h, if_pos (decide_eq_true h)]
  · rw [if_neg h, if_neg (by rw [decide_eq_false h]; exact Bool.false_ne_true), List.length_append, List.length_singleton]
section
variable {prog : Program} {w : World} {A : Around} {E : Value → Shared → Prop}
/-- the set at S holds the signs l -/
def SetS (prog : Program) (w : World) (h : Heap) (S : Addr) (l : List Nat) : Prop := h.SetOf (strKind prog w) S (hasD l) l.length
theorem SetS.keep {h h' : Heap} {S : Addr} {l : List Nat} (p : SetS prog w h S l) (k : ∀ o, h.get? S = some o → h'.get? S = some o) : SetS prog w h' S l := by
  obtain ⟨o, es, ep, t, ho, r⟩ := p
  exact ⟨o, es, ep, t, k o ho, r⟩
theorem loopS {R : Result → Shared → Prop} {I : Addr} {fp wr : List Addr} {G : Array GenState → Array GenState → Prop} {x : Str} {St : Nat → Shared → Prop}
    (W : WalksS prog w A.in1 I fp wr G x.cps.size (SignAt x) St) (S : Addr) (away : S ∉ fp) (small : x.cps.size + 1 < scanBound) : ∀ (k i : Nat) (s : Shared), x.cps.size - i = k → i ≤ x.cps.size → St i s →
      SetS prog w s.heap S (firsts (x.cps.toList.take i)) → (∀ s', Moved (S :: wr) G s s' → SetS prog w s'.heap S (firsts x.cps.toList) → R (.ok (.ret .none)) s') →
      codeAny (model prog w) A (.builtin "set.update.loop" ⟨[.ref S, .ref I], []⟩) R s := by
  have awr : S ∉ wr := fun q => away (W.sub _ q)
  have more : ∀ b ∈ wr, b ∈ S :: wr := fun b hb => .tail _ hb
  intro k
  induction k with
  | zero =>
    intro i s hk hi st hS done
    obtain rfl : i = x.cps.size := by omega
    refine codeAny_builtin F.entry_set_update_loop ?_
    rw [Around.under_plainId F.plain_set_update_loop _]
    show wpAny _ A.in1 (pyNext (.ref I) >>= _) _ _ s
    refine wpAny_bind (W.done s _ _ st fun s' mv => ?_)
    show wpAny _ A.in1 (ret Value.none) _ _ s'
    have e : x.cps.toList.take x.cps.size = x.cps.toList := List.take_of_length_le (by simp)
    rw [e] at hS
    exact wpAny_pure (done s' (mv.mono more) (hS.keep fun o q => mv.heap S o awr q))
  | succ k ih =>
    intro i s hk hi st hS done
    have lt : i < x.cps.size := by omega
    refine codeAny_builtin F.entry_set_update_loop ?_
    rw [Around.under_plainId F.plain_set_update_loop _]
    show wpAny _ A.in1 (pyNext (.ref I) >>= _) _ _ s
    refine wpAny_bind (W.item i s _ _ lt st fun v s' hv st' mv => ?_)
    obtain ⟨c, u, hc, rfl⟩ := hv
    have hS' := hS.keep (h' := s'.heap) fun o q => mv.heap S o awr q
    show wpAny _ A.in1 (holding [Value.str (sg c) u] (setAdd S (.str (sg c) u)) >>= _) _ _ s'
    refine wpAny_bind (wpAny_holding ?_)
    unfold setAdd
    refine wpAny_holding ?_
    refine wpAny_bind ((strKind prog w).pyHash (k := sg c) (strKind_is _ _ _ _) ?_)
    have cnt := (firsts_count x.cps.toList i (by simp; omega)).1
    refine wpAny_setAddHashed_of (knd := strKind prog w) (s := { s' with toks := s'.toks + 1 }) (strKind_is _ _ _ _) rfl hS' (by omega) fun h' sb hS2 => ?_
    have hc2 : x.cps.toList[i]? = some c := by rw [Array.getElem?_toList]; exact hc
    have hS3 : SetS prog w h' S (firsts (x.cps.toList.take (i + 1))) := by
      rw [firsts_take hc2]
      exact SetOf_congr hS2 (fun k => (hasD_step _ c k).symm) (len_step _ c).symm
    refine wpAny_pure ⟨plainId_quiet F.plain_set_update_loop _, ih (i + 1) _ (by omega) lt (W.frame _ s' _ _ st' (Nat.le_succ _) fun b hb o e => ?_) hS3 fun s'' mv' hS'' => done s'' (Moved.trans W.gtrans ((mv.mono more).then_heap (Nat.le_succ _) fun b o hb e => ?_) mv') hS''⟩
    · rw [sb.2 b fun q : b = S => away (by rw [← q]; exact hb)]; exact e
    · rw [sb.2 b fun q : b = S => hb (by rw [q]; exact .head _)]; exact e
variable {s : Shared}
theorem sub_str_set : isSubtype (.type "str") (.type "set") = pure false := by rw [isSubtype_type]; kernel_rfl
theorem sub_str_frozenset : isSubtype (.type "str") (.type "frozenset") = pure false := by rw [isSubtype_type]; kernel_rfl
theorem call_set_text {x : Str} {tx : Tok} {Q : Value → Shared → Prop} (hh : A.handled = none) (small : x.cps.size + 1 < scanBound)
    (h : ∀ (h' : Heap) (tk : Nat), SetS prog w h' s.heap.objs.size (firsts x.cps.toList) → (∀ b o, b < s.heap.objs.size → s.heap.get? b = some o → h'.get? b = some o) → Q (.ref s.heap.objs.size) { s with heap := h', toks := tk }) :
    wpAny (model prog w) A (call (.type "set") [.str x tx]) Q E s := by
  obtain ⟨c, tl, hmro⟩ := F.called_set.mro
  have hmade := F.called_set.made
  have hsub := F.called_set.sub
  refine wpAny_call (codeAny_of_tree ?_)
  show wpAny _ _ (callAny (.type "set") _) _ _ _
  refine wpAny_pure ⟨Code.quiet_builtin _ (by decide +kernel), codeAny_builtin F.entry_type_call ?_⟩
  rw [Around.under_plain (weight_type_call_type "set" [.str x tx] []) rfl]
  have h1 := F.called_set.notType
  have h2 := F.called_set.canCreate
  have hct := PySem.F.typeCall_set_1 (.str x tx)
  repeat (any_goals (first | assumption | wp_step))
  refine codeAny_mono (code_set_new_1 (.str x tx) (E := E) (Q₁ := fun v s₁ => ∃ led : Bool, v = .ref s.heap.objs.size ∧ s₁ = { s with heap := s.heap.push { cls := .type "set", dict := none, data := .set #[] 0 (.fresh 0 0 led) } }) fun led => ⟨led, rfl, rfl⟩) fun r s₁ hr => ?_
  cases r with
  | error e => exact hr
  | ok fl =>
    cases fl with
    | ret v =>
      obtain ⟨led, rfl, rfl⟩ := hr
      have hS : (s.heap.push { cls := .type "set", dict := none, data := .set #[] 0 (.fresh 0 0 led) }).get? s.heap.objs.size = some { cls := .type "set", dict := none, data := .set #[] 0 (.fresh 0 0 led) } := Heap.get?_push_size _ rfl
      have hT : Shared.TypeIs { s with heap := s.heap.push { cls := .type "set", dict := none, data := .set #[] 0 (.fresh 0 0 led) } } (.ref s.heap.objs.size) "set" := ⟨_, hS, rfl⟩
      have hli := F.called_set.init.lookup
      have hbi := F.called_set.init.bind (.ref s.heap.objs.size)
      repeat (any_goals (first | assumption | wp_step))
      refine codeAny_mono (codeAny_call_builtin (R := wants (fun r s₂ => r = .none ∧ ∃ h' tk, s₂ = { s with heap := h', toks := tk } ∧ SetS prog w h' s.heap.objs.size (firsts x.cps.toList) ∧
          (∀ b o, b < s.heap.objs.size → s.heap.get? b = some o → h'.get? b = some o)) E) F.called_set.init.plain F.entry_set_init (check_set_init_1 hT ?_)) fun r₂ s₂ hr₂ => ?_
      · have hsls := sub_str_set
        have hslf := sub_str_frozenset
        have hne : (Value.type "str" == Value.type "dict") = false := by decide
        unfold Builtin.«set.__init__» noKeywords Builtin.Frozenset.updateFrom
        generalize hPI : pyIter = PI
        wp_walk
        subst hPI
        refine wpAny_pyIter_str fun o St W st => ?_
        refine wpAny_bind (wpAny_runValue ?_)
        have hh3 : A.in1.in1.in1.handled = none := by simp [hh]
        have away : s.heap.objs.size ∉ [(s.heap.push { cls := .type "set", dict := none, data := .set #[] 0 (.fresh 0 0 led) }).objs.size] := by
          rw [Heap.size_push, List.mem_singleton]
          exact Nat.ne_of_lt (Nat.lt_succ_self _)
        refine loopS ((W _ hh3).toS) s.heap.objs.size away small (x.cps.size - 0) 0 _ (by omega) (Nat.zero_le _) st ?hS0 ?hR
        case hS0 =>
          exact SetOf_congr ((PyProof.Rows.setObjOf_fresh (knd := strKind prog w) led).setOf (Heap.get?_push_of_some _ hS) (by unfold scanBound; omega)) (fun _ => rfl) rfl
        case hR =>
          intro s' mv hS'
          obtain ⟨h', g', d', tk', os'⟩ := s'
          have eg : g' = s.gens := mv.gens
          have ed : d' = s.drawn := mv.drawn
          have eo : os' = s.os := mv.os
          subst eg; subst ed; subst eo
          show wpAny _ _ _ _ _ _
          refine wpAny_pure ?_
          show wpAny _ _ (ret Value.none) _ _ _
          refine wpAny_pure ⟨rfl, h', tk', rfl, hS', fun b o hb e => ?_⟩
          have n1 : b ≠ s.heap.objs.size := Nat.ne_of_lt hb
          have n2 : b ≠ (s.heap.push { cls := .type "set", dict := none, data := .set #[] 0 (.fresh 0 0 led) }).objs.size := by
            rw [Heap.size_push]; exact Nat.ne_of_lt (Nat.lt_succ_of_lt hb)
          exact mv.heap b o (by simp only [List.mem_cons, List.mem_singleton, List.not_mem_nil, or_false, not_or]; exact ⟨n1, n2⟩) (Heap.get?_push_of_some _ (Heap.get?_push_of_some _ e))
      · cases r₂ with
        | error e => exact hr₂
        | ok fl₂ =>
          cases fl₂ with
          | ret r =>
            obtain ⟨rfl, h', tk, rfl, hS', hk'⟩ := hr₂
            repeat (any_goals (first | assumption | wp_step))
            exact h _ _ hS' hk'
          | _ => exact hr₂.elim
    | _ => exact hr.elim
end
/-! ### the rules -/
/-- len(set(text)) -/
def tKinds (ta : TE) : TE := fun σ H Q => ta σ H fun v H1 => ∃ z : Str, v = .str z ∧ z.length ≤ 4000 ∧ Q (.int (kinds z : Nat)) H1
theorem pe_kinds {X : Cx} {a : Expr} {ta : TE} {p p2 q pos : Pos} (hg : Gl X "len") (hm : X.mg "len" = none) (hg2 : Gl X "set") (hm2 : X.mg "set" = none) (ha : PE X a ta) (hc : X.calm = true := by rfl)
    (na : starEach [a] X.env = (false, eval a X.env) :: starEach [] X.env := by rfl) : PE X (.Call (.Name "len" p) [.Call (.Name "set" p2) [a] [] q] [] pos) (tKinds ta) := by
  constructor
  intro pins s σ H Q I h
  refine Call_ (ld_blt I hg hm boot_len (PyProof.Rows.callWith_builtin1 (PyProof.Rows.args_cons (Call_ (ld_blt I hg2 hm2 boot_set ?_)) rfl) rfl rfl))
  refine PyProof.Rows.callWith_type1 (PyProof.Rows.args_cons (thn (ha.run pins s σ H _ I h) fun v s1 ⟨y, H1, I1, r1, q1⟩ => PyProof.Rows.args_nil ?_) na) na rfl
  obtain ⟨z, rfl, hl, q1⟩ := q1
  obtain ⟨t, rfl⟩ := r1
  have hs : z.cps.size = z.length := rfl
  refine call_set_text (I1.ok.hd hc) (by rw [hs]; unfold scanBound; omega) fun h' tk hS hk => PyProof.Rows.args_nil ?_
  have kl := kinds_le z
  obtain ⟨o, es, ep, t2, ho, hex, hd, _, _, _, hf, hn⟩ := hS
  have hn2 : es.size = kinds z := hn
  have I2 : Inv X pins σ H1 { s1 with heap := h', toks := tk } := I1.kept fun b o e => hk b o (Heap.lt_size e) e
  exact call_len_set ho hex hd hf (by rw [hn2]; omega) ⟨.int (kinds z : Nat), H1, I2.tok _, ⟨_, by rw [hn2]⟩, q1⟩
/-- text * n -/
def rMulS : R2 := fun x y H Q => ∃ (z : Str) (n : Int), x = .str z ∧ y = .int n ∧ MulOk z n ∧ Q (.str (Txt.mul z n)) H
theorem op_mulS {X : Cx} : OpR X (binaryOp .Mult) rMulS := by
  intro pins s σ H x y v u Q I rx ry h
  obtain ⟨z, n, rfl, rfl, hz, q⟩ := h
  obtain ⟨t, rfl⟩ := rx
  obtain ⟨t', rfl⟩ := ry
  exact SB.mul hz fun t2 tk => ⟨.str (Txt.mul z n), H, I.tok _, ⟨_, rfl⟩, q⟩
end SxA

set_option Elab.async false
set_option linter.all false
set_option maxRecDepth 100000
set_option maxHeartbeats 4000000
namespace SxA
open PySem PySem.Spec PyProof.Rows L2
section
variable {prog : Program} {w : World} {A : Around} {E : Value → Shared → Prop} {s : Shared}
/-- list(it), it what reversed(a list) gave -/
theorem call_list_rev {it l : Addr} {items : Array Value} {Q : Value → Shared → Prop} (hh : A.handled = none) (hit : s.heap.IsRevIter it l ((items.size : Int) - 1)) (hl : s.heap.IsList l items) (hne : l ≠ it) (hn : items.size ≤ sizeLine)
    (hQ : ∀ (h' : Heap) (tk : Nat) (acc : Array Value) (c : Nat), (∀ b o, b ≠ it → s.heap.get? b = some o → h'.get? b = some o) → h'.get? s.heap.objs.size = some { cls := .type "list", dict := none, data := .seq acc c, slots := #[] } →
      ItemsOf (fun i v => items[items.size - 1 - i]? = some v) acc items.size → Q (.ref s.heap.objs.size) { s with heap := h', toks := tk }) :
    wpAny (model prog w) A (call (.type "list") [.ref it]) Q E s := by
  obtain ⟨oi, hoi, _⟩ := id hit
  obtain ⟨ol, hol, _⟩ := id hl
  have ni : s.heap.objs.size ≠ it := Nat.ne_of_gt (Heap.lt_size hoi)
  have nl : s.heap.objs.size ≠ l := Nat.ne_of_gt (Heap.lt_size hol)
  have away : s.heap.objs.size ∉ [it, l] := by
    simp only [List.mem_cons, List.not_mem_nil, or_false, not_or]
    exact ⟨ni, nl⟩
  refine callType_codes (Q₁ := fun v s₁ => v = .ref s.heap.objs.size ∧ s₁ = { s with heap := s.heap.push { cls := .type "list", data := .seq #[] } }) F.called_list (F.typeCall_list_1 _) F.entry_list_init (code_list_new _ ⟨rfl, rfl⟩) fun v s₁ h₁ => ?_
  obtain ⟨rfl, rfl⟩ := h₁
  have hS : (s.heap.push { cls := .type "list", data := .seq #[] }).get? s.heap.objs.size = some { cls := .type "list", data := .seq #[] } := Heap.get?_push_size _ rfl
  refine ⟨⟨_, hS, rfl⟩, F.args_list_init_2 _ _, ?_⟩
  show wpAny _ _ (do let old ← Builtin.List.listItems (.ref s.heap.objs.size); Builtin.List.listUpdate (.ref s.heap.objs.size) (fun _ => #[]); letGo old.toList.reverse; Builtin.List.listExtendWith (.ref s.heap.objs.size) (.ref it) .none) _ _ _
  refine wpAny_bind ?_
  unfold Builtin.List.listItems
  refine wpAny_bind (wpAny_seqItems hS rfl (wpAny_pure ?_))
  show wpAny _ _ (updateSeq s.heap.objs.size (fun _ => #[]) >>= fun _ => letGo (#[] : Array Value).toList.reverse >>= fun _ => Builtin.List.listExtendWith (.ref s.heap.objs.size) (.ref it) .none) _ _ _
  refine wpAny_bind (wpAny_updateSeq hS rfl ?_)
  have hS₂ := Heap.get?_update_self (Obj.mapSeq (fun _ => (#[] : Array Value))) hS rfl
  have oth : ∀ b o, b ≠ s.heap.objs.size → s.heap.get? b = some o → ((s.heap.push { cls := .type "list", data := .seq #[] }).update s.heap.objs.size (Obj.mapSeq (fun _ => (#[] : Array Value)))).get? b = some o :=
    fun b o hb e => (Heap.get?_update_other _ _ (Ne.symm hb)).trans (Heap.get?_push_of_some _ e)
  refine wpAny_bind (wpAny_letGo ?_)
  generalize hgh : (s.heap.push { cls := .type "list", data := .seq #[] }).update s.heap.objs.size (Obj.mapSeq (fun _ => (#[] : Array Value))) = g at hS₂ oth
  have hit1 : g.IsRevIter it l ((items.size : Int) - 1) := hit.at fun o e => oth _ _ ni.symm e
  have hl1 : g.IsList l items := hl.at fun o e => oth _ _ nl.symm e
  have hT : ({ s with heap := g } : Shared).TypeIs (.ref it) "list_reverseiterator" := Heap.IsRevIter.typeIs (s := { s with heap := g }) hit1
  have h1 : Builtin.List.listSameRef (.ref s.heap.objs.size) (.ref it) = false := by simp [Builtin.List.listSameRef, ni]
  have hh2 : A.in1.in1.handled = none := by simp [hh]
  have W := (Walks.listRev (prog := prog) (w := w) (A := A.in1.in1) hh2 it l hne items).toS
  unfold Builtin.List.listExtendWith
  refine wpAny_bind (wpAny_typeOf hT ?_)
  rw [if_neg (by rw [h1]; decide)]
  refine wpAny_bind (wpAny_pyIter_revIter (s := { s with heap := g }) hit1 (wpAny_bind (wpAny_holding ?_)))
  unfold Builtin.List.listLengthHint
  refine wpAny_bind (wpAny_specialOf hT RT.nolen_lri ?_)
  show wpAny _ _ (specialOf (Value.ref it) (Str.ofString "__length_hint__") >>= _) _ _ _
  refine wpAny_bind (wpAny_specialOf hT RT.hint_lri ?_)
  generalize hid : ("list_reverseiterator.__length_hint__" : String) = nm
  wp_delta
  rw [show splitId nm = some ("list_reverseiterator", "__length_hint__") from by subst hid; decide +kernel]
  subst hid
  refine wpAny_bind (wpAny_isInstance (b := true) hT (by rw [isSubtype_type]; kernel_rfl) (wpAny_pure ?_))
  rw [if_neg (by decide)]
  have e0 : ((items.size : Nat) : Int) - 1 - ((0 : Nat) : Int) = (items.size : Int) - 1 := by omega
  refine wpAny_pure ⟨plainId_quiet F.plain_extend_loop _, codeAny_extend_loopS W hn _ away _ items.size 0 _ _ _ rfl (Nat.zero_le _) ⟨Nat.zero_le _, by rw [e0]; exact hit1, hl1⟩ hS₂ (ItemsOf.nil _) fun s' acc' c' mv hS' hacc => ?_⟩
  rw [Moved.eq_with mv]
  refine ⟨rfl, hQ s'.heap s'.toks acc' c' (fun b o hb e => mv.heap b o (fun hmem => ?_) ?_) hS' hacc⟩
  · rcases List.mem_cons.mp hmem with e' | hmem
    · exact absurd (Heap.lt_size e) (by rw [e']; exact Nat.lt_irrefl _)
    · exact hb (List.mem_singleton.mp hmem)
  · exact oth b o (Nat.ne_of_lt (Heap.lt_size e)) e
end
/-- list(reversed(x)), x a list -/
def tListRev (K : PySem.W.Frag) (te : TE) : TE := fun σ H Q => te σ H fun v H1 => ∃ (a : Addr) (xs : List V), v = .ref a ∧ SqL K H1 a xs ∧ ∀ q, H1 q = none → Q (.ref q) (upd H1 q (.lst xs.reverse))
theorem pe_listRev {X : Cx} {e : Expr} {te : TE} {p p2 pos pos2 : Pos} (hg : Gl X "list") (hm : X.mg "list" = none) (hg2 : Gl X "reversed") (hm2 : X.mg "reversed" = none) (he : PE X e te) (hc : X.calm = true := by rfl)
    (hs : starEach [e] X.env = (false, eval e X.env) :: starEach [] X.env := by rfl)
    (hs2 : starEach [.Call (.Name "reversed" p2) [e] [] pos2] X.env = (false, eval (.Call (.Name "reversed" p2) [e] [] pos2) X.env) :: starEach [] X.env := by rfl) :
    PE X (.Call (.Name "list" p) [.Call (.Name "reversed" p2) [e] [] pos2] [] pos) (tListRev X.K te) := by
  constructor
  intro pins s σ H Q I h
  refine Call_ (ld_blt I hg hm boot_list (PyProof.Rows.callWith_type1 (args_cons (Call_ (ld_blt I hg2 hm2 PyProof.Rows.boot_reversed (PyProof.Rows.callWith_type1 (args_cons (thn (he.run pins s σ H _ I h) fun u s1 ⟨v, H1, I1, r1, q1⟩ => args_nil ?_) hs) hs rfl))) hs2) hs2 rfl))
  obtain ⟨a, xs, rfl, hq, q⟩ := q1
  obtain rfl : u = Value.ref a := r1
  obtain ⟨its, rv, pl, hz⟩ := I1.list hq
  refine call_reversed_list pl.isList (args_nil ?_)
  have hl := pl.isList
  obtain ⟨ol, hol, _⟩ := id hl
  have hne : a ≠ s1.heap.objs.size := Nat.ne_of_lt (Heap.lt_size hol)
  have hn : its.toArray.size ≤ sizeLine := by rw [List.size_toArray, ← rv.length]; exact hz
  have sz : (s1.heap.push (revObj a ((its.toArray.size : Int) - 1))).objs.size = s1.heap.objs.size + 1 := Heap.size_push _ _
  refine call_list_rev (s := { s1 with heap := s1.heap.push (revObj a ((its.toArray.size : Int) - 1)) }) (I1.ok.hd hc) ⟨_, Heap.get?_push_size _ rfl, rfl, rfl⟩ (hl.push _) hne hn fun h' tk acc c hk hS hi => ?_
  have e1 : acc.toList.toArray = acc := by simp
  refine ⟨.ref (s1.heap.push (revObj a ((its.toArray.size : Int) - 1))).objs.size, upd H1 _ (.lst xs.reverse), I1.laid (t' := tk) (fun b o e => hk b o (Nat.ne_of_lt (Heap.lt_size e)) (Heap.get?_push_of_some _ e)) (by rw [sz]; exact Nat.le_succ _)
    (show ObjOk X.prog X.w _ h' _ (.lst xs.reverse) from ⟨by rw [List.length_reverse]; exact hz, acc.toList, c, RT.vals_rev rv hi, by rw [e1]; exact hS⟩), rfl, q _ (I1.hok.fresh (by rw [sz]; exact Nat.le_succ _))⟩
end SxA

set_option Elab.async false
set_option linter.all false
set_option maxRecDepth 100000
set_option maxHeartbeats 1000000
namespace Sx
open PySem PySem.Spec PyProof.Rows L2 SxA
/-- a def of the top -/
abbrev Fd (K : PySem.W.Frag) (x : Str) (st : Stmt) : Prop := ∃ fd, FunD K x x (defArgs st) (defBody st) (defScope st) [] [] (He.ga K x) fd
section
variable {P : Program} {w : World} {K : PySem.W.Frag} {mg : Str → Option Value} {base : Heap}
def Ok (P : Program) (w : World) (K : PySem.W.Frag) (mg : Str → Option Value) (base : Heap) (k : Nat) (x : Str) (ps : List Str) (sp : Sp) : Prop :=
  ∃ fd, FnOk P w K mg base CX0 k (He.ga K x) fd ps sp ∧ Binds K fd ps [] ∧ PySem.W.keepIn K (.ref (He.ga K x)) = true ∧ mg x = some (.ref (He.ga K x))
theorem mkOk {x : Str} {st : Stmt} {N ps : List Str} {k : Nat} {sp : Sp} (d : Fd K x st) (hx : mg x = some (.ref (He.ga K x))) (S : FnScope N ps (defScope st)) (len : ∀ vs H Q E, sp vs H Q E → vs.length = ps.length)
    (bnd : ∀ (kV doc pm : Value) (an : Option Addr) (cdv ct : Value) (us : List Value), us.length = ps.length → bindArgs (PySem.W.fnOf x x (defArgs st) (defBody st) (defScope st) .none kV doc pm an cdv ct) ⟨us, []⟩ = pure (ps.zip us))
    (body : ∀ (cdv : Value) (A : Around) (outer : List Env) (s : Shared) (H0 : Hp) (vs : List V) (Q : VK) (E : XK), Room k (A.deeper (envOfC x (defScope st) s.heap.objs.size (He.ga K x) cdv)) → sp vs H0 Q E →
      ∃ t, PSs (cxOf CX0 P w K mg base N x (defScope st) (He.ga K x) cdv A outer s H0 E).nox (defBody st) t ∧ t { nx := fun _ H' => Q .non H', rt := Q } (start N vs) H0) : Ok P w K mg base (k + 1) x ps sp := by
  obtain ⟨fd, F⟩ := d
  refine ⟨fd, F.ok S len fun cdv A outer s H vs Q E hr h => ?_, F.bindsN bnd, F.kp, hx⟩
  obtain ⟨t, h1, h2⟩ := body cdv A outer s H vs Q E hr h
  exact ⟨t, h1.nox, h2⟩
theorem pe_ok {X : Cx} {k : Nat} {x : Str} {ps : List Str} {sp : Sp} {p pos : Pos} {e : Expr} {es : List Expr} {t : TA} (o : Ok X.prog X.w X.K X.mg X.base k x ps sp) (hr : Room k X.A) (hg : Gl X x) (ha : PA X (e :: es) t)
    (hdb : (x == ("__debug__" : Str)) = false := by decide) (hs : starEach (e :: es) X.env = (false, eval e X.env) :: starEach es X.env := by rfl) (hpl : ((backTo pos (starEach es X.env)).any (·.1)) = false := by rfl) :
    PE X (.Call (.Name x p) (e :: es) [] pos) (tCall sp [] E0 t) := by
  obtain ⟨fd, F, b, kp, hm⟩ := o
  exact pe_call F hr hg hm kp b .nil pass0 ha hdb hs hpl
def But (a : Addr) (H H' : Hp) : Prop := ∀ b o, H b = some o → b ≠ a → H' b = some o
theorem But.of {a : Addr} {H H' : Hp} (s : Same H H') : But a H H' := fun b o e _ => s b o e
theorem Same.new {H : Hp} {p : Addr} {o : HO} (h : H p = none) : Same H (upd H p o) := fun b o e => by
  rw [upd_ne (ne_of_none e h)]
  exact e
theorem Same.put {H0 H : Hp} {p : Addr} {o : HO} (s : Same H0 H) (h : H0 p = none) : Same H0 (upd H p o) := fun b o e => by
  rw [upd_ne (ne_of_none e h)]
  exact s b o e
theorem lc_text {z : Str} {ys : List V} {te : TE} {i0 : Nat} {vs : List Nat} {σ : L2.St} {H1 : Hp} {D : Addr} {Qd : Hp → Prop} (hD : H1 D = none) (hl : ys.length = z.cps.toList.length) (hz : ys.length ≤ sizeLine)
    (hw : ∀ c : Nat, wipe ((wipe σ vs).set i0 (some (.str (sg c)))) vs = wipe σ vs)
    (he : ∀ (i c : Nat) (y : V) (H : Hp) (Q : VK), z.cps.toList[i]? = some c → ys[i]? = some y → Same H1 H → (∀ H', Same H H' → Q y H') → te ((wipe σ vs).set i0 (some (.str (sg c)))) H Q)
    (hd : ∀ H, Same H1 H → H D = some (.lst ys) → Qd H) :
    ∃ W : Nat → Nat → Hp → Prop, (∃ m, W 0 m (upd H1 D (.lst []))) ∧ ∀ i m H, W i m H → ((Its z).stop i H ∧ Qd H) ∨ ((Its z).go i H ∧ ∃ Nx : Hp → Prop, (∀ H', Nx H' → ∃ m', m' < m ∧ W (i + 1) m' H') ∧
      ∀ x H', (Its z).yld i H x H' → (gName i0) x (wipe σ vs) H' fun σ2 H2 => wipe σ2 vs = wipe σ vs ∧ tYes σ2 H2 fun b H3 => if b = true then te σ2 H3 fun y H4 => ∃ acc, H4 D = some (.lst acc) ∧ acc.length < sizeLine ∧ Nx (upd H4 D (.lst (acc ++ [y]))) else Nx H3) := by
  have hsz : z.cps.size = ys.length := by rw [hl]; simp
  refine ⟨fun i m H => m = ys.length - i ∧ i ≤ ys.length ∧ Same H1 H ∧ H D = some (.lst (ys.take i)), ⟨ys.length, rfl, Nat.zero_le _, Same.new hD, upd_same⟩, ?_⟩
  rintro i m H ⟨rfl, hi, sm, hH⟩
  by_cases lt : i < ys.length
  · refine .inr ⟨by show i < z.cps.size; omega, fun H' => Same H1 H' ∧ H' D = some (.lst (ys.take (i + 1))), fun H' q => ⟨ys.length - (i + 1), by omega, rfl, lt, q.1, q.2⟩, ?_⟩
    rintro x H' ⟨rfl, c, hc, rfl⟩
    have hc2 : z.cps.toList[i]? = some c := by rw [Array.getElem?_toList]; exact hc
    have hy : ys[i]? = some ys[i] := List.getElem?_eq_getElem lt
    refine ⟨hw c, ?_⟩
    show te _ _ _
    refine he i c _ _ _ hc2 hy sm fun H4 s4 => ⟨ys.take i, s4 _ _ hH, ?_, ?_, ?_⟩
    · rw [List.length_take]; omega
    · exact Same.put (sm.trans s4) hD
    · rw [upd_same, List.take_add_one, hy]; rfl
  · have e : i = ys.length := by omega
    subst e
    refine .inl ⟨by show z.cps.size ≤ ys.length; omega, hd H sm ?_⟩
    rw [hH, List.take_length]
theorem lc_known {a : Addr} {xs ys : List V} {te : TE} {i0 : Nat} {vs : List Nat} {σ : L2.St} {H1 : Hp} {D : Addr} {Qd : Hp → Prop} (hD : H1 D = none) (hq : SqL K H1 a xs) (hl : ys.length = xs.length) (hz : ys.length ≤ sizeLine)
    (hw : ∀ v : V, wipe ((wipe σ vs).set i0 (some v)) vs = wipe σ vs)
    (he : ∀ (i : Nat) (x y : V) (H : Hp) (Q : VK), xs[i]? = some x → ys[i]? = some y → Same H1 H → (∀ H', Same H H' → Q y H') → te ((wipe σ vs).set i0 (some x)) H Q)
    (hd : ∀ H, Same H1 H → H D = some (.lst ys) → Qd H) :
    ∃ W : Nat → Nat → Hp → Prop, (∃ m, W 0 m (upd H1 D (.lst []))) ∧ ∀ i m H, W i m H → ((Itl K a).stop i H ∧ Qd H) ∨ ((Itl K a).go i H ∧ ∃ Nx : Hp → Prop, (∀ H', Nx H' → ∃ m', m' < m ∧ W (i + 1) m' H') ∧
      ∀ x H', (Itl K a).yld i H x H' → (gName i0) x (wipe σ vs) H' fun σ2 H2 => wipe σ2 vs = wipe σ vs ∧ tYes σ2 H2 fun b H3 => if b = true then te σ2 H3 fun y H4 => ∃ acc, H4 D = some (.lst acc) ∧ acc.length < sizeLine ∧ Nx (upd H4 D (.lst (acc ++ [y]))) else Nx H3) := by
  refine lc_list (K := K) (a := a) (xs := xs) (g := gName i0) (tt := tYes) (te := te) (fun i H => Same H1 H ∧ H D = some (.lst (ys.take i))) ⟨Same.new hD, upd_same⟩ (fun i H _ p => p.1.seq hq) ?_ ?_
  · rintro i x H hx ⟨sm, hH⟩
    have lt : i < ys.length := by rw [hl]; exact (List.getElem?_eq_some_iff.mp hx).1
    have hy : ys[i]? = some ys[i] := List.getElem?_eq_getElem lt
    refine ⟨hw x, ?_⟩
    show te _ _ _
    refine he i x _ _ _ hx hy sm fun H4 s4 => ⟨ys.take i, s4 _ _ hH, ?_, Same.put (sm.trans s4) hD, ?_⟩
    · rw [List.length_take]; omega
    · rw [upd_same, List.take_add_one, hy]; rfl
  · rintro H ⟨sm, hH⟩
    rw [← hl, List.take_length] at hH
    exact hd H sm hH
abbrev sl (z : Str) : List Nat := z.cps.toList
theorem sl_len (z : Str) : z.length = (sl z).length := by simp [Str.length]
theorem lt1 (a b : Nat) : decide ((⟨#[a]⟩ : Str).cps.toList < (⟨#[b]⟩ : Str).cps.toList) = decide (a < b) := by
  rw [decide_eq_decide]
  show [a] < [b] ↔ a < b
  rw [List.cons_lt_cons_iff]
  constructor
  · rintro (h | ⟨_, h⟩)
    · exact h
    · exact absurd h (List.not_lt_nil _)
  · exact Or.inl
theorem eq_sg (c e : Nat) : decide (V.str (sg c) = V.str (sg e)) = decide (c = e) := by
  rw [decide_eq_decide]
  exact ⟨fun h => sg_inj (V.str.inj h), fun h => by rw [h]⟩
theorem mkFn {x : Str} {st : Stmt} {N ps : List Str} {k : Nat} {sp : Sp} {fd : FuncData} (F : FunD K x x (defArgs st) (defBody st) (defScope st) [] [] (He.ga K x) fd) (S : FnScope N ps (defScope st)) (len : ∀ vs H Q E, sp vs H Q E → vs.length = ps.length)
    (body : ∀ (cdv : Value) (A : Around) (outer : List Env) (s : Shared) (H0 : Hp) (vs : List V) (Q : VK) (E : XK), Room k (A.deeper (envOfC x (defScope st) s.heap.objs.size (He.ga K x) cdv)) → sp vs H0 Q E →
      ∃ t, PSs (cxOf CX0 P w K mg base N x (defScope st) (He.ga K x) cdv A outer s H0 E).nox (defBody st) t ∧ t { nx := fun _ H' => Q .non H', rt := Q } (start N vs) H0) : FnOk P w K mg base CX0 (k + 1) (He.ga K x) fd ps sp := by
  refine F.ok S len fun cdv A outer s H vs Q E hr h => ?_
  obtain ⟨t, h1, h2⟩ := body cdv A outer s H vs Q E hr h
  exact ⟨t, h1.nox, h2⟩
theorem pgi {X : Cx} {x : Str} {i : Int} {k : Tok} {pos : Pos} (hg : Gl X x) (hm : X.mg x = some (.int i k)) (hd : (x == ("__debug__" : Str)) = false := by decide) : PE X (.Name x pos) (tC (.int i)) := pe_glob (v := .int i) hg hm ⟨_, rfl⟩ hd
theorem pgs {X : Cx} {x z : Str} {k : Tok} {pos : Pos} (hg : Gl X x) (hm : X.mg x = some (.str z k)) (hd : (x == ("__debug__" : Str)) = false := by decide) : PE X (.Name x pos) (tC (.str z)) := pe_glob (v := .str z) hg hm ⟨_, rfl⟩ hd
theorem op_notInK {X : Cx} {K : PySem.W.Frag} (h : X.K = K) : OpR X (compareOp .NotIn) (rIn K true) := by
  subst h
  exact op_notIn_seq
theorem small4 {n : Nat} (h : n ≤ 4000) : n ≤ sizeLine := Nat.le_trans h (by decide)
theorem sqD {D : Addr} {H : Hp} {ys : List V} (h : H D = some (.lst ys)) : SqL K H D ys := SqL.of h
theorem big6 {n : Nat} (h : n ≤ 1000000) : n ≤ sizeLine := Nat.le_trans h (by decide)
def off (a : Addr) (H : Hp) : Hp := fun b => if b = a then none else H b
def fresh (H H' : Hp) : Hp := fun b => match H b with
  | none => H' b
  | some _ => none
theorem off_ne {a b : Addr} {H : Hp} (h : b ≠ a) : off a H b = H b := if_neg h
theorem off_some {a b : Addr} {H : Hp} {o : HO} (h : off a H b = some o) : b ≠ a ∧ H b = some o := by
  unfold off at h
  by_cases e : b = a
  · rw [if_pos e] at h; cases h
  · rw [if_neg e] at h; exact ⟨e, h⟩
theorem fresh_of {H H' : Hp} {b : Addr} (h : H b = none) : fresh H H' b = H' b := by
  unfold fresh; rw [h]
theorem fresh_some {H H' : Hp} {b : Addr} {o : HO} (h : fresh H H' b = some o) : H b = none ∧ H' b = some o := by
  unfold fresh at h
  cases e : H b with
  | none => rw [e] at h; exact ⟨rfl, h⟩
  | some u => rw [e] at h; cases h
theorem off_le {a : Addr} {H : Hp} : Same (off a H) H := fun b o h => (off_some h).2
theorem off_up {a : Addr} {H H' : Hp} (s : Same H H') : Same (off a H) (off a H') := fun b o h => by
  obtain ⟨h1, h2⟩ := off_some h
  rw [off_ne h1]
  exact s _ _ h2
theorem off_but {a : Addr} {H H' : Hp} (s : But a H H') : Same (off a H) (off a H') := fun b o h => by
  obtain ⟨h1, h2⟩ := off_some h
  rw [off_ne h1]
  exact s _ _ h2 h1
theorem off_put (a : Addr) (H : Hp) (o : HO) : off a (upd H a o) = off a H := by
  funext b
  unfold off
  by_cases e : b = a
  · rw [if_pos e, if_pos e]
  · rw [if_neg e, if_neg e, upd_ne e]
theorem off_in {a : Addr} {H0 H : Hp} (s : Same H0 H) (h : H0 a = none) : Same H0 (off a H) := fun b o e => by
  rw [off_ne (ne_of_none e h)]
  exact s _ _ e
theorem fresh_le {H H' : Hp} : Same (fresh H H') H' := fun b o h => (fresh_some h).2
theorem fresh_off {a : Addr} {H H' : Hp} {u : HO} (h : H a = some u) : Same (fresh H H') (off a H') := fun b o e => by
  obtain ⟨h1, h2⟩ := fresh_some e
  rw [off_ne fun q => by rw [q, h] at h1; cases h1]
  exact h2
theorem fresh_up {H H1 H' H2 : Hp} (s : ∀ b, H1 b = none → H b = none) (s2 : Same H' H2) : Same (fresh H1 H') (fresh H H2) := fun b o e => by
  obtain ⟨h1, h2⟩ := fresh_some e
  rw [fresh_of (s b h1)]
  exact s2 _ _ h2
theorem Same.none {H H' : Hp} (s : Same H H') : ∀ b, H' b = Option.none → H b = Option.none := fun b h => s.free h
theorem put_new (f : Str) (v : V) : ∀ fs : List (Str × V), (∀ q ∈ fs, q.1 ≠ f) → putF f v fs = fs ++ [(f, v)]
  | [], _ => rfl
  | (g, x) :: r, h => by
    show (if g = f then (g, v) :: r else (g, x) :: putF f v r) = _
    rw [if_neg (h (g, x) (.head _)), put_new f v r fun q hq => h q (.tail _ hq)]
    rfl
theorem len_put (f : Str) (v : V) : ∀ fs : List (Str × V), (putF f v fs).length ≤ fs.length + 1
  | [] => Nat.le_refl _
  | (g, x) :: r => by
    show (if g = f then (g, v) :: r else (g, x) :: putF f v r).length ≤ _
    by_cases h : g = f
    · rw [if_pos h]; exact Nat.le_succ _
    · rw [if_neg h]; exact Nat.succ_le_succ (len_put f v r)
theorem len_put_lt {f : Str} {v : V} {fs : List (Str × V)} {n : Nat} (h : fs.length ≤ n) : (putF f v fs).length ≤ n + 1 := Nat.le_trans (len_put f v fs) (Nat.succ_le_succ h)
theorem lc_rel {a : Addr} {xs : List V} {te : TE} {i0 : Nat} {vs : List Nat} {σ : L2.St} {H1 : Hp} {D : Addr} {Qd : Hp → Prop} (Rel : Nat → V → Hp → Prop) (hm : ∀ i v H H', Rel i v H → Same H H' → Rel i v H') (hD : H1 D = none) (hq : SqL K H1 a xs) (hz : xs.length ≤ sizeLine)
    (hw : ∀ v : V, wipe ((wipe σ vs).set i0 (some v)) vs = wipe σ vs)
    (he : ∀ (i : Nat) (x : V) (H : Hp) (Q : VK) (acc : List V), xs[i]? = some x → Same H1 H → H D = some (.lst acc) → (∀ y H', Same H H' → Rel i y (fresh H H') → Q y H') → te ((wipe σ vs).set i0 (some x)) H Q)
    (hd : ∀ H ys, Same H1 H → H D = some (.lst ys) → ys.length = xs.length → (∀ i y, ys[i]? = some y → Rel i y (fresh H1 (off D H))) → Qd H) :
    ∃ W : Nat → Nat → Hp → Prop, (∃ m, W 0 m (upd H1 D (.lst []))) ∧ ∀ i m H, W i m H → ((Itl K a).stop i H ∧ Qd H) ∨ ((Itl K a).go i H ∧ ∃ Nx : Hp → Prop, (∀ H', Nx H' → ∃ m', m' < m ∧ W (i + 1) m' H') ∧
      ∀ x H', (Itl K a).yld i H x H' → (gName i0) x (wipe σ vs) H' fun σ2 H2 => wipe σ2 vs = wipe σ vs ∧ tYes σ2 H2 fun b H3 => if b = true then te σ2 H3 fun y H4 => ∃ acc, H4 D = some (.lst acc) ∧ acc.length < sizeLine ∧ Nx (upd H4 D (.lst (acc ++ [y]))) else Nx H3) := by
  refine lc_list (K := K) (a := a) (xs := xs) (g := gName i0) (tt := tYes) (te := te) (fun i H => Same H1 H ∧ ∃ ys, H D = some (.lst ys) ∧ ys.length = i ∧ ∀ j y, ys[j]? = some y → Rel j y (fresh H1 (off D H)))
    ⟨Same.new hD, [], upd_same, rfl, fun j y h => by simp at h⟩ (fun i H _ p => p.1.seq hq) ?_ ?_
  · rintro i x H hx ⟨sm, ys, hH, hl, hr⟩
    have lt : i < xs.length := (List.getElem?_eq_some_iff.mp hx).1
    refine ⟨hw x, ?_⟩
    show te _ _ _
    refine he i x _ _ ys hx sm hH fun y H4 s4 r4 => ⟨ys, s4 _ _ hH, by omega, Same.put (sm.trans s4) hD, ys ++ [y], upd_same, by rw [List.length_append, hl]; rfl, fun j v hj => ?_⟩
    rw [off_put]
    by_cases hji : j < ys.length
    · rw [List.getElem?_append_left hji] at hj
      exact hm _ _ _ _ (hr j v hj) (fresh_up (fun b h => h) (off_up s4))
    · rw [List.getElem?_append_right (by omega)] at hj
      have hj0 : j - ys.length = 0 := by
        have := (List.getElem?_eq_some_iff.mp hj).1
        rw [List.length_singleton] at this
        omega
      rw [hj0] at hj
      obtain rfl : y = v := Option.some.inj hj
      have e : j = i := by omega
      rw [e]
      refine hm _ _ _ _ r4 fun b o e => ?_
      obtain ⟨h1, h2⟩ := fresh_some e
      have hb : b ≠ D := fun q => by rw [q, hH] at h1; cases h1
      rw [fresh_of (Sx.Same.none sm b h1), off_ne hb]
      exact h2
  · rintro H ⟨sm, ys, hH, hl, hr⟩
    exact hd H ys sm hH hl hr
def pInts (cs : List Int) : PyData := .list (cs.map PyData.int)
theorem eqvAll_ints : ∀ xs ys : List Int, PyData.eqvAll (xs.map PyData.int) (ys.map PyData.int) = decide (xs = ys)
  | [], [] => rfl
  | [], y :: ys => by simp [PyData.eqvAll]
  | x :: xs, [] => by simp [PyData.eqvAll]
  | x :: xs, y :: ys => by
    rw [List.map_cons, List.map_cons, PyData.eqvAll, eqvAll_ints xs ys, PyData.eqv]
    by_cases h : x = y
    · subst h; simp
    · simp [h]
theorem eqv_ints (xs ys : List Int) : PyData.eqv (pInts xs) (pInts ys) = decide (xs = ys) := by
  unfold pInts
  rw [PyData.eqv]
  exact eqvAll_ints xs ys
theorem lay_ints : ∀ xs : List Int, PyData.canLayAll0 (xs.map PyData.int) = true
  | [] => rfl
  | x :: xs => by
    rw [List.map_cons, PyData.canLayAll0, lay_ints xs]
    rfl
theorem dep_ints : ∀ xs : List Int, PyData.depthAll (xs.map PyData.int) ≤ 1
  | [] => Nat.zero_le _
  | x :: xs => by
    rw [List.map_cons, PyData.depthAll]
    exact Nat.max_le.mpr ⟨by rw [PyData.depth]; decide, dep_ints xs⟩
theorem shaped_ints (xs : List Int) : SeqAt.shaped (pInts xs) = true := by
  unfold SeqAt.shaped pInts
  rw [PyData.canLay0, lay_ints, PyData.depth]
  have := dep_ints xs
  simp
  omega
theorem dpAll_ints (K : PySem.W.Frag) (H : Hp) : ∀ xs : List Int, DpAll K H (xs.map V.int) (xs.map PyData.int)
  | [] => .nil
  | x :: xs => .cons (.int x) (dpAll_ints K H xs)
theorem dp_ints {K : PySem.W.Frag} {H : Hp} {a : Addr} {xs : List Int} (h : SqL K H a (xs.map V.int)) : Dp K H (.ref a) (pInts xs) := .lst h (dpAll_ints K H xs)
theorem hu64 {A : Around} {k : Nat} (hr : Room k A) : A.units + 64 < cLine := by
  have := hr.un
  omega
theorem lc_zip {a b : Addr} {xs ys zs : List V} {te : TE} {i0 j0 : Nat} {vs : List Nat} {σ : L2.St} {H1 : Hp} {D : Addr} {Qd : Hp → Prop} (hD : H1 D = none) (hx : SqL K H1 a xs) (hy : SqL K H1 b ys) (hl : ys.length = xs.length) (hz : zs.length = xs.length) (hb : zs.length ≤ sizeLine)
    (hw : ∀ u v : V, wipe (((wipe σ vs).set i0 (some u)).set j0 (some v)) vs = wipe σ vs)
    (he : ∀ (i : Nat) (x y z : V) (H : Hp) (Q : VK), xs[i]? = some x → ys[i]? = some y → zs[i]? = some z → Same H1 H → (∀ H', Same H H' → Q z H') → te (((wipe σ vs).set i0 (some x)).set j0 (some y)) H Q)
    (hd : ∀ H, Same H1 H → H D = some (.lst zs) → Qd H) :
    ∃ W : Nat → Nat → Hp → Prop, (∃ m, W 0 m (upd H1 D (.lst []))) ∧ ∀ i m H, W i m H → ((Itz K a b).stop i H ∧ Qd H) ∨ ((Itz K a b).go i H ∧ ∃ Nx : Hp → Prop, (∀ H', Nx H' → ∃ m', m' < m ∧ W (i + 1) m' H') ∧
      ∀ x H', (Itz K a b).yld i H x H' → (gTup K 2 (gCons (gName i0) (gCons (gName j0) gNil))) x (wipe σ vs) H' fun σ2 H2 => wipe σ2 vs = wipe σ vs ∧ tYes σ2 H2 fun b H3 => if b = true then te σ2 H3 fun y H4 => ∃ acc, H4 D = some (.lst acc) ∧ acc.length < sizeLine ∧ Nx (upd H4 D (.lst (acc ++ [y]))) else Nx H3) := by
  refine ⟨fun i m H => m = zs.length - i ∧ i ≤ zs.length ∧ Same H1 H ∧ H D = some (.lst (zs.take i)), ⟨zs.length, rfl, Nat.zero_le _, Same.new hD, upd_same⟩, ?_⟩
  rintro i m H ⟨rfl, hi, sm, hH⟩
  by_cases lt : i < zs.length
  · have ex : xs[i]? = some (xs[i]'(by omega)) := List.getElem?_eq_getElem _
    have ey : ys[i]? = some (ys[i]'(by omega)) := List.getElem?_eq_getElem _
    have ez : zs[i]? = some zs[i] := List.getElem?_eq_getElem lt
    refine .inr ⟨⟨xs, ys, _, _, sm.seq hx, sm.seq hy, ex, ey⟩, fun H' => Same H1 H' ∧ H' D = some (.lst (zs.take (i + 1))), fun H' q => ⟨zs.length - (i + 1), by omega, rfl, lt, q.1, q.2⟩, ?_⟩
    rintro v H' ⟨T, x, y, rfl, hT, rfl, h1, h2⟩
    have hx2 := h1 _ (sm.seq hx)
    have hy2 := h2 _ (sm.seq hy)
    refine ⟨T, [x, y], rfl, SqT.of upd_same, rfl, x, _, rfl, y, _, rfl, rfl, hw x y, ?_⟩
    show te _ _ _
    have nDT : D ≠ T := ne_of_none hH hT
    refine he i x y _ _ _ hx2 hy2 ez (sm.trans (Same.new hT)) fun H4 s4 => ⟨zs.take i, s4 _ _ (by rw [upd_ne nDT]; exact hH), ?_, ?_, ?_⟩
    · rw [List.length_take]; omega
    · exact Same.put ((sm.trans (Same.new hT)).trans s4) hD
    · rw [upd_same, List.take_add_one, ez]; rfl
  · have e : i = zs.length := by omega
    subst e
    refine .inl ⟨⟨xs, ys, sm.seq hx, sm.seq hy, .inl (by omega)⟩, hd H sm ?_⟩
    rw [hH, List.take_length]
theorem lc_rangeF {lo : Int} {n : Nat} {f : Nat → Bool} {F : Nat → V} {tt : TT} {te : TE} {i0 : Nat} {vs : List Nat} {σ : L2.St} {H1 : Hp} {D : Addr} {Qd : Hp → Prop} (hD : H1 D = none) (hn : n ≤ sizeLine)
    (hw : ∀ u : V, wipe ((wipe σ vs).set i0 (some u)) vs = wipe σ vs)
    (ht : ∀ (i : Nat) (H : Hp) (Q : Bool → Hp → Prop), i < n → Same H1 H → Q (f i) H → tt ((wipe σ vs).set i0 (some (.int (lo + (i : Nat))))) H Q)
    (he : ∀ (i : Nat) (H : Hp) (Q : VK), i < n → Same H1 H → Q (F i) H → te ((wipe σ vs).set i0 (some (.int (lo + (i : Nat))))) H Q)
    (hd : ∀ H, Same H1 H → H D = some (.lst (((List.range n).filter f).map F)) → Qd H) :
    ∃ W : Nat → Nat → Hp → Prop, (∃ m, W 0 m (upd H1 D (.lst []))) ∧ ∀ i m H, W i m H → ((Itr lo n).stop i H ∧ Qd H) ∨ ((Itr lo n).go i H ∧ ∃ Nx : Hp → Prop, (∀ H', Nx H' → ∃ m', m' < m ∧ W (i + 1) m' H') ∧
      ∀ x H', (Itr lo n).yld i H x H' → (gName i0) x (wipe σ vs) H' fun σ2 H2 => wipe σ2 vs = wipe σ vs ∧ tt σ2 H2 fun b H3 => if b = true then te σ2 H3 fun y H4 => ∃ acc, H4 D = some (.lst acc) ∧ acc.length < sizeLine ∧ Nx (upd H4 D (.lst (acc ++ [y]))) else Nx H3) := by
  have step : ∀ i, ((List.range (i + 1)).filter f).map F = ((List.range i).filter f).map F ++ (if f i = true then [F i] else []) := fun i => by
    rw [List.range_succ, List.filter_append, List.map_append]
    by_cases h : f i = true
    · rw [if_pos h]; simp [List.filter_cons, h]
    · rw [if_neg h]; simp [List.filter_cons, h]
  have small : ∀ i, i < n → (((List.range i).filter f).map F).length < sizeLine := fun i h => by
    rw [List.length_map]
    have := List.length_filter_le f (List.range i)
    rw [List.length_range] at this
    omega
  refine lc_range (g := gName i0) (tt := tt) (te := te) (fun i H => Same H1 H ∧ H D = some (.lst (((List.range i).filter f).map F))) ⟨Same.new hD, upd_same⟩ ?_ (fun H q => hd H q.1 q.2)
  rintro i H hi ⟨sm, hH⟩
  refine ⟨hw _, ht i H _ hi sm ?_⟩
  by_cases h : f i = true
  · rw [if_pos h]
    refine he i H _ hi sm ⟨_, hH, small i hi, Same.put sm hD, ?_⟩
    rw [upd_same, step, if_pos h]
  · rw [if_neg h]
    exact ⟨sm, by rw [hH, step, if_neg h, List.append_nil]⟩
theorem eq_int (a b : Int) : decide (V.int a = V.int b) = decide (a = b) := by
  rw [decide_eq_decide]
  exact ⟨V.int.inj, congrArg V.int⟩
theorem eq_str (a b : Str) : decide (V.str a = V.str b) = decide (a = b) := by
  rw [decide_eq_decide]
  exact ⟨V.str.inj, congrArg V.str⟩
theorem lc_rangeS {lo : Int} {n : Nat} {f : Nat → Bool} {F : Nat → V} {tt : TT} {te : TE} {i0 : Nat} {vs : List Nat} {σ : L2.St} {H1 : Hp} {D : Addr} {Qd : Hp → Prop} (hD : H1 D = none) (hn : n ≤ sizeLine)
    (hw : ∀ u : V, wipe ((wipe σ vs).set i0 (some u)) vs = wipe σ vs)
    (ht : ∀ (i : Nat) (H : Hp) (Q : Bool → Hp → Prop), i < n → Same H1 H → (∀ H', Same H H' → Q (f i) H') → tt ((wipe σ vs).set i0 (some (.int (lo + (i : Nat))))) H Q)
    (he : ∀ (i : Nat) (H : Hp) (Q : VK), i < n → Same H1 H → Q (F i) H → te ((wipe σ vs).set i0 (some (.int (lo + (i : Nat))))) H Q)
    (hd : ∀ H, Same H1 H → H D = some (.lst (((List.range n).filter f).map F)) → Qd H) :
    ∃ W : Nat → Nat → Hp → Prop, (∃ m, W 0 m (upd H1 D (.lst []))) ∧ ∀ i m H, W i m H → ((Itr lo n).stop i H ∧ Qd H) ∨ ((Itr lo n).go i H ∧ ∃ Nx : Hp → Prop, (∀ H', Nx H' → ∃ m', m' < m ∧ W (i + 1) m' H') ∧
      ∀ x H', (Itr lo n).yld i H x H' → (gName i0) x (wipe σ vs) H' fun σ2 H2 => wipe σ2 vs = wipe σ vs ∧ tt σ2 H2 fun b H3 => if b = true then te σ2 H3 fun y H4 => ∃ acc, H4 D = some (.lst acc) ∧ acc.length < sizeLine ∧ Nx (upd H4 D (.lst (acc ++ [y]))) else Nx H3) := by
  have step : ∀ i, ((List.range (i + 1)).filter f).map F = ((List.range i).filter f).map F ++ (if f i = true then [F i] else []) := fun i => by
    rw [List.range_succ, List.filter_append, List.map_append]
    by_cases h : f i = true
    · rw [if_pos h]; simp [List.filter_cons, h]
    · rw [if_neg h]; simp [List.filter_cons, h]
  have small : ∀ i, i < n → (((List.range i).filter f).map F).length < sizeLine := fun i h => by
    rw [List.length_map]
    have := List.length_filter_le f (List.range i)
    rw [List.length_range] at this
    omega
  refine lc_range (g := gName i0) (tt := tt) (te := te) (fun i H => Same H1 H ∧ H D = some (.lst (((List.range i).filter f).map F))) ⟨Same.new hD, upd_same⟩ ?_ (fun H q => hd H q.1 q.2)
  rintro i H hi ⟨sm, hH⟩
  refine ⟨hw _, ht i H _ hi sm fun H' s' => ?_⟩
  have hH' := s' _ _ hH
  have sm' := sm.trans s'
  by_cases h : f i = true
  · rw [if_pos h]
    refine he i H' _ hi sm' ⟨_, hH', small i hi, Same.put sm' hD, ?_⟩
    rw [upd_same, step, if_pos h]
  · rw [if_neg h]
    exact ⟨sm', by rw [hH', step, if_neg h, List.append_nil]⟩
theorem pe_fldK {X : Cx} {K : PySem.W.Frag} {e : Expr} {f : Str} {pos : Pos} {ta : TE} (h : X.K = K) (ha : PE X e ta) (hb : attributeBase e f X.env (eval e X.env) = eval e X.env := by rfl) : PE X (.Attribute e f pos) (tFld K ta f) := by
  subst h
  exact pe_fld ha hb
def tTru (K : PySem.W.Frag) (ta : TE) : TT := fun σ H Q => ta σ H fun x H' => ∃ k, TruV K x H' k ∧ Q k H'
theorem pt_truthK {X : Cx} {K : PySem.W.Frag} {a : Expr} {ta : TE} (h : X.K = K) (ha : PE X a ta) (he : ∀ whole, isTrue a X.env whole = (do let v ← whole; standAt a.pos; holding [v] (truthy v)) := by intro _; rfl) :
    PT X a (tTru K ta) := by
  subst h
  exact pt_truth ha he
theorem op_inK {X : Cx} {K : PySem.W.Frag} (h : X.K = K) : OpR X (compareOp .In) (rIn K false) := by
  subst h
  exact op_in_seq
theorem But.refl (a : Addr) (H : Hp) : But a H H := fun _ _ e _ => e
theorem But.trans {a : Addr} {H H1 H2 : Hp} (x : But a H H1) (y : But a H1 H2) : But a H H2 := fun b o e hb => y b o (x b o e hb) hb
theorem But.put (a : Addr) (H : Hp) (o : HO) : But a H (upd H a o) := fun b u e hb => by rw [upd_ne hb]; exact e
theorem ix_tupK {X : Cx} {K : PySem.W.Frag} (h : X.K = K) : IxR X (rIxT K) := by
  subst h
  exact ix_tup
theorem ix_listK {X : Cx} {K : PySem.W.Frag} (h : X.K = K) : IxR X (rIxL K) := by
  subst h
  exact ix_list
theorem But.none {a b : Addr} {H H' : Hp} {o : HO} (s : But a H H') (h : H' a = some o) (hb : H' b = Option.none) : H b = Option.none := by
  cases e : H b with
  | none => rfl
  | some u =>
    have n : b ≠ a := fun q => by rw [q, h] at hb; cases hb
    rw [s b u e n] at hb
    cases hb
theorem sl_app (a b : Str) : sl (a ++ b) = sl a ++ sl b := by
  show (a.cps ++ b.cps).toList = _
  simp
theorem sl_sg (c : Nat) : sl (sg c) = [c] := rfl
theorem sl_mt : sl (Str.ofString "") = [] := by decide +kernel
theorem len_app (a b : Str) : (a ++ b).length = a.length + b.length := by
  rw [sl_len, sl_len, sl_len, sl_app, List.length_append]
theorem sl_ext {a b : Str} (h : sl a = sl b) : a = b := by
  obtain ⟨a⟩ := a
  obtain ⟨b⟩ := b
  have : a = b := by
    apply Array.ext'
    exact h
  rw [this]
theorem join_sg : ∀ zs : List Nat, sl (Txt.join (Str.ofString "") (zs.map sg)) = zs := by
  intro zs
  have e : Txt.join (Str.ofString "") (zs.map sg) = Str.join (Str.ofString "") (zs.map sg) := eq_of_beq (join_plain_closes _ _)
  rw [e]
  have e0 : Str.ofString "" = ⟨#[]⟩ := by decide +kernel
  rw [e0]
  induction zs with
  | nil => rfl
  | cons c r ih =>
    cases r with
    | nil => rfl
    | cons d r =>
      have e2 : Str.join ⟨#[]⟩ ((c :: d :: r).map sg) = sg c ++ ⟨#[]⟩ ++ Str.join ⟨#[]⟩ ((d :: r).map sg) := rfl
      rw [e2, sl_app, ih (eq_of_beq (join_plain_closes _ _)), sl_app]
      rfl
theorem lc_signs {z : Str} {tt : TT} {te : TE} {i0 : Nat} {vs : List Nat} {σ : L2.St} {H1 : Hp} {D : Addr} {Qd : Hp → Prop} (Pv : Nat → Hp → Prop) (h0 : Pv 0 (upd H1 D (.lst [])))
    (hs : ∀ (i c : Nat) (H : Hp), (sl z)[i]? = some c → Pv i H → wipe ((wipe σ vs).set i0 (some (.str (sg c)))) vs = wipe σ vs ∧ tt ((wipe σ vs).set i0 (some (.str (sg c)))) H fun b H3 => if b = true then te ((wipe σ vs).set i0 (some (.str (sg c)))) H3 fun y H4 => ∃ acc, H4 D = some (.lst acc) ∧ acc.length < sizeLine ∧ Pv (i + 1) (upd H4 D (.lst (acc ++ [y]))) else Pv (i + 1) H3)
    (hd : ∀ H, Pv (sl z).length H → Qd H) :
    ∃ W : Nat → Nat → Hp → Prop, (∃ m, W 0 m (upd H1 D (.lst []))) ∧ ∀ i m H, W i m H → ((Its z).stop i H ∧ Qd H) ∨ ((Its z).go i H ∧ ∃ Nx : Hp → Prop, (∀ H', Nx H' → ∃ m', m' < m ∧ W (i + 1) m' H') ∧
      ∀ x H', (Its z).yld i H x H' → (gName i0) x (wipe σ vs) H' fun σ2 H2 => wipe σ2 vs = wipe σ vs ∧ tt σ2 H2 fun b H3 => if b = true then te σ2 H3 fun y H4 => ∃ acc, H4 D = some (.lst acc) ∧ acc.length < sizeLine ∧ Nx (upd H4 D (.lst (acc ++ [y]))) else Nx H3) := by
  have hsz : z.cps.size = (sl z).length := by simp
  refine ⟨fun i m H => m = (sl z).length - i ∧ i ≤ (sl z).length ∧ Pv i H, ⟨(sl z).length, rfl, Nat.zero_le _, h0⟩, ?_⟩
  rintro i m H ⟨rfl, hi, p⟩
  by_cases lt : i < (sl z).length
  · refine .inr ⟨by show i < z.cps.size; omega, Pv (i + 1), fun H' q => ⟨(sl z).length - (i + 1), by omega, rfl, lt, q⟩, ?_⟩
    rintro x H' ⟨rfl, c, hc, rfl⟩
    exact hs i c _ (by rw [Array.getElem?_toList]; exact hc) p
  · have e : i = (sl z).length := by omega
    subst e
    exact .inl ⟨by show z.cps.size ≤ (sl z).length; omega, hd H p⟩
theorem for_signs {z : Str} {g : TG} {tb : TS} {D : Ends} {σ : L2.St} {H : Hp} (Pv : Nat → L2.St → Hp → Prop) (h0 : Pv 0 σ H)
    (hs : ∀ (i c : Nat) (σ : L2.St) (H : Hp), (sl z)[i]? = some c → Pv i σ H → g (.str (sg c)) σ H fun σ2 H2 => tb { D with nx := Pv (i + 1), ct := Pv (i + 1), bk := D.nx } σ2 H2) (hd : ∀ σ H, Pv (sl z).length σ H → D.nx σ H) :
    ∃ W : Nat → Nat → L2.St → Hp → Prop, (∃ m, W 0 m σ H) ∧ ∀ i m σ H, W i m σ H → ((Its z).stop i H ∧ D.nx σ H) ∨ ((Its z).go i H ∧ ∃ N : L2.St → Hp → Prop, (∀ σ' H', N σ' H' → ∃ m', m' < m ∧ W (i + 1) m' σ' H') ∧
      ∀ v H', (Its z).yld i H v H' → g v σ H' fun σ2 H2 => tb { D with nx := N, ct := N, bk := D.nx } σ2 H2) := by
  have hsz : z.cps.size = (sl z).length := by simp
  refine ⟨fun i m σ H => m = (sl z).length - i ∧ i ≤ (sl z).length ∧ Pv i σ H, ⟨(sl z).length, rfl, Nat.zero_le _, h0⟩, ?_⟩
  rintro i m σ H ⟨rfl, hi, p⟩
  by_cases lt : i < (sl z).length
  · refine .inr ⟨by show i < z.cps.size; omega, Pv (i + 1), fun σ' H' q => ⟨(sl z).length - (i + 1), by omega, rfl, lt, q⟩, ?_⟩
    rintro x H' ⟨rfl, c, hc, rfl⟩
    exact hs i c σ _ (by rw [Array.getElem?_toList]; exact hc) p
  · have e : i = (sl z).length := by omega
    subst e
    exact .inl ⟨by show z.cps.size ≤ (sl z).length; omega, hd σ H p⟩
theorem RZat {l : List Nat} {u : Int} (h : u.toNat < l.length) (h0 : 0 ≤ u) : atI l u = some l[u.toNat] := by
  have h2 := atI_nat (xs := l) (j := u.toNat) (List.getElem?_eq_getElem h)
  have e : ((u.toNat : Nat) : Int) = u := by omega
  rw [e] at h2
  exact h2
theorem map_snoc {α β : Type} (f : α → β) (l : List α) (x : α) : (l ++ [x]).map f = l.map f ++ [f x] := by simp
end
end Sx

set_option Elab.async false
set_option linter.all false
set_option maxRecDepth 100000
set_option maxHeartbeats 4000000
namespace Sx
open PySem PySem.Spec PyProof.Rows L2
/-- what stands behind the top -/
structure T (K : PySem.W.Frag) (mg : Str → Option Value) : Prop where
  c : SxK.SaysX fa fn xs K
  g : ∃ h : Heap, K.In h ∧ h.Ns mainGlobals mg
section
variable {K : PySem.W.Frag} {mg : Str → Option Value}
theorem T.g_number_word (t : T K mg) : mg "number_word" = some (.ref (He.ga K "number_word")) := by
  obtain ⟨h, X, G⟩ := t.g
  exact He.glo_ok X G (t.c.d.fact 0 (f := .glo "number_word") rfl)
theorem T.g_copy_of_marks (t : T K mg) : mg "copy_of_marks" = some (.ref (He.ga K "copy_of_marks")) := by
  obtain ⟨h, X, G⟩ := t.g
  exact He.glo_ok X G (t.c.d.fact 1 (f := .glo "copy_of_marks") rfl)
theorem T.g_are_sizes (t : T K mg) : mg "are_sizes" = some (.ref (He.ga K "are_sizes")) := by
  obtain ⟨h, X, G⟩ := t.g
  exact He.glo_ok X G (t.c.d.fact 2 (f := .glo "are_sizes") rfl)
theorem T.g_rows_of_marks (t : T K mg) : mg "rows_of_marks" = some (.ref (He.ga K "rows_of_marks")) := by
  obtain ⟨h, X, G⟩ := t.g
  exact He.glo_ok X G (t.c.d.fact 3 (f := .glo "rows_of_marks") rfl)
theorem T.g_is_mark (t : T K mg) : mg "is_mark" = some (.ref (He.ga K "is_mark")) := by
  obtain ⟨h, X, G⟩ := t.g
  exact He.glo_ok X G (t.c.d.fact 4 (f := .glo "is_mark") rfl)
theorem T.g_are_apart (t : T K mg) : mg "are_apart" = some (.ref (He.ga K "are_apart")) := by
  obtain ⟨h, X, G⟩ := t.g
  exact He.glo_ok X G (t.c.d.fact 5 (f := .glo "are_apart") rfl)
theorem T.g_are_marks (t : T K mg) : mg "are_marks" = some (.ref (He.ga K "are_marks")) := by
  obtain ⟨h, X, G⟩ := t.g
  exact He.glo_ok X G (t.c.d.fact 6 (f := .glo "are_marks") rfl)
theorem T.g_figures (t : T K mg) : mg "figures" = some (.ref (He.ga K "figures")) := by
  obtain ⟨h, X, G⟩ := t.g
  exact He.glo_ok X G (t.c.d.fact 7 (f := .glo "figures") rfl)
theorem T.g_label_row (t : T K mg) : mg "label_row" = some (.ref (He.ga K "label_row")) := by
  obtain ⟨h, X, G⟩ := t.g
  exact He.glo_ok X G (t.c.d.fact 8 (f := .glo "label_row") rfl)
theorem T.g_depth_mark (t : T K mg) : mg "depth_mark" = some (.ref (He.ga K "depth_mark")) := by
  obtain ⟨h, X, G⟩ := t.g
  exact He.glo_ok X G (t.c.d.fact 9 (f := .glo "depth_mark") rfl)
theorem T.g_block_mark (t : T K mg) : mg "block_mark" = some (.ref (He.ga K "block_mark")) := by
  obtain ⟨h, X, G⟩ := t.g
  exact He.glo_ok X G (t.c.d.fact 10 (f := .glo "block_mark") rfl)
theorem T.g_law_draws (t : T K mg) : mg "_law_draws" = some (.ref (He.ga K "_law_draws")) := by
  obtain ⟨h, X, G⟩ := t.g
  exact He.glo_ok X G (t.c.d.fact 11 (f := .glo "_law_draws") rfl)
theorem T.g_law_take (t : T K mg) : mg "_law_take" = some (.ref (He.ga K "_law_take")) := by
  obtain ⟨h, X, G⟩ := t.g
  exact He.glo_ok X G (t.c.d.fact 12 (f := .glo "_law_take") rfl)
theorem T.g_law_same (t : T K mg) : mg "_law_same" = some (.ref (He.ga K "_law_same")) := by
  obtain ⟨h, X, G⟩ := t.g
  exact He.glo_ok X G (t.c.d.fact 13 (f := .glo "_law_same") rfl)
theorem T.g_law_marks (t : T K mg) : mg "_law_marks" = some (.ref (He.ga K "_law_marks")) := by
  obtain ⟨h, X, G⟩ := t.g
  exact He.glo_ok X G (t.c.d.fact 14 (f := .glo "_law_marks") rfl)
theorem T.g_law_made_marks (t : T K mg) : mg "_law_made_marks" = some (.ref (He.ga K "_law_made_marks")) := by
  obtain ⟨h, X, G⟩ := t.g
  exact He.glo_ok X G (t.c.d.fact 15 (f := .glo "_law_made_marks") rfl)
theorem T.g_law_shape (t : T K mg) : mg "_law_shape" = some (.ref (He.ga K "_law_shape")) := by
  obtain ⟨h, X, G⟩ := t.g
  exact He.glo_ok X G (t.c.d.fact 16 (f := .glo "_law_shape") rfl)
theorem T.g_law_made_shape (t : T K mg) : mg "_law_made_shape" = some (.ref (He.ga K "_law_made_shape")) := by
  obtain ⟨h, X, G⟩ := t.g
  exact He.glo_ok X G (t.c.d.fact 17 (f := .glo "_law_made_shape") rfl)
theorem T.g_law_figures (t : T K mg) : mg "_law_figures" = some (.ref (He.ga K "_law_figures")) := by
  obtain ⟨h, X, G⟩ := t.g
  exact He.glo_ok X G (t.c.d.fact 18 (f := .glo "_law_figures") rfl)
theorem T.g_law_begin (t : T K mg) : mg "_law_begin" = some (.ref (He.ga K "_law_begin")) := by
  obtain ⟨h, X, G⟩ := t.g
  exact He.glo_ok X G (t.c.d.fact 19 (f := .glo "_law_begin") rfl)
theorem T.g_law_number_line (t : T K mg) : mg "_law_number_line" = some (.ref (He.ga K "_law_number_line")) := by
  obtain ⟨h, X, G⟩ := t.g
  exact He.glo_ok X G (t.c.d.fact 20 (f := .glo "_law_number_line") rfl)
theorem T.g_law_spoilt (t : T K mg) : mg "_law_spoilt" = some (.ref (He.ga K "_law_spoilt")) := by
  obtain ⟨h, X, G⟩ := t.g
  exact He.glo_ok X G (t.c.d.fact 21 (f := .glo "_law_spoilt") rfl)
theorem T.g_law_refused (t : T K mg) : mg "_law_refused" = some (.ref (He.ga K "_law_refused")) := by
  obtain ⟨h, X, G⟩ := t.g
  exact He.glo_ok X G (t.c.d.fact 22 (f := .glo "_law_refused") rfl)
theorem T.g_law (t : T K mg) : mg "law" = some (.ref (He.ga K "law")) := by
  obtain ⟨h, X, G⟩ := t.g
  exact He.glo_ok X G (t.c.d.fact 23 (f := .glo "law") rfl)
theorem T.f_ValueError (t : T K mg) : mg "ValueError" = none := by
  obtain ⟨h, X, G⟩ := t.g
  exact He.free_ok X G (t.c.d.fact 24 (f := .free "ValueError") rfl)
theorem T.f_abs (t : T K mg) : mg "abs" = none := by
  obtain ⟨h, X, G⟩ := t.g
  exact He.free_ok X G (t.c.d.fact 25 (f := .free "abs") rfl)
theorem T.f_all (t : T K mg) : mg "all" = none := by
  obtain ⟨h, X, G⟩ := t.g
  exact He.free_ok X G (t.c.d.fact 26 (f := .free "all") rfl)
theorem T.f_any (t : T K mg) : mg "any" = none := by
  obtain ⟨h, X, G⟩ := t.g
  exact He.free_ok X G (t.c.d.fact 27 (f := .free "any") rfl)
theorem T.f_bool (t : T K mg) : mg "bool" = none := by
  obtain ⟨h, X, G⟩ := t.g
  exact He.free_ok X G (t.c.d.fact 28 (f := .free "bool") rfl)
theorem T.f_divmod (t : T K mg) : mg "divmod" = none := by
  obtain ⟨h, X, G⟩ := t.g
  exact He.free_ok X G (t.c.d.fact 29 (f := .free "divmod") rfl)
theorem T.f_enumerate (t : T K mg) : mg "enumerate" = none := by
  obtain ⟨h, X, G⟩ := t.g
  exact He.free_ok X G (t.c.d.fact 30 (f := .free "enumerate") rfl)
theorem T.f_int (t : T K mg) : mg "int" = none := by
  obtain ⟨h, X, G⟩ := t.g
  exact He.free_ok X G (t.c.d.fact 31 (f := .free "int") rfl)
theorem T.f_isinstance (t : T K mg) : mg "isinstance" = none := by
  obtain ⟨h, X, G⟩ := t.g
  exact He.free_ok X G (t.c.d.fact 32 (f := .free "isinstance") rfl)
theorem T.f_len (t : T K mg) : mg "len" = none := by
  obtain ⟨h, X, G⟩ := t.g
  exact He.free_ok X G (t.c.d.fact 33 (f := .free "len") rfl)
theorem T.f_list (t : T K mg) : mg "list" = none := by
  obtain ⟨h, X, G⟩ := t.g
  exact He.free_ok X G (t.c.d.fact 34 (f := .free "list") rfl)
theorem T.f_max (t : T K mg) : mg "max" = none := by
  obtain ⟨h, X, G⟩ := t.g
  exact He.free_ok X G (t.c.d.fact 35 (f := .free "max") rfl)
theorem T.f_min (t : T K mg) : mg "min" = none := by
  obtain ⟨h, X, G⟩ := t.g
  exact He.free_ok X G (t.c.d.fact 36 (f := .free "min") rfl)
theorem T.f_range (t : T K mg) : mg "range" = none := by
  obtain ⟨h, X, G⟩ := t.g
  exact He.free_ok X G (t.c.d.fact 37 (f := .free "range") rfl)
theorem T.f_reversed (t : T K mg) : mg "reversed" = none := by
  obtain ⟨h, X, G⟩ := t.g
  exact He.free_ok X G (t.c.d.fact 38 (f := .free "reversed") rfl)
theorem T.f_str (t : T K mg) : mg "str" = none := by
  obtain ⟨h, X, G⟩ := t.g
  exact He.free_ok X G (t.c.d.fact 39 (f := .free "str") rfl)
theorem T.f_tuple (t : T K mg) : mg "tuple" = none := by
  obtain ⟨h, X, G⟩ := t.g
  exact He.free_ok X G (t.c.d.fact 40 (f := .free "tuple") rfl)
theorem T.i_MOST_CELL (t : T K mg) : ∃ k, mg "MOST_CELL" = some (.int 63 k) := by
  obtain ⟨h, X, G⟩ := t.g
  exact He.int_ok X G (t.c.d.fact 41 (f := .int "MOST_CELL" 63) rfl)
theorem T.i_PART_DIGITS (t : T K mg) : ∃ k, mg "PART_DIGITS" = some (.int 64 k) := by
  obtain ⟨h, X, G⟩ := t.g
  exact He.int_ok X G (t.c.d.fact 42 (f := .int "PART_DIGITS" 64) rfl)
theorem T.i_PART (t : T K mg) : ∃ k, mg "PART" = some (.int 10000000000000000000000000000000000000000000000000000000000000000 k) := by
  obtain ⟨h, X, G⟩ := t.g
  exact He.int_ok X G (t.c.d.fact 43 (f := .int "PART" 10000000000000000000000000000000000000000000000000000000000000000) rfl)
theorem T.i_LEAST_WIDTH (t : T K mg) : ∃ k, mg "LEAST_WIDTH" = some (.int 8 k) := by
  obtain ⟨h, X, G⟩ := t.g
  exact He.int_ok X G (t.c.d.fact 44 (f := .int "LEAST_WIDTH" 8) rfl)
theorem T.i_MOST_WIDTH (t : T K mg) : ∃ k, mg "MOST_WIDTH" = some (.int 40 k) := by
  obtain ⟨h, X, G⟩ := t.g
  exact He.int_ok X G (t.c.d.fact 45 (f := .int "MOST_WIDTH" 40) rfl)
theorem T.i_LEAST_HEIGHT (t : T K mg) : ∃ k, mg "LEAST_HEIGHT" = some (.int 3 k) := by
  obtain ⟨h, X, G⟩ := t.g
  exact He.int_ok X G (t.c.d.fact 46 (f := .int "LEAST_HEIGHT" 3) rfl)
theorem T.i_MOST_HEIGHT (t : T K mg) : ∃ k, mg "MOST_HEIGHT" = some (.int 30 k) := by
  obtain ⟨h, X, G⟩ := t.g
  exact He.int_ok X G (t.c.d.fact 47 (f := .int "MOST_HEIGHT" 30) rfl)
theorem T.i_MOST_SIZE (t : T K mg) : ∃ k, mg "MOST_SIZE" = some (.int 50 k) := by
  obtain ⟨h, X, G⟩ := t.g
  exact He.int_ok X G (t.c.d.fact 48 (f := .int "MOST_SIZE" 50) rfl)
theorem T.i_MOST_MARK_CELLS (t : T K mg) : ∃ k, mg "MOST_MARK_CELLS" = some (.int 2 k) := by
  obtain ⟨h, X, G⟩ := t.g
  exact He.int_ok X G (t.c.d.fact 49 (f := .int "MOST_MARK_CELLS" 2) rfl)
theorem T.i_LABEL_CELL (t : T K mg) : ∃ k, mg "LABEL_CELL" = some (.int 11 k) := by
  obtain ⟨h, X, G⟩ := t.g
  exact He.int_ok X G (t.c.d.fact 50 (f := .int "LABEL_CELL" 11) rfl)
theorem T.g_MOST_NUMBERS (t : T K mg) : mg "MOST_NUMBERS" = some (.ref (He.ga K "MOST_NUMBERS")) := by
  obtain ⟨h, X, G⟩ := t.g
  exact He.glo_ok X G (t.c.d.fact 51 (f := .glo "MOST_NUMBERS") rfl)
theorem T.g_SixdotError (t : T K mg) : mg "SixdotError" = some (.ref (He.ga K "SixdotError")) := by
  obtain ⟨h, X, G⟩ := t.g
  exact He.glo_ok X G (t.c.d.fact 52 (f := .glo "SixdotError") rfl)
theorem T.g_InvalidShape (t : T K mg) : mg "InvalidShape" = some (.ref (He.ga K "InvalidShape")) := by
  obtain ⟨h, X, G⟩ := t.g
  exact He.glo_ok X G (t.c.d.fact 53 (f := .glo "InvalidShape") rfl)
theorem T.g_Marks (t : T K mg) : mg "Marks" = some (.ref (He.ga K "Marks")) := by
  obtain ⟨h, X, G⟩ := t.g
  exact He.glo_ok X G (t.c.d.fact 54 (f := .glo "Marks") rfl)
theorem T.c_Marks (t : T K mg) : Cls K (He.ga K "Marks") := He.cls_ok (t.c.d.fact 55 (f := .cls "Marks") rfl)
theorem T.m_Marks (t : T K mg) : Mk K (He.ga K "Marks") (He.ma K (He.ga K "Marks") "__init__") := He.mkr_ok (t.c.d.fact 56 (f := .mkr "Marks") rfl)
theorem T.n_Marks_head (t : T K mg) : NoAttr K (He.ga K "Marks") "head" := He.noat_ok (t.c.d.fact 57 (f := .noat "Marks" "head") rfl)
theorem T.n_Marks_par (t : T K mg) : NoAttr K (He.ga K "Marks") "par" := He.noat_ok (t.c.d.fact 58 (f := .noat "Marks" "par") rfl)
theorem T.n_Marks_depths (t : T K mg) : NoAttr K (He.ga K "Marks") "depths" := He.noat_ok (t.c.d.fact 59 (f := .noat "Marks" "depths") rfl)
theorem T.n_Marks_note (t : T K mg) : NoAttr K (He.ga K "Marks") "note" := He.noat_ok (t.c.d.fact 60 (f := .noat "Marks" "note") rfl)
theorem T.n_Marks_stop (t : T K mg) : NoAttr K (He.ga K "Marks") "stop" := He.noat_ok (t.c.d.fact 61 (f := .noat "Marks" "stop") rfl)
theorem T.n_Marks_on (t : T K mg) : NoAttr K (He.ga K "Marks") "on" := He.noat_ok (t.c.d.fact 62 (f := .noat "Marks" "on") rfl)
theorem T.n_Marks_joined (t : T K mg) : NoAttr K (He.ga K "Marks") "joined" := He.noat_ok (t.c.d.fact 63 (f := .noat "Marks" "joined") rfl)
theorem T.n_Marks_number (t : T K mg) : NoAttr K (He.ga K "Marks") "number" := He.noat_ok (t.c.d.fact 64 (f := .noat "Marks" "number") rfl)
theorem T.g_Shape (t : T K mg) : mg "Shape" = some (.ref (He.ga K "Shape")) := by
  obtain ⟨h, X, G⟩ := t.g
  exact He.glo_ok X G (t.c.d.fact 65 (f := .glo "Shape") rfl)
theorem T.c_Shape (t : T K mg) : Cls K (He.ga K "Shape") := He.cls_ok (t.c.d.fact 66 (f := .cls "Shape") rfl)
theorem T.m_Shape (t : T K mg) : Mk K (He.ga K "Shape") (He.ma K (He.ga K "Shape") "__init__") := He.mkr_ok (t.c.d.fact 67 (f := .mkr "Shape") rfl)
theorem T.n_Shape_width (t : T K mg) : NoAttr K (He.ga K "Shape") "width" := He.noat_ok (t.c.d.fact 68 (f := .noat "Shape" "width") rfl)
theorem T.n_Shape_height (t : T K mg) : NoAttr K (He.ga K "Shape") "height" := He.noat_ok (t.c.d.fact 69 (f := .noat "Shape" "height") rfl)
theorem T.n_Shape_size (t : T K mg) : NoAttr K (He.ga K "Shape") "size" := He.noat_ok (t.c.d.fact 70 (f := .noat "Shape" "size") rfl)
theorem T.n_Shape_marks (t : T K mg) : NoAttr K (He.ga K "Shape") "marks" := He.noat_ok (t.c.d.fact 71 (f := .noat "Shape" "marks") rfl)
theorem T.d_Marks_init (t : T K mg) : ∃ fd, FunD K "__init__" "Marks.__init__" (defArgs sMarksInit) (defBody sMarksInit) (defScope sMarksInit) [] [] (He.ma K (He.ga K "Marks") "__init__") fd := t.c.d.def_ 0 (d := dMarksInit) rfl
theorem T.d_Shape_init (t : T K mg) : ∃ fd, FunD K "__init__" "Shape.__init__" (defArgs sShapeInit) (defBody sShapeInit) (defScope sShapeInit) [] [] (He.ma K (He.ga K "Shape") "__init__") fd := t.c.d.def_ 1 (d := dShapeInit) rfl
theorem T.d_number_word (t : T K mg) : Fd K "number_word" sNumberWord := t.c.d.def_ 2 (d := dNumberWord) rfl
theorem T.d_copy_of_marks (t : T K mg) : Fd K "copy_of_marks" sCopyOfMarks := t.c.d.def_ 3 (d := dCopyOfMarks) rfl
theorem T.d_are_sizes (t : T K mg) : Fd K "are_sizes" sAreSizes := t.c.d.def_ 4 (d := dAreSizes) rfl
theorem T.d_rows_of_marks (t : T K mg) : Fd K "rows_of_marks" sRowsOfMarks := t.c.d.def_ 5 (d := dRowsOfMarks) rfl
theorem T.d_is_mark (t : T K mg) : Fd K "is_mark" sIsMark := t.c.d.def_ 6 (d := dIsMark) rfl
theorem T.d_are_apart (t : T K mg) : Fd K "are_apart" sAreApart := t.c.d.def_ 7 (d := dAreApart) rfl
theorem T.d_are_marks (t : T K mg) : Fd K "are_marks" sAreMarks := t.c.d.def_ 8 (d := dAreMarks) rfl
theorem T.d_figures (t : T K mg) : Fd K "figures" sFigures := t.c.d.def_ 9 (d := dFigures) rfl
theorem T.d_label_row (t : T K mg) : Fd K "label_row" sLabelRow := t.c.d.def_ 10 (d := dLabelRow) rfl
theorem T.d_depth_mark (t : T K mg) : Fd K "depth_mark" sDepthMark := t.c.d.def_ 11 (d := dDepthMark) rfl
theorem T.d_block_mark (t : T K mg) : Fd K "block_mark" sBlockMark := t.c.d.def_ 12 (d := dBlockMark) rfl
theorem T.d_law_draws (t : T K mg) : Fd K "_law_draws" sLawDraws := t.c.d.def_ 13 (d := dLawDraws) rfl
theorem T.d_law_take (t : T K mg) : Fd K "_law_take" sLawTake := t.c.d.def_ 14 (d := dLawTake) rfl
theorem T.d_law_same (t : T K mg) : Fd K "_law_same" sLawSame := t.c.d.def_ 15 (d := dLawSame) rfl
theorem T.d_law_marks (t : T K mg) : Fd K "_law_marks" sLawMarks := t.c.d.def_ 16 (d := dLawMarks) rfl
theorem T.d_law_made_marks (t : T K mg) : Fd K "_law_made_marks" sLawMadeMarks := t.c.d.def_ 17 (d := dLawMadeMarks) rfl
theorem T.d_law_shape (t : T K mg) : Fd K "_law_shape" sLawShape := t.c.d.def_ 18 (d := dLawShape) rfl
theorem T.d_law_made_shape (t : T K mg) : Fd K "_law_made_shape" sLawMadeShape := t.c.d.def_ 19 (d := dLawMadeShape) rfl
theorem T.d_law_figures (t : T K mg) : Fd K "_law_figures" sLawFigures := t.c.d.def_ 20 (d := dLawFigures) rfl
theorem T.d_law_begin (t : T K mg) : Fd K "_law_begin" sLawBegin := t.c.d.def_ 21 (d := dLawBegin) rfl
theorem T.d_law_number_line (t : T K mg) : Fd K "_law_number_line" sLawNumberLine := t.c.d.def_ 22 (d := dLawNumberLine) rfl
theorem T.d_law_spoilt (t : T K mg) : Fd K "_law_spoilt" sLawSpoilt := t.c.d.def_ 23 (d := dLawSpoilt) rfl
theorem T.d_law_refused (t : T K mg) : Fd K "_law_refused" sLawRefused := t.c.d.def_ 24 (d := dLawRefused) rfl
theorem T.d_law (t : T K mg) : Fd K "law" sLaw := t.c.d.def_ 25 (d := dLaw) rfl
theorem T.y_InvalidShape {w : World} (c : SxK.SaysXU fa fn xs ts us ys w K) {h : Heap} (X : K.In h) (G : h.Ns mainGlobals mg) : SxK.PexC K mg "InvalidShape" := c.pex 0 rfl X G
end
end Sx

set_option Elab.async false
set_option linter.all false
set_option maxRecDepth 100000
set_option maxHeartbeats 1000000
namespace Sx
open PySem PySem.Spec PyProof.Rows L2 SxA
/-! ### classes: methods that do not raise, and what is made -/
section
variable {P : Program} {w : World} {K : PySem.W.Frag} {mg : Str → Option Value} {base : Heap}
def Met (P : Program) (w : World) (K : PySem.W.Frag) (mg : Str → Option Value) (base : Heap) (k : Nat) (C m : Str) (ps : List Str) (sp : Sp) : Prop :=
  ∃ fd, FnOk P w K mg base CX0 k (He.ma K (He.ga K C) m) fd ps sp ∧ Binds K fd ps []
theorem mkMet {C m qual : Str} {st : Stmt} {N ps : List Str} {k : Nat} {sp : Sp} (d : ∃ fd, FunD K m qual (defArgs st) (defBody st) (defScope st) [] [] (He.ma K (He.ga K C) m) fd) (S : FnScope N ps (defScope st)) (len : ∀ vs H Q E, sp vs H Q E → vs.length = ps.length)
    (bnd : ∀ (kV doc pm : Value) (an : Option Addr) (cdv ct : Value) (us : List Value), us.length = ps.length → bindArgs (PySem.W.fnOf m qual (defArgs st) (defBody st) (defScope st) .none kV doc pm an cdv ct) ⟨us, []⟩ = pure (ps.zip us))
    (body : ∀ (cdv : Value) (A : Around) (outer : List Env) (s : Shared) (H0 : Hp) (vs : List V) (Q : VK) (E : XK), Room k (A.deeper (envOfC qual (defScope st) s.heap.objs.size (He.ma K (He.ga K C) m) cdv)) → sp vs H0 Q E →
      ∃ t, PSs (cxOf CX0 P w K mg base N qual (defScope st) (He.ma K (He.ga K C) m) cdv A outer s H0 E).nox (defBody st) t ∧ t { nx := fun _ H' => Q .non H', rt := Q } (start N vs) H0) : Met P w K mg base (k + 1) C m ps sp := by
  obtain ⟨fd, F⟩ := d
  refine ⟨fd, F.ok S len fun cdv A outer s H vs Q E hr h => ?_, F.bindsN bnd⟩
  obtain ⟨t, h1, h2⟩ := body cdv A outer s H vs Q E hr h
  exact ⟨t, h1.nox, h2⟩
theorem pe_met {X : Cx} {k : Nat} {C m : Str} {ps : List Str} {sp : Sp} {apos pos : Pos} {o e : Expr} {es : List Expr} {ta : TE} {t : TA} {pl : Sem Bool} (M : Met X.prog X.w X.K X.mg X.base k C m ps sp) (c : Cls X.K (He.ga X.K C)) (hm : Meth X.K (He.ga X.K C) m (He.ma X.K (He.ga X.K C) m))
    (hr : Room k X.A) (he : PE X o ta) (ha : PA X (e :: es) t)
    (hst : starEach (e :: es) X.env = (false, eval e X.env) :: starEach es X.env := by rfl) (hpl : (backTo pos (starEach es X.env)).any (·.1) = false := by rfl)
    (ht : eval (.Call (.Attribute o m apos) (e :: es) [] pos) X.env = (do
      let ov ← eval o X.env
      standAt apos.atName
      let (f, first) ← holding [ov] (getMethod ov m pl)
      callWith pos f first (backTo pos (starEach (e :: es) X.env)) (backToKw pos (keywordEach [] X.env))) := by rfl) :
    PE X (.Call (.Attribute o m apos) (e :: es) [] pos) (tMeth (He.ga X.K C) m sp [] E0 ta t) := by
  obtain ⟨fd, F, b⟩ := M
  exact pe_meth he c hm F hr b .nil pass0 ha hst hpl ht
theorem pe_met0 {X : Cx} {k : Nat} {C m : Str} {ps : List Str} {sp : Sp} {apos pos : Pos} {o : Expr} {ta : TE} {pl : Sem Bool} (M : Met X.prog X.w X.K X.mg X.base k C m ps sp) (c : Cls X.K (He.ga X.K C)) (hm : Meth X.K (He.ga X.K C) m (He.ma X.K (He.ga X.K C) m))
    (hr : Room k X.A) (he : PE X o ta)
    (ht : eval (.Call (.Attribute o m apos) [] [] pos) X.env = (do
      let ov ← eval o X.env
      standAt apos.atName
      let (f, first) ← holding [ov] (getMethod ov m pl)
      callWith pos f first (backTo pos (starEach [] X.env)) (backToKw pos (keywordEach [] X.env))) := by rfl) :
    PE X (.Call (.Attribute o m apos) [] [] pos) (tMeth (He.ga X.K C) m sp [] E0 ta tNil) := by
  obtain ⟨fd, F, b⟩ := M
  exact pe_meth0 he c hm F hr b .nil pass0 ht
theorem pe_metK {X : Cx} {K : PySem.W.Frag} {k : Nat} {C m : Str} {ps : List Str} {sp : Sp} {apos pos : Pos} {o e : Expr} {es : List Expr} {ta : TE} {t : TA} {pl : Sem Bool} (h : X.K = K) (M : Met X.prog X.w K X.mg X.base k C m ps sp) (c : Cls K (He.ga K C)) (hm : Meth K (He.ga K C) m (He.ma K (He.ga K C) m))
    (hr : Room k X.A) (he : PE X o ta) (ha : PA X (e :: es) t)
    (hst : starEach (e :: es) X.env = (false, eval e X.env) :: starEach es X.env := by rfl) (hpl : (backTo pos (starEach es X.env)).any (·.1) = false := by rfl)
    (ht : eval (.Call (.Attribute o m apos) (e :: es) [] pos) X.env = (do
      let ov ← eval o X.env
      standAt apos.atName
      let (f, first) ← holding [ov] (getMethod ov m pl)
      callWith pos f first (backTo pos (starEach (e :: es) X.env)) (backToKw pos (keywordEach [] X.env))) := by rfl) :
    PE X (.Call (.Attribute o m apos) (e :: es) [] pos) (tMeth (He.ga K C) m sp [] E0 ta t) := by
  subst h
  exact pe_met M c hm hr he ha hst hpl ht
theorem pe_met0K {X : Cx} {K : PySem.W.Frag} {k : Nat} {C m : Str} {ps : List Str} {sp : Sp} {apos pos : Pos} {o : Expr} {ta : TE} {pl : Sem Bool} (h : X.K = K) (M : Met X.prog X.w K X.mg X.base k C m ps sp) (c : Cls K (He.ga K C)) (hm : Meth K (He.ga K C) m (He.ma K (He.ga K C) m))
    (hr : Room k X.A) (he : PE X o ta)
    (ht : eval (.Call (.Attribute o m apos) [] [] pos) X.env = (do
      let ov ← eval o X.env
      standAt apos.atName
      let (f, first) ← holding [ov] (getMethod ov m pl)
      callWith pos f first (backTo pos (starEach [] X.env)) (backToKw pos (keywordEach [] X.env))) := by rfl) :
    PE X (.Call (.Attribute o m apos) [] [] pos) (tMeth (He.ga K C) m sp [] E0 ta tNil) := by
  subst h
  exact pe_met0 M c hm hr he ht
theorem pe_mk {X : Cx} {k : Nat} {C : Str} {ps : List Str} {sp : Sp} {p pos : Pos} {e : Expr} {es : List Expr} {t : TA} (M : Met X.prog X.w X.K X.mg X.base k C "__init__" ps sp) (m : Mk X.K (He.ga X.K C) (He.ma X.K (He.ga X.K C) "__init__")) (hm : X.mg C = some (.ref (He.ga X.K C)))
    (hr : Room (k + 1) X.A) (hg : Gl X C) (ha : PA X (e :: es) t)
    (hdb : (C == ("__debug__" : Str)) = false := by decide) (he : starEach (e :: es) X.env = (false, eval e X.env) :: starEach es X.env := by rfl) (hpl : (backTo pos (starEach es X.env)).any (·.1) = false := by rfl) :
    PE X (.Call (.Name C p) (e :: es) [] pos) (tMake (He.ga X.K C) sp [] E0 t) := by
  obtain ⟨fd, F, b⟩ := M
  exact pe_make m F hr hg hm b .nil pass0 ha hdb he hpl
end
end Sx

set_option Elab.async false
set_option linter.all false
set_option maxRecDepth 100000
set_option maxHeartbeats 2000000
namespace Sx
open PySem PySem.Spec PyProof.Rows L2 SxA SxK
/-! ### defs and methods that may raise -/
def OkX (P : Program) (w : World) (K : PySem.W.Frag) (mg : Str → Option Value) (base : Heap) (k : Nat) (x : Str) (ps : List Str) (sp : Sp) : Prop :=
  ∃ fd, FnOk P w K mg base (L2.CX P w) k (He.ga K x) fd ps sp ∧ Binds K fd ps [] ∧ PySem.W.keepIn K (.ref (He.ga K x)) = true ∧ mg x = some (.ref (He.ga K x))
def MetX (P : Program) (w : World) (K : PySem.W.Frag) (mg : Str → Option Value) (base : Heap) (k : Nat) (C m : Str) (ps : List Str) (sp : Sp) : Prop :=
  ∃ fd, FnOk P w K mg base (L2.CX P w) k (He.ma K (He.ga K C) m) fd ps sp ∧ Binds K fd ps []
section
variable {P : Program} {w : World} {K : PySem.W.Frag} {mg : Str → Option Value} {base : Heap}
theorem mkOkX {x : Str} {st : Stmt} {N ps : List Str} {k : Nat} {sp : Sp} (d : Fd K x st) (hx : mg x = some (.ref (He.ga K x))) (S : FnScope N ps (defScope st)) (len : ∀ vs H Q E, sp vs H Q E → vs.length = ps.length)
    (bnd : ∀ (kV doc pm : Value) (an : Option Addr) (cdv ct : Value) (us : List Value), us.length = ps.length → bindArgs (PySem.W.fnOf x x (defArgs st) (defBody st) (defScope st) .none kV doc pm an cdv ct) ⟨us, []⟩ = pure (ps.zip us))
    (body : ∀ (cdv : Value) (A : Around) (outer : List Env) (s : Shared) (H0 : Hp) (vs : List V) (Q : VK) (E : XK), Room k (A.deeper (envOfC x (defScope st) s.heap.objs.size (He.ga K x) cdv)) → sp vs H0 Q E →
      ∃ t, PSs (cxOf (L2.CX P w) P w K mg base N x (defScope st) (He.ga K x) cdv A outer s H0 E) (defBody st) t ∧ t { nx := fun _ H' => Q .non H', rt := Q } (start N vs) H0) : OkX P w K mg base (k + 1) x ps sp := by
  obtain ⟨fd, F⟩ := d
  exact ⟨fd, F.ok S len body, F.bindsN bnd, F.kp, hx⟩
theorem pe_okX {X : Cx} {W : WX} {k : Nat} {x : Str} {ps : List Str} {sp : Sp} {p pos : Pos} {e : Expr} {es : List Expr} {t : TA} (o : OkX X.prog X.w X.K X.mg X.base k x ps sp) (hr : Room k X.A) (hg : Gl X x) (tk : Takes X W) (ha : PA X (e :: es) t)
    (hdb : (x == ("__debug__" : Str)) = false := by decide) (hs : starEach (e :: es) X.env = (false, eval e X.env) :: starEach es X.env := by rfl) (hpl : ((backTo pos (starEach es X.env)).any (·.1)) = false := by rfl) :
    PE X (.Call (.Name x p) (e :: es) [] pos) (tCallS sp (WE W) t) := by
  obtain ⟨fd, F, b, kp, hm⟩ := o
  exact pe_callS F hr hg hm kp b (fun σ => passAt tk σ) ha hdb hs hpl
theorem mkMetX {C m qual : Str} {st : Stmt} {N ps : List Str} {k : Nat} {sp : Sp} (d : ∃ fd, FunD K m qual (defArgs st) (defBody st) (defScope st) [] [] (He.ma K (He.ga K C) m) fd) (S : FnScope N ps (defScope st)) (len : ∀ vs H Q E, sp vs H Q E → vs.length = ps.length)
    (bnd : ∀ (kV doc pm : Value) (an : Option Addr) (cdv ct : Value) (us : List Value), us.length = ps.length → bindArgs (PySem.W.fnOf m qual (defArgs st) (defBody st) (defScope st) .none kV doc pm an cdv ct) ⟨us, []⟩ = pure (ps.zip us))
    (body : ∀ (cdv : Value) (A : Around) (outer : List Env) (s : Shared) (H0 : Hp) (vs : List V) (Q : VK) (E : XK), Room k (A.deeper (envOfC qual (defScope st) s.heap.objs.size (He.ma K (He.ga K C) m) cdv)) → sp vs H0 Q E →
      ∃ t, PSs (cxOf (L2.CX P w) P w K mg base N qual (defScope st) (He.ma K (He.ga K C) m) cdv A outer s H0 E) (defBody st) t ∧ t { nx := fun _ H' => Q .non H', rt := Q } (start N vs) H0) : MetX P w K mg base (k + 1) C m ps sp := by
  obtain ⟨fd, F⟩ := d
  exact ⟨fd, F.ok S len body, F.bindsN bnd⟩
theorem pe_metX {X : Cx} {E : XK} {k : Nat} {C m : Str} {ps : List Str} {sp : Sp} {apos pos : Pos} {o e : Expr} {es : List Expr} {ta : TE} {t : TA} {pl : Sem Bool} (M : MetX X.prog X.w X.K X.mg X.base k C m ps sp) (c : Cls X.K (He.ga X.K C)) (hm : Meth X.K (He.ga X.K C) m (He.ma X.K (He.ga X.K C) m))
    (hr : Room k X.A) (hx : Passes (L2.CX X.prog X.w) X E) (he : PE X o ta) (ha : PA X (e :: es) t)
    (hst : starEach (e :: es) X.env = (false, eval e X.env) :: starEach es X.env := by rfl) (hpl : (backTo pos (starEach es X.env)).any (·.1) = false := by rfl)
    (ht : eval (.Call (.Attribute o m apos) (e :: es) [] pos) X.env = (do
      let ov ← eval o X.env
      standAt apos.atName
      let (f, first) ← holding [ov] (getMethod ov m pl)
      callWith pos f first (backTo pos (starEach (e :: es) X.env)) (backToKw pos (keywordEach [] X.env))) := by rfl) :
    PE X (.Call (.Attribute o m apos) (e :: es) [] pos) (tMeth (He.ga X.K C) m sp [] E ta t) := by
  obtain ⟨fd, F, b⟩ := M
  exact pe_meth he c hm F hr b .nil hx ha hst hpl ht
theorem pe_metX0 {X : Cx} {E : XK} {k : Nat} {C m : Str} {ps : List Str} {sp : Sp} {apos pos : Pos} {o : Expr} {ta : TE} {pl : Sem Bool} (M : MetX X.prog X.w X.K X.mg X.base k C m ps sp) (c : Cls X.K (He.ga X.K C)) (hm : Meth X.K (He.ga X.K C) m (He.ma X.K (He.ga X.K C) m))
    (hr : Room k X.A) (hx : Passes (L2.CX X.prog X.w) X E) (he : PE X o ta)
    (ht : eval (.Call (.Attribute o m apos) [] [] pos) X.env = (do
      let ov ← eval o X.env
      standAt apos.atName
      let (f, first) ← holding [ov] (getMethod ov m pl)
      callWith pos f first (backTo pos (starEach [] X.env)) (backToKw pos (keywordEach [] X.env))) := by rfl) :
    PE X (.Call (.Attribute o m apos) [] [] pos) (tMeth (He.ga X.K C) m sp [] E ta tNil) := by
  obtain ⟨fd, F, b⟩ := M
  exact pe_meth0 he c hm F hr b .nil hx ht
/-! ### an exception with one int, told by an f-string -/
def spXInt (K : PySem.W.Frag) (C f : Str) : Sp := fun vs H Q _ => ∃ (a : Addr) (l : Int), vs = [.ref a, .int l] ∧ H a = some (exo a (He.ga K C) none) ∧ (0 ≤ l ∧ l < 10 ^ 10) ∧
  ∀ H1 d, Same H H1 → H1 d = none → d ≠ a → Q .non (upd (upd H1 a (exo a (He.ga K C) (some d))) d (exd d [(f, .int l)]))
theorem lg10 {l : Int} (h0 : 0 ≤ l) (h : l < 10 ^ 10) : l.natAbs.log2 < 1920 := by
  by_cases n : l.natAbs = 0
  · rw [n]; decide
  · exact (Nat.log2_lt n).mpr (Nat.lt_of_lt_of_le (show l.natAbs < 10 ^ 10 by omega) (by decide))
/-- what such an error lets be known -/
def ErI (K : PySem.W.Frag) (C f : Str) (E : XK) (H : Hp) (l : Int) : Prop := ∀ d H', Same H H' → H' d = some (.xd [(f, .int l)]) → E (.ref (He.ga K C)) (some d) H'
theorem ErI.same {C f : Str} {E : XK} {H H2 : Hp} {l : Int} (e : ErI K C f E H l) (s : Same H H2) : ErI K C f E H2 l := fun d H' s2 h => e d H' (s.trans s2) h
theorem mk_errI {C f : Str} {H : Hp} {l : Int} {Q : XK} (hl : 0 ≤ l ∧ l < 10 ^ 10) (q : ErI K C f Q H l) :
    [V.int l].length ≤ 1000 ∧ ∀ a, H a = none → spXInt K C f (.ref a :: ([V.int l] ++ [])) (upd H a (exo a (He.ga K C) none))
      (fun v H2 => v = .non ∧ ∃ (d : Addr) (fs : List (Str × V)), H2 a = some (exo a (He.ga K C) (some d)) ∧ H2 d = some (exd d fs) ∧ H d = none ∧ Q (.ref (He.ga K C)) (some d) (upd (del H2 a) d (.xd fs))) (fun _ _ _ => False) := by
  refine ⟨(by show 1 ≤ 1000; decide), fun a ha => ⟨a, l, rfl, upd_same, hl, fun H1 d s1 hd ne => ?_⟩⟩
  have hd0 : H d = none := by
    have e := s1.free hd
    rw [upd_ne ne] at e
    exact e
  refine ⟨rfl, d, [(f, .int l)], by rw [upd_ne ne.symm]; exact upd_same, upd_same, hd0, ?_⟩
  refine q d _ (fun b o hb => ?_) upd_same
  have b1 : b ≠ d := ne_of_none hb hd0
  have b2 : b ≠ a := ne_of_none hb ha
  rw [upd_ne b1, del_ne b2, upd_ne b1, upd_ne b2]
  exact s1 b o (by rw [upd_ne b2]; exact hb)
end
end Sx

set_option Elab.async false
set_option linter.all false
set_option maxRecDepth 100000
set_option maxHeartbeats 1000000
namespace Sx
open PySem PySem.Spec PyProof.Rows L2 SxA HT
/-! ### tuples of ints -/
abbrev ti (ns : List Int) : HO := .tup (ns.map V.int)
section
variable {K : PySem.W.Frag} {H : Hp} {Q : VK}
def pTupI (cs : List Int) : PyData := .tuple (cs.map PyData.int)
theorem eqv_tupI (xs ys : List Int) : PyData.eqv (pTupI xs) (pTupI ys) = decide (xs = ys) := by
  unfold pTupI
  rw [PyData.eqv]
  exact eqvAll_ints xs ys
theorem shaped_tupI (xs : List Int) : SeqAt.shaped (pTupI xs) = true := by
  unfold SeqAt.shaped pTupI
  rw [PyData.canLay0, lay_ints, PyData.depth]
  have := dep_ints xs
  simp
  omega
theorem eqTT {p q : Addr} {xs ys : List Int} (h1 : H p = some (ti xs)) (h2 : H q = some (ti ys)) (k : Q (.bl (decide (xs = ys))) H) : rEqD K (.ref p) (.ref q) H Q := by
  refine ⟨pTupI xs, pTupI ys, .tup (SqT.of h1) (dpAll_ints K H xs), .tup (SqT.of h2) (dpAll_ints K H ys), shaped_tupI _, shaped_tupI _, ?_⟩
  rw [eqv_tupI]
  exact k
theorem eqL {p q : Addr} {xs ys : List Int} (h1 : H p = some (.lst (xs.map V.int))) (h2 : H q = some (.lst (ys.map V.int))) (k : Q (.bl (decide (xs = ys))) H) : rEqD K (.ref p) (.ref q) H Q := by
  refine ⟨pInts xs, pInts ys, dp_ints (SqL.of h1), dp_ints (SqL.of h2), shaped_ints _, shaped_ints _, ?_⟩
  rw [eqv_ints]
  exact k
theorem slT_to {a : Addr} {xs : List V} {m : Nat} (h : H a = some (.tup xs)) (k : ∀ p H', Same H H' → H' p = some (.tup (xs.take m)) → Q (.ref p) H') : rSlA K (.ref a) none (some (m : Int)) H Q := by
  refine ⟨a, xs, rfl, SqT.of h, fun w => k a H (Same.refl H) ?_, fun _ p hp => k p _ (Same.new hp) ?_⟩
  · rw [sIx_nat] at w
    rw [h, List.take_of_length_le (by omega)]
  · rw [upd_same]
    show some (HO.tup ((xs.drop (HT.sIx xs.length 0 none)).take (HT.sIx xs.length xs.length (some (m : Int)) - HT.sIx xs.length 0 none))) = _
    rw [sIx_nat, sIx_none, List.drop_zero, Nat.sub_zero, ← List.take_eq_take_min]
theorem slT_from {a : Addr} {xs : List V} {m : Nat} (h : H a = some (.tup xs)) (k : ∀ p H', Same H H' → H' p = some (.tup (xs.drop m)) → Q (.ref p) H') : rSlA K (.ref a) (some (m : Int)) none H Q := by
  refine ⟨a, xs, rfl, SqT.of h, fun w => k a H (Same.refl H) ?_, fun _ p hp => k p _ (Same.new hp) ?_⟩
  · rw [sIx_nat] at w
    have : m = 0 ∨ xs = [] := by
      cases xs with
      | nil => exact .inr rfl
      | cons x r => left; have := w.1; rw [List.length_cons] at this; omega
    rcases this with rfl | rfl
    · rw [h, List.drop_zero]
    · rw [h]; simp
  · rw [upd_same]
    show some (HO.tup ((xs.drop (HT.sIx xs.length 0 (some (m : Int)))).take (HT.sIx xs.length xs.length none - HT.sIx xs.length 0 (some (m : Int))))) = _
    rw [sIx_nat, sIx_none]
    congr 2
    rw [List.take_of_length_le (by rw [List.length_drop]; omega)]
    by_cases q : m ≤ xs.length
    · rw [Nat.min_eq_left q]
    · rw [Nat.min_eq_right (by omega), List.drop_eq_nil_of_le (Nat.le_refl _), List.drop_eq_nil_of_le (by omega)]
theorem slT_both {a : Addr} {xs : List V} {m n : Nat} (h : H a = some (.tup xs)) (k : ∀ p H', Same H H' → H' p = some (.tup ((xs.take n).drop m)) → Q (.ref p) H') : rSlA K (.ref a) (some (m : Int)) (some (n : Int)) H Q := by
  have e : (xs.drop (min m xs.length)).take (min n xs.length - min m xs.length) = (xs.take n).drop m := by
    rw [List.drop_take]
    by_cases q : m ≤ xs.length
    · rw [Nat.min_eq_left q]
      by_cases q2 : n ≤ xs.length
      · rw [Nat.min_eq_left q2]
      · rw [Nat.min_eq_right (by omega)]
        rw [List.take_of_length_le (by rw [List.length_drop]; omega), List.take_of_length_le (by rw [List.length_drop]; omega)]
    · rw [Nat.min_eq_right (show xs.length ≤ m by omega), List.drop_eq_nil_of_le (Nat.le_refl _), List.drop_eq_nil_of_le (show xs.length ≤ m by omega)]
      simp
  refine ⟨a, xs, rfl, SqT.of h, fun w => k a H (Same.refl H) ?_, fun _ p hp => k p _ (Same.new hp) ?_⟩
  · rw [sIx_nat, sIx_nat] at w
    rw [h, ← e, w.1, w.2]
    simp
  · rw [upd_same]
    show some (HO.tup ((xs.drop (HT.sIx xs.length 0 (some (m : Int)))).take (HT.sIx xs.length xs.length (some (n : Int)) - HT.sIx xs.length 0 (some (m : Int))))) = _
    rw [sIx_nat, sIx_nat, e]
theorem catT {p q : Addr} {xs ys : List V} (h1 : H p = some (.tup xs)) (h2 : H q = some (.tup ys)) (hl : xs.length + ys.length ≤ sizeLine) (k : ∀ r H', Same H H' → H' r = some (.tup (xs ++ ys)) → Q (.ref r) H') : rCatA K (.ref p) (.ref q) H Q := by
  refine ⟨p, q, xs, ys, rfl, rfl, SqT.of h1, SqT.of h2, hl, fun e => k q H (Same.refl H) ?_, fun _ e => k p H (Same.refl H) ?_, fun _ _ r hr => k r _ (Same.new hr) upd_same⟩
  · rw [h2, e]; rfl
  · rw [h1, e, List.append_nil]
theorem op_catK {X : Cx} {K : PySem.W.Frag} (h : X.K = K) : OpR X (binaryOp .Add) (rCatA K) := by
  subst h
  exact op_catA
theorem sl_tupK {X : Cx} {K : PySem.W.Frag} (h : X.K = K) : SlR X (rSlA K) := by
  subst h
  exact sl_tupA
/-- [F(x) for x in t if f(x)], t a tuple; the test and the element change nothing -/
theorem lc_tupF {K : PySem.W.Frag} {a : Addr} {xs : List V} {f : V → Bool} {F : V → V} {tt : TT} {te : TE} {i0 : Nat} {vs : List Nat} {σ : L2.St} {H1 : Hp} {D : Addr} {Qd : Hp → Prop} (hD : H1 D = none) (ha : H1 a = some (.tup xs)) (hn : xs.length ≤ sizeLine)
    (hw : ∀ u : V, wipe ((wipe σ vs).set i0 (some u)) vs = wipe σ vs)
    (ht : ∀ (x : V) (H : Hp) (Q : Bool → Hp → Prop), x ∈ xs → Same H1 H → Q (f x) H → tt ((wipe σ vs).set i0 (some x)) H Q)
    (he : ∀ (x : V) (H : Hp) (Q : VK), x ∈ xs → Same H1 H → Q (F x) H → te ((wipe σ vs).set i0 (some x)) H Q)
    (hd : ∀ H, Same H1 H → H D = some (.lst ((xs.filter f).map F)) → Qd H) :
    ∃ W : Nat → Nat → Hp → Prop, (∃ m, W 0 m (upd H1 D (.lst []))) ∧ ∀ i m H, W i m H → ((Itt K a).stop i H ∧ Qd H) ∨ ((Itt K a).go i H ∧ ∃ Nx : Hp → Prop, (∀ H', Nx H' → ∃ m', m' < m ∧ W (i + 1) m' H') ∧
      ∀ x H', (Itt K a).yld i H x H' → (gName i0) x (wipe σ vs) H' fun σ2 H2 => wipe σ2 vs = wipe σ vs ∧ tt σ2 H2 fun b H3 => if b = true then te σ2 H3 fun y H4 => ∃ acc, H4 D = some (.lst acc) ∧ acc.length < sizeLine ∧ Nx (upd H4 D (.lst (acc ++ [y]))) else Nx H3) := by
  refine lc_tup (K := K) (a := a) (xs := xs) (g := gName i0) (tt := tt) (te := te) (fun i H => Same H1 H ∧ H D = some (.lst (((xs.take i).filter f).map F))) ⟨Same.new hD, upd_same⟩ (fun i H _ p => SqT.of (p.1 _ _ ha)) ?_ (fun H p => hd H p.1 (by rw [p.2, List.take_length]))
  rintro i x H hx ⟨sm, hH⟩
  have il := (List.getElem?_eq_some_iff.mp hx).1
  have tk : xs.take (i + 1) = xs.take i ++ [x] := by rw [List.take_add_one, hx]; rfl
  have mem : x ∈ xs := List.mem_of_getElem? hx
  refine ⟨hw x, ht x H _ mem sm ?_⟩
  by_cases h : f x = true
  · rw [if_pos h]
    refine he x H _ mem sm ⟨_, hH, ?_, Same.put sm hD, ?_⟩
    · rw [List.length_map]
      have := List.length_filter_le f (xs.take i)
      rw [List.length_take] at this
      omega
    · rw [upd_same, tk, List.filter_append, List.map_append]
      simp [List.filter_cons, h]
  · rw [if_neg h]
    refine ⟨sm, ?_⟩
    rw [hH, tk, List.filter_append, List.map_append]
    simp [List.filter_cons, h]
/-- [F(x) for x in t if f(x)], t a list; the test and the element change nothing -/
theorem lc_listF {K : PySem.W.Frag} {a : Addr} {xs : List V} {f : V → Bool} {F : V → V} {tt : TT} {te : TE} {i0 : Nat} {vs : List Nat} {σ : L2.St} {H1 : Hp} {D : Addr} {Qd : Hp → Prop} (hD : H1 D = none) (ha : H1 a = some (.lst xs)) (hn : xs.length ≤ sizeLine)
    (hw : ∀ u : V, wipe ((wipe σ vs).set i0 (some u)) vs = wipe σ vs)
    (ht : ∀ (x : V) (H : Hp) (Q : Bool → Hp → Prop), x ∈ xs → Same H1 H → Q (f x) H → tt ((wipe σ vs).set i0 (some x)) H Q)
    (he : ∀ (x : V) (H : Hp) (Q : VK), x ∈ xs → Same H1 H → Q (F x) H → te ((wipe σ vs).set i0 (some x)) H Q)
    (hd : ∀ H, Same H1 H → H D = some (.lst ((xs.filter f).map F)) → Qd H) :
    ∃ W : Nat → Nat → Hp → Prop, (∃ m, W 0 m (upd H1 D (.lst []))) ∧ ∀ i m H, W i m H → ((Itl K a).stop i H ∧ Qd H) ∨ ((Itl K a).go i H ∧ ∃ Nx : Hp → Prop, (∀ H', Nx H' → ∃ m', m' < m ∧ W (i + 1) m' H') ∧
      ∀ x H', (Itl K a).yld i H x H' → (gName i0) x (wipe σ vs) H' fun σ2 H2 => wipe σ2 vs = wipe σ vs ∧ tt σ2 H2 fun b H3 => if b = true then te σ2 H3 fun y H4 => ∃ acc, H4 D = some (.lst acc) ∧ acc.length < sizeLine ∧ Nx (upd H4 D (.lst (acc ++ [y]))) else Nx H3) := by
  refine lc_list (K := K) (a := a) (xs := xs) (g := gName i0) (tt := tt) (te := te) (fun i H => Same H1 H ∧ H D = some (.lst (((xs.take i).filter f).map F))) ⟨Same.new hD, upd_same⟩ (fun i H _ p => SqL.of (p.1 _ _ ha)) ?_ (fun H p => hd H p.1 (by rw [p.2, List.take_length]))
  rintro i x H hx ⟨sm, hH⟩
  have il := (List.getElem?_eq_some_iff.mp hx).1
  have tk : xs.take (i + 1) = xs.take i ++ [x] := by rw [List.take_add_one, hx]; rfl
  have mem : x ∈ xs := List.mem_of_getElem? hx
  refine ⟨hw x, ht x H _ mem sm ?_⟩
  by_cases h : f x = true
  · rw [if_pos h]
    refine he x H _ mem sm ⟨_, hH, ?_, Same.put sm hD, ?_⟩
    · rw [List.length_map]
      have := List.length_filter_le f (xs.take i)
      rw [List.length_take] at this
      omega
    · rw [upd_same, tk, List.filter_append, List.map_append]
      simp [List.filter_cons, h]
  · rw [if_neg h]
    refine ⟨sm, ?_⟩
    rw [hH, tk, List.filter_append, List.map_append]
    simp [List.filter_cons, h]
theorem call_tuple_ofK {X : Cx} {K : PySem.W.Frag} (h : X.K = K) : CallR X (.type "tuple") (fun xs H Q => ∃ p ys, xs = [.ref p] ∧ ((SqL K H p ys ∧ ∀ l, H l = none → Q (.ref l) (upd H l (.tup ys))) ∨ (SqT K H p ys ∧ Q (.ref p) H))) := by
  subst h
  exact call_tuple_of
end
end Sx

set_option Elab.async false
set_option linter.all false
set_option maxRecDepth 100000
set_option maxHeartbeats 1000000
namespace Sx
open PySem PySem.Spec PyProof.Rows L2 SxA
/-! ### draws: a list of ints, of which one is taken -/
def Dr (H : Hp) (a : Addr) : Prop := ∃ ns : List Int, H a = some (.lst (ns.map V.int))
def DrL (H : Hp) (a : Addr) (n : Nat) : Prop := ∃ ns : List Int, H a = some (.lst (ns.map V.int)) ∧ ns.length ≤ n
theorem Dr.has {H : Hp} {a : Addr} (h : Dr H a) : ∃ o, H a = some o := ⟨_, h.choose_spec⟩
theorem Dr.ne {H : Hp} {a D : Addr} (h : Dr H a) (hD : H D = none) : a ≠ D := ne_of_none h.choose_spec hD
theorem Dr.put {H : Hp} {a D : Addr} {o : HO} (h : Dr H a) (n : a ≠ D) : Dr (upd H D o) a := by
  obtain ⟨ns, e⟩ := h
  exact ⟨ns, by rw [upd_ne n]; exact e⟩
theorem Dr.new {H : Hp} {a D : Addr} {o : HO} (h : Dr H a) (hD : H D = none) : Dr (upd H D o) a := h.put (h.ne hD)
theorem Dr.same {H H' : Hp} {a : Addr} (h : Dr H a) (s : Same H H') : Dr H' a := by
  obtain ⟨ns, e⟩ := h
  exact ⟨ns, s _ _ e⟩
theorem But.new {a : Addr} {H H' : Hp} {p : Addr} {o : HO} (b : But a H H') (hp : H p = Option.none) : But a H (upd H' p o) := fun c u e n => by
  rw [upd_ne (ne_of_none e hp)]
  exact b c u e n
theorem But.same {a : Addr} {H H1 H2 : Hp} (b : But a H H1) (s : Same H1 H2) : But a H H2 := b.trans (But.of s)
def spTake : Sp := fun vs H Q _ => ∃ (a : Addr) (m : Int), vs = [.ref a, .int m] ∧ Dr H a ∧ 0 < m ∧ ∀ v H', 0 ≤ v → v < m → Dr H' a → But a H H' → Q (.int v) H'
def spDraws (K : PySem.W.Frag) : Sp := fun vs H Q _ => ∃ (a : Addr) (ns : List Int), vs = [.ref a] ∧ SqL K H a (ns.map V.int) ∧ ns.length ≤ 63 ∧ ∀ p H', H p = none → Same H H' → Dr H' p → Q (.ref p) H'
section
variable {P : Program} {w : World} {K : PySem.W.Frag} {mg : Str → Option Value} {base : Heap}
abbrev nsLawTake : List Str := ["draws", "bound"]
theorem scLawTake : FnScope nsLawTake ["draws", "bound"] (defScope sLawTake) := ⟨rfl, rfl, rfl, by decide +kernel, rfl, by decide +kernel, by decide +kernel⟩
theorem ok_law_take (t : T K mg) : Ok P w K mg base 1 "_law_take" ["draws", "bound"] spTake := by
  refine mkOk t.d_law_take t.g_law_take scLawTake (fun vs H Q E h => ?_) (fun _ _ _ _ _ _ us hl => match us, hl with | [_, _], _ => rfl) fun cdv A outer s H vs Q E hr h => ?_
  · obtain ⟨a, m, rfl, _⟩ := h; rfl
  obtain ⟨a, m, rfl, ⟨ns, hn⟩, m0, k⟩ := h
  refine ⟨_, pss_cons (ps_if (pt_cmpR op_eq (pe_callB call_len_seq rfl t.f_len boot_len (pa_cons (pv 0) pa_nil)) pe_int (nomark _))
      (pss_one (ps_ret pe_int))
      pss_nil)
    (pss_one (ps_ret (pe_op op_mod (pe_callTy call_int1 rfl t.f_int (by decide +kernel) (pa_cons (pe_bm0 PySem.F.plainAttrs_list PySem.F.slot_list_pop PySem.F.type_list_pop mt_pop (pv 0)) pa_nil)) (pv 1)))), ?_⟩
  refine ⟨_, rfl, a, _, rfl, .inl (SqL.of hn), rfl, _, rfl, ?_⟩
  refine ite2 (fun h1 => k 0 H (Int.le_refl _) m0 ⟨ns, hn⟩ (But.refl _ _)) (fun h1 => ?_)
  have hl : 0 < ns.length := by
    cases ns with
    | nil => exact absurd rfl h1
    | cons x r => exact Nat.succ_pos _
  have hlast : (ns.map V.int)[(ns.map V.int).length - 1]? = some (.int (ns[ns.length - 1]'(by omega))) := by
    rw [List.length_map, List.getElem?_map, List.getElem?_eq_getElem (by omega)]
    rfl
  refine ⟨_, rfl, .inl ⟨rfl, _, SqL.of hn⟩, a, _, _, rfl, rfl, hn, hlast, .inl ⟨_, rfl, ?_⟩⟩
  refine ⟨_, rfl, _, _, rfl, rfl, m0, k _ _ (Int.emod_nonneg _ (by omega)) (Int.emod_lt_of_pos _ m0) ⟨ns.dropLast, ?_⟩ (But.put _ _ _)⟩
  rw [upd_same, List.map_dropLast]
abbrev nsLawDraws : List Str := ["script", "draws", "cell", "number", "first", "k", "seed"]
theorem scLawDraws : FnScope nsLawDraws ["script"] (defScope sLawDraws) := ⟨rfl, rfl, rfl, by decide +kernel, rfl, by decide +kernel, by decide +kernel⟩
theorem DrL.push {H : Hp} {D : Addr} {ns : List Int} {z : Int} {n : Nat} (h : ns.length ≤ n) : DrL (upd H D (.lst (ns.map V.int ++ [V.int z]))) D (n + 1) := ⟨ns ++ [z], by rw [upd_same, List.map_append]; rfl, by rw [List.length_append]; exact Nat.succ_le_succ h⟩
theorem smallL {ns : List Int} {n : Nat} (h : ns.length ≤ n) (hn : n ≤ 100000) : (ns.map V.int).length < sizeLine := by
  rw [List.length_map]
  exact Nat.lt_of_le_of_lt h (Nat.lt_of_le_of_lt hn (by decide))
theorem ok_law_draws (t : T K mg) : Ok P w K mg base 1 "_law_draws" ["script"] (spDraws K) := by
  refine mkOk t.d_law_draws t.g_law_draws scLawDraws (fun vs H Q E h => ?_) (fun _ _ _ _ _ _ us hl => match us, hl with | [_], _ => rfl) fun cdv A outer s H vs Q E hr h => ?_
  · obtain ⟨a, ns, rfl, _⟩ := h; rfl
  obtain ⟨sc, zs, rfl, hS, hlen, k⟩ := h
  refine ⟨_, pss_cons (ps_set (i := 1) scLawDraws.nd rfl (Or.inl rfl) (pe_lst pa_nil))
    (pss_cons (ps_for PassesOwn.never rfl (pi_list (pv 0)) (pg_name (i := 2) scLawDraws.nd rfl (Or.inl rfl))
      (pss_cons (ps_set (i := 3) scLawDraws.nd rfl (Or.inl rfl) (pe_callB call_abs rfl t.f_abs (by decide +kernel) (pa_cons (pv 2) pa_nil)))
    (C8.pss_cut (ps_if (pt_cmpR op_lt (pv 3) (pe_op op_pow pe_int pe_int) (nomark _))
      (pss_cons (ps_set (i := 4) scLawDraws.nd rfl (Or.inl rfl) (pe_op op_mod (pe_callTy call_int1 rfl t.f_int (by decide +kernel) (pa_cons (pe_op op_add (pe_op op_mul (pv 3) pe_int) pe_int) pa_nil)) pe_int))
    (pss_cons (ps_expr (pe_bm PySem.F.plainAttrs_list PySem.F.slot_list_append PySem.F.type_list_append mt_append (pv 1) (pa_cons (pe_op op_mod (pe_callTy call_int1 rfl t.f_int (by decide +kernel) (pa_cons (pe_op op_add (pe_op op_mul (pv 4) pe_int) (pv 3)) pa_nil)) pe_int) pa_nil)))
    (pss_cons (ps_expr (pe_bm PySem.F.plainAttrs_list PySem.F.slot_list_append PySem.F.type_list_append mt_append (pv 1) (pa_cons (pe_op op_mod (pe_callTy call_int1 rfl t.f_int (by decide +kernel) (pa_cons (pe_op op_add (pv 4) (pe_op op_fdiv (pv 3) pe_int)) pa_nil)) pe_int) pa_nil)))
    (pss_one (ps_set (i := 3) scLawDraws.nd rfl (Or.inl rfl) pe_int)))))
      pss_nil)
    (pss_one (ps_for PassesOwn.never rfl (pi_range1 rfl t.f_range (pa_cons pe_int pa_nil)) (pg_name (i := 5) scLawDraws.nd rfl (Or.inl rfl))
      (pss_one (ps_if (pt_cmpR op_gt (pv 3) pe_int (nomark _))
      (pss_cons (ps_expr (pe_bm PySem.F.plainAttrs_list PySem.F.slot_list_append PySem.F.type_list_append mt_append (pv 1) (pa_cons (pe_op op_mod (pe_callTy call_int1 rfl t.f_int (by decide +kernel) (pa_cons (pv 3) pa_nil)) pe_int) pa_nil)))
    (pss_one (ps_set (i := 3) scLawDraws.nd rfl (Or.inl rfl) (pe_op op_fdiv (pv 3) pe_int))))
      pss_nil)))))))
    (pss_cons (ps_set (i := 6) scLawDraws.nd rfl (Or.inl rfl) pe_int)
    (C8.pss_cut (ps_if (pt_cmpR op_gt (pe_callB call_len_seq rfl t.f_len boot_len (pa_cons (pv 0) pa_nil)) pe_int (nomark _))
      (pss_one (ps_set (i := 6) scLawDraws.nd rfl (Or.inl rfl) (pe_op op_add pe_int (pe_callB call_abs rfl t.f_abs (by decide +kernel) (pa_cons (pe_ix ix_list (pv 0) pe_int (fun _ _ => rfl)) pa_nil)))))
      pss_nil)
    (pss_cons (ps_for PassesOwn.never rfl (pi_range1 rfl t.f_range (pa_cons pe_int pa_nil)) (pg_name (i := 5) scLawDraws.nd rfl (Or.inl rfl))
      (pss_cons (ps_set (i := 6) scLawDraws.nd rfl (Or.inl rfl) (pe_op op_mod (pe_callTy call_int1 rfl t.f_int (by decide +kernel) (pa_cons (pe_op op_add (pe_op op_mul (pv 6) pe_int) pe_int) pa_nil)) pe_int))
    (pss_one (ps_expr (pe_bm PySem.F.plainAttrs_list PySem.F.slot_list_append PySem.F.type_list_append mt_append (pv 1) (pa_cons (pe_op op_fdiv (pv 6) pe_int) pa_nil))))))
    (pss_one (ps_ret (pe_listRev rfl t.f_list rfl t.f_reversed (pv 1)))))))), ?_⟩
  refine ⟨(by show 0 ≤ sizeLine; decide), fun D hD => ?_⟩
  refine ⟨_, rfl, sc, rfl, ⟨_, (Same.new hD).seq hS⟩, ?_⟩
  refine for_list (K := K) (a := sc) (xs := zs.map V.int) (fun i σ' H' => (∃ o2 o3 o4 o5 : Option V, σ' = [some (.ref sc), some (.ref D), o2, o3, o4, o5, none]) ∧ DrL H' D (62 * i) ∧ Same H H') ⟨⟨_, _, _, _, rfl⟩, ⟨[], upd_same, Nat.le_refl _⟩, Same.new hD⟩ (fun i σ' H' _ p => p.2.2.seq hS) ?_ ?_
  · rintro i x σ' H' hx ⟨⟨o2, o3, o4, o5, rfl⟩, ⟨ds, hds, hdl⟩, s1⟩
    obtain ⟨z, rfl⟩ : ∃ z : Int, x = .int z := by
      rw [List.getElem?_map] at hx
      cases q : zs[i]? with
      | none => rw [q] at hx; cases hx
      | some z => rw [q] at hx; exact ⟨z, (Option.some.inj hx).symm⟩
    have il : i < 63 := by
      have := (List.getElem?_eq_some_iff.mp hx).1
      rw [List.length_map] at this
      omega
    refine ⟨_, rfl, _, rfl, ?_⟩
    generalize (if z < 0 then -z else z) = n
    refine ⟨fun σ2 H2 => (∃ (m : Int) (o4 : Option V), σ2 = [some (.ref sc), some (.ref D), some (.int z), some (.int m), o4, o5, none]) ∧ DrL H2 D (62 * i + 2) ∧ Same H H2, ?_, ?_⟩
    · refine ⟨_, rfl, _, _, rfl, rfl, ⟨by decide, by decide, by decide⟩, _, _, rfl, rfl, _, rfl, ?_⟩
      refine ite2 (fun h1 => ?_) (fun h1 => ⟨⟨_, _, rfl⟩, ⟨ds, hds, by omega⟩, s1⟩)
      refine ⟨_, rfl, _, _, rfl, rfl, .inr (by decide), _, _, rfl, rfl, .inl ⟨_, rfl, ?_⟩⟩
      refine ⟨_, _, rfl, rfl, (by show (0 : Int) < 2147483647; decide), ?_⟩
      refine ⟨_, rfl, .inl ⟨rfl, _, SqL.of hds⟩, _, rfl, _, _, rfl, rfl, .inr (by decide), _, rfl, _, _, rfl, rfl, .inl ⟨_, rfl, ?_⟩⟩
      refine ⟨_, _, rfl, rfl, (by show (0 : Int) < 2147483629; decide), ?_⟩
      refine ⟨D, _, _, rfl, rfl, hds, smallL hdl (by omega), ?_⟩
      refine ⟨_, rfl, .inl ⟨rfl, _, SqL.of upd_same⟩, _, rfl, _, rfl, _, _, rfl, rfl, ⟨by decide, by decide⟩, _, _, rfl, rfl, .inl ⟨_, rfl, ?_⟩⟩
      refine ⟨_, _, rfl, rfl, (by show (0 : Int) < 1000003; decide), ?_⟩
      refine ⟨D, _, _, rfl, rfl, upd_same, ?_, ⟨⟨_, _, rfl⟩, ⟨ds ++ [_] ++ [_], by rw [upd_same, List.map_append, List.map_append]; rfl, by rw [List.length_append, List.length_append]; simp; omega⟩, ?_⟩⟩
      · rw [List.length_append]
        have := smallL (n := 62 * i) hdl (by omega)
        have e : (62 * i + 1) < sizeLine := Nat.lt_of_le_of_lt (show 62 * i + 1 ≤ 100000 by omega) (by decide)
        rw [List.length_map]
        exact Nat.lt_of_le_of_lt (Nat.succ_le_succ hdl) e
      · exact Same.put (Same.put s1 hD) hD
    · rintro σ2 H2 ⟨⟨m, o4, rfl⟩, ⟨ds, hds, hdl⟩, s1⟩
      refine ⟨60, rfl, by decide, by decide, ?_⟩
      refine for_range (lo := 0) (n := 60) (fun j σ3 H3 => (∃ (m : Int) (o5 : Option V), σ3 = [some (.ref sc), some (.ref D), some (.int z), some (.int m), o4, o5, none]) ∧ DrL H3 D (62 * i + 2 + j) ∧ Same H H3) ⟨⟨_, _, rfl⟩, ⟨ds, hds, hdl⟩, s1⟩ ?_ ?_
      · rintro j σ3 H3 hj ⟨⟨m, o5, rfl⟩, ⟨ds, hds, hdl⟩, s1⟩
        refine ⟨_, rfl, _, _, rfl, rfl, _, rfl, ?_⟩
        refine ite2 (fun h1 => ?_) (fun h1 => ⟨⟨_, _, rfl⟩, ⟨ds, hds, by omega⟩, s1⟩)
        refine ⟨_, rfl, .inl ⟨rfl, _, SqL.of hds⟩, _, rfl, .inl ⟨_, rfl, ?_⟩⟩
        refine ⟨_, _, rfl, rfl, (by show (0 : Int) < 997; decide), ?_⟩
        refine ⟨D, _, _, rfl, rfl, hds, smallL hdl (by omega), ?_⟩
        refine ⟨_, rfl, _, _, rfl, rfl, ⟨by decide, by decide⟩, ⟨_, _, rfl⟩, DrL.push hdl, Same.put s1 hD⟩
      · rintro σ3 H3 ⟨⟨m, o5, rfl⟩, ⟨ds, hds, hdl⟩, s1⟩
        exact ⟨⟨_, _, _, _, rfl⟩, ⟨ds, hds, by omega⟩, s1⟩
  rintro σ' H' ⟨⟨o2, o3, o4, o5, rfl⟩, ⟨ds, hds, hdl⟩, s1⟩
  rw [List.length_map] at hdl
  refine ⟨fun σ2 H2 => (∃ m : Int, σ2 = [some (.ref sc), some (.ref D), o2, o3, o4, o5, some (.int m)]) ∧ H2 = H', ?_, ?_⟩
  · refine ⟨_, rfl, sc, _, rfl, .inl (s1.seq hS), _, _, rfl, rfl, _, rfl, ?_⟩
    refine ite2 (fun h1 => ?_) (fun h1 => ⟨⟨_, rfl⟩, rfl⟩)
    cases zs with
    | nil => exact absurd h1 (by decide)
    | cons z r => exact ⟨_, rfl, sc, _, _, .int z, rfl, rfl, s1.seq hS, atI_nat (j := 0) rfl, _, rfl, _, _, rfl, rfl, ⟨_, rfl⟩, rfl⟩
  rintro σ2 H2 ⟨⟨m, rfl⟩, rfl⟩
  refine ⟨240, rfl, by decide, by decide, ?_⟩
  refine for_range (lo := 0) (n := 240) (fun j σ3 H3 => (∃ (m : Int) (o5 : Option V), σ3 = [some (.ref sc), some (.ref D), o2, o3, o4, o5, some (.int m)]) ∧ DrL H3 D (62 * 63 + j) ∧ Same H H3) ⟨⟨_, _, rfl⟩, ⟨ds, hds, by omega⟩, s1⟩ ?_ ?_
  · rintro j σ3 H3 hj ⟨⟨m, o5, rfl⟩, ⟨ds, hds, hdl⟩, s1⟩
    refine ⟨_, rfl, _, _, rfl, rfl, .inr (by decide), _, _, rfl, rfl, .inl ⟨_, rfl, ?_⟩⟩
    refine ⟨_, _, rfl, rfl, (by show (0 : Int) < 2147483647; decide), ?_⟩
    refine ⟨_, rfl, .inl ⟨rfl, _, SqL.of hds⟩, _, rfl, _, _, rfl, rfl, ⟨by decide, by decide⟩, ?_⟩
    exact ⟨D, _, _, rfl, rfl, hds, smallL hdl (by omega), ⟨⟨_, _, rfl⟩, DrL.push hdl, Same.put s1 hD⟩⟩
  · rintro σ3 H3 ⟨⟨m, o5, rfl⟩, ⟨ds, hds, hdl⟩, s1⟩
    refine ⟨_, rfl, D, _, rfl, SqL.of hds, fun q hq => ?_⟩
    exact k q _ (Sx.Same.none s1 _ hq) (Same.put s1 (Sx.Same.none s1 _ hq)) ⟨ds.reverse, by rw [upd_same, List.map_reverse]⟩
end
end Sx

set_option Elab.async false
set_option linter.all false
set_option maxRecDepth 100000
set_option maxHeartbeats 1000000
namespace Sx
open PySem PySem.Spec PyProof.Rows L2 SxA SxK
/-! ### _law_same of equal data -/
def Eqd : Nat → Hp → V → V → Prop
  | 0, _, x, y => x = y ∧ flatV x = true
  | n + 1, H, x, y => (x = y ∧ flatV x = true) ∨ ∃ a b xs ys, x = .ref a ∧ y = .ref b ∧ ((H a = some (.lst xs) ∧ H b = some (.lst ys)) ∨ (H a = some (.tup xs) ∧ H b = some (.tup ys))) ∧ xs.length = ys.length ∧ xs.length ≤ 100000 ∧ ∀ (i : Nat) u v, xs[i]? = some u → ys[i]? = some v → Eqd n H u v
def spEqd : Nat → Sp
  | 0 => fun _ _ _ _ => False
  | n + 1 => fun vs H Q _ => ∃ x y, vs = [x, y] ∧ Eqd n H x y ∧ Q (.bl true) H
section
variable {P : Program} {w : World} {K : PySem.W.Frag} {mg : Str → Option Value} {base : Heap}
abbrev nsLawSame : List Str := ["actual", "due", "k"]
theorem scLawSame : FnScope nsLawSame ["actual", "due"] (defScope sLawSame) := ⟨rfl, rfl, rfl, by decide +kernel, rfl, by decide +kernel, by decide +kernel⟩
theorem ok_same (t : T K mg) : ∀ n, Ok P w K mg base (n + 1) "_law_same" ["actual", "due"] (spEqd n)
  | 0 => mkOk t.d_law_same t.g_law_same scLawSame (fun vs H Q E h => h.elim) (fun _ _ _ _ _ _ us hl => match us, hl with | [_, _], _ => rfl) fun cdv A outer s H vs Q E hr h => h.elim
  | n + 1 => by
    have ih := ok_same t n
    refine mkOk t.d_law_same t.g_law_same scLawSame (fun vs H Q E h => ?_) (fun _ _ _ _ _ _ us hl => match us, hl with | [_, _], _ => rfl) fun cdv A outer s H vs Q E hr h => ?_
    · obtain ⟨x, y, rfl, _⟩ := h; rfl
    obtain ⟨x, y, rfl, hE, k⟩ := h
    refine ⟨_, pss_cons (ps_if (PW.pt (pw_or (pt_val (pe_callB call_isi rfl t.f_isinstance (by decide +kernel) (pa_cons (pv 1) (pa_cons (pe_bltn (v := .ty "tuple") rfl t.f_tuple (by decide +kernel) rfl) pa_nil)))) (pw_or1 (pt_val (pe_callB call_isi rfl t.f_isinstance (by decide +kernel) (pa_cons (pv 1) (pa_cons (pe_bltn (v := .ty "list") rfl t.f_list (by decide +kernel) rfl) pa_nil)))))))
      (pss_cons (ps_if (PW.pt (pw_or (pt_cmpR op_ne (pe_callB call_isi rfl t.f_isinstance (by decide +kernel) (pa_cons (pv 1) (pa_cons (pe_bltn (v := .ty "tuple") rfl t.f_tuple (by decide +kernel) rfl) pa_nil))) (pe_callB call_isi rfl t.f_isinstance (by decide +kernel) (pa_cons (pv 0) (pa_cons (pe_bltn (v := .ty "tuple") rfl t.f_tuple (by decide +kernel) rfl) pa_nil))) (nomark _)) (pw_or1 (pt_cmpR op_ne (pe_callB call_isi rfl t.f_isinstance (by decide +kernel) (pa_cons (pv 1) (pa_cons (pe_bltn (v := .ty "list") rfl t.f_list (by decide +kernel) rfl) pa_nil))) (pe_callB call_isi rfl t.f_isinstance (by decide +kernel) (pa_cons (pv 0) (pa_cons (pe_bltn (v := .ty "list") rfl t.f_list (by decide +kernel) rfl) pa_nil))) (nomark _)))))
      (pss_one (ps_ret pe_bl))
      pss_nil)
    (pss_cons (ps_if (pt_cmpR op_ne (pe_callB call_len_seq rfl t.f_len boot_len (pa_cons (pv 0) pa_nil)) (pe_callB call_len_seq rfl t.f_len boot_len (pa_cons (pv 1) pa_nil)) (nomark _))
      (pss_one (ps_ret pe_bl))
      pss_nil)
    (pss_cons (ps_for PassesOwn.never rfl (pi_range1 rfl t.f_range (pa_cons (pe_callB call_len_seq rfl t.f_len boot_len (pa_cons (pv 1) pa_nil)) pa_nil)) (pg_name (i := 2) scLawSame.nd rfl (Or.inl rfl))
      (pss_one (ps_if (pt_not (pt_val (pe_ok ih hr rfl (pa_cons (pe_ix ix_seq (pv 0) (pv 2) (fun _ _ => rfl)) (pa_cons (pe_ix ix_seq (pv 1) (pv 2) (fun _ _ => rfl)) pa_nil)))))
      (pss_one (ps_ret pe_bl))
      pss_nil)))
    (pss_one (ps_ret pe_bl)))))
      pss_nil)
    (pss_cons (ps_if (pt_cmpR op_ne (pe_callB call_isi rfl t.f_isinstance (by decide +kernel) (pa_cons (pv 1) (pa_cons (pe_bltn (v := .ty "bool") rfl t.f_bool (by decide +kernel) rfl) pa_nil))) (pe_callB call_isi rfl t.f_isinstance (by decide +kernel) (pa_cons (pv 0) (pa_cons (pe_bltn (v := .ty "bool") rfl t.f_bool (by decide +kernel) rfl) pa_nil))) (nomark _))
      (pss_one (ps_ret pe_bl))
      pss_nil)
    (pss_cons (ps_if (PW.pt (pw_or (pt_cmpR op_ne (pe_callB call_isi rfl t.f_isinstance (by decide +kernel) (pa_cons (pv 1) (pa_cons (pe_bltn (v := .ty "int") rfl t.f_int (by decide +kernel) rfl) pa_nil))) (pe_callB call_isi rfl t.f_isinstance (by decide +kernel) (pa_cons (pv 0) (pa_cons (pe_bltn (v := .ty "int") rfl t.f_int (by decide +kernel) rfl) pa_nil))) (nomark _)) (pw_or1 (pt_cmpR op_ne (pe_callB call_isi rfl t.f_isinstance (by decide +kernel) (pa_cons (pv 1) (pa_cons (pe_bltn (v := .ty "str") rfl t.f_str (by decide +kernel) rfl) pa_nil))) (pe_callB call_isi rfl t.f_isinstance (by decide +kernel) (pa_cons (pv 0) (pa_cons (pe_bltn (v := .ty "str") rfl t.f_str (by decide +kernel) rfl) pa_nil))) (nomark _)))))
      (pss_one (ps_ret pe_bl))
      pss_nil)
    (pss_one (ps_ret (pe_cmpR op_eq (pv 0) (pv 1) (nomark _)))))), ?_⟩
    have fl : (x = y ∧ flatV x = true) ∨ ∃ m, n = m + 1 ∧ ∃ a b xs ys, x = .ref a ∧ y = .ref b ∧ ((H a = some (.lst xs) ∧ H b = some (.lst ys)) ∨ (H a = some (.tup xs) ∧ H b = some (.tup ys))) ∧ xs.length = ys.length ∧ xs.length ≤ 100000 ∧ ∀ (i : Nat) u v, xs[i]? = some u → ys[i]? = some v → Eqd m H u v := by
      cases n with
      | zero => exact .inl hE
      | succ m => exact hE.imp id fun h => ⟨m, rfl, h⟩
    rcases fl with ⟨rfl, hf⟩ | ⟨m, rfl, a, b, xs, ys, rfl, rfl, hab, hl, hs, hi⟩
    · have fin : Q (.bl (decide (x = x))) H := by rw [decide_eq_true rfl]; exact k
      cases x with
      | non =>
        refine ⟨_, rfl, _, _, _, _, false, rfl, .ty _, .base .non, kit_ty (by decide +kernel), _, rfl, iteF ⟨_, rfl, _, _, _, _, false, rfl, .ty _, .base .non, kit_ty (by decide +kernel), _, rfl, iteF ?_⟩⟩
        refine ⟨_, rfl, _, _, _, _, false, rfl, .ty _, .base .non, kit_ty (by decide +kernel), _, rfl, _, _, _, _, false, rfl, .ty _, .base .non, kit_ty (by decide +kernel), rfl, _, rfl, iteF ?_⟩
        refine ⟨_, rfl, _, _, _, _, false, rfl, .ty _, .base .non, kit_ty (by decide +kernel), _, rfl, _, _, _, _, false, rfl, .ty _, .base .non, kit_ty (by decide +kernel), rfl, _, rfl, iteF ?_⟩
        refine ⟨_, rfl, _, _, _, _, false, rfl, .ty _, .base .non, kit_ty (by decide +kernel), _, rfl, _, _, _, _, false, rfl, .ty _, .base .non, kit_ty (by decide +kernel), rfl, _, rfl, iteF ?_⟩
        exact ⟨_, rfl, _, rfl, rfl, fin⟩
      | bl c =>
        refine ⟨_, rfl, _, _, _, _, false, rfl, .ty _, .base (.bl _), kit_ty (by decide +kernel), _, rfl, iteF ⟨_, rfl, _, _, _, _, false, rfl, .ty _, .base (.bl _), kit_ty (by decide +kernel), _, rfl, iteF ?_⟩⟩
        refine ⟨_, rfl, _, _, _, _, true, rfl, .ty _, .base (.bl _), kit_ty (by decide +kernel), _, rfl, _, _, _, _, true, rfl, .ty _, .base (.bl _), kit_ty (by decide +kernel), rfl, _, rfl, iteF ?_⟩
        refine ⟨_, rfl, _, _, _, _, true, rfl, .ty _, .base (.bl _), kit_ty (by decide +kernel), _, rfl, _, _, _, _, true, rfl, .ty _, .base (.bl _), kit_ty (by decide +kernel), rfl, _, rfl, iteF ?_⟩
        refine ⟨_, rfl, _, _, _, _, false, rfl, .ty _, .base (.bl _), kit_ty (by decide +kernel), _, rfl, _, _, _, _, false, rfl, .ty _, .base (.bl _), kit_ty (by decide +kernel), rfl, _, rfl, iteF ?_⟩
        exact ⟨_, rfl, _, rfl, rfl, fin⟩
      | int c =>
        refine ⟨_, rfl, _, _, _, _, false, rfl, .ty _, .base (.int _), kit_ty (by decide +kernel), _, rfl, iteF ⟨_, rfl, _, _, _, _, false, rfl, .ty _, .base (.int _), kit_ty (by decide +kernel), _, rfl, iteF ?_⟩⟩
        refine ⟨_, rfl, _, _, _, _, false, rfl, .ty _, .base (.int _), kit_ty (by decide +kernel), _, rfl, _, _, _, _, false, rfl, .ty _, .base (.int _), kit_ty (by decide +kernel), rfl, _, rfl, iteF ?_⟩
        refine ⟨_, rfl, _, _, _, _, true, rfl, .ty _, .base (.int _), kit_ty (by decide +kernel), _, rfl, _, _, _, _, true, rfl, .ty _, .base (.int _), kit_ty (by decide +kernel), rfl, _, rfl, iteF ?_⟩
        refine ⟨_, rfl, _, _, _, _, false, rfl, .ty _, .base (.int _), kit_ty (by decide +kernel), _, rfl, _, _, _, _, false, rfl, .ty _, .base (.int _), kit_ty (by decide +kernel), rfl, _, rfl, iteF ?_⟩
        exact ⟨_, rfl, _, rfl, rfl, fin⟩
      | str c =>
        refine ⟨_, rfl, _, _, _, _, false, rfl, .ty _, .base (.str _), kit_ty (by decide +kernel), _, rfl, iteF ⟨_, rfl, _, _, _, _, false, rfl, .ty _, .base (.str _), kit_ty (by decide +kernel), _, rfl, iteF ?_⟩⟩
        refine ⟨_, rfl, _, _, _, _, false, rfl, .ty _, .base (.str _), kit_ty (by decide +kernel), _, rfl, _, _, _, _, false, rfl, .ty _, .base (.str _), kit_ty (by decide +kernel), rfl, _, rfl, iteF ?_⟩
        refine ⟨_, rfl, _, _, _, _, false, rfl, .ty _, .base (.str _), kit_ty (by decide +kernel), _, rfl, _, _, _, _, false, rfl, .ty _, .base (.str _), kit_ty (by decide +kernel), rfl, _, rfl, iteF ?_⟩
        refine ⟨_, rfl, _, _, _, _, true, rfl, .ty _, .base (.str _), kit_ty (by decide +kernel), _, rfl, _, _, _, _, true, rfl, .ty _, .base (.str _), kit_ty (by decide +kernel), rfl, _, rfl, iteF ?_⟩
        exact ⟨_, rfl, _, rfl, rfl, fin⟩
      | _ => cases hf
    · have la : SqL K H a xs ∨ SqT K H a xs := hab.imp (fun h => SqL.of h.1) (fun h => SqT.of h.1)
      have lb : SqL K H b ys ∨ SqT K H b ys := hab.imp (fun h => SqL.of h.2) (fun h => SqT.of h.2)
      have qa : ∀ (j : Nat) (u : V) (Qr : VK), xs[j]? = some u → Qr u H → rIx K (.ref a) (.int (j : Int)) H Qr := fun j u Qr h q => la.elim (fun l => .inl ⟨_, _, _, _, rfl, rfl, l, atI_nat h, q⟩) (fun l => .inr (.inl ⟨_, _, _, _, rfl, rfl, l, atI_nat h, q⟩))
      have qb : ∀ (j : Nat) (u : V) (Qr : VK), ys[j]? = some u → Qr u H → rIx K (.ref b) (.int (j : Int)) H Qr := fun j u Qr h q => lb.elim (fun l => .inl ⟨_, _, _, _, rfl, rfl, l, atI_nat h, q⟩) (fun l => .inr (.inl ⟨_, _, _, _, rfl, rfl, l, atI_nat h, q⟩))
      refine Or.elim hab (fun hc => ?_) (fun hc => ?_)
      refine ⟨_, rfl, _, _, _, _, false, rfl, .ty _, .base (.lst hc.2), kit_ty (by decide +kernel), _, rfl, iteF ⟨_, rfl, _, _, _, _, true, rfl, .ty _, .base (.lst hc.2), kit_ty (by decide +kernel), _, rfl, iteT ?_⟩⟩
      refine ⟨_, rfl, _, _, _, _, false, rfl, .ty _, .base (.lst hc.2), kit_ty (by decide +kernel), _, rfl, _, _, _, _, false, rfl, .ty _, .base (.lst hc.1), kit_ty (by decide +kernel), rfl, _, rfl, iteF ?_⟩
      refine ⟨_, rfl, _, _, _, _, true, rfl, .ty _, .base (.lst hc.2), kit_ty (by decide +kernel), _, rfl, _, _, _, _, true, rfl, .ty _, .base (.lst hc.1), kit_ty (by decide +kernel), rfl, _, rfl, iteF ?_⟩
      rotate_left
      refine ⟨_, rfl, _, _, _, _, true, rfl, .ty _, .base (.tup hc.2), kit_ty (by decide +kernel), _, rfl, iteT (iteT ?_)⟩
      refine ⟨_, rfl, _, _, _, _, true, rfl, .ty _, .base (.tup hc.2), kit_ty (by decide +kernel), _, rfl, _, _, _, _, true, rfl, .ty _, .base (.tup hc.1), kit_ty (by decide +kernel), rfl, _, rfl, iteF ?_⟩
      refine ⟨_, rfl, _, _, _, _, false, rfl, .ty _, .base (.tup hc.2), kit_ty (by decide +kernel), _, rfl, _, _, _, _, false, rfl, .ty _, .base (.tup hc.1), kit_ty (by decide +kernel), rfl, _, rfl, iteF ?_⟩
      rotate_left
      all_goals
        refine ⟨_, rfl, a, _, rfl, la, _, rfl, b, _, rfl, lb, rfl, _, rfl, ?_⟩
        rw [hl, decide_eq_true rfl]
        refine iteF ?_
        refine ⟨_, rfl, b, _, rfl, lb, _, rfl, by omega, by omega, ?_⟩
        refine for_range (lo := 0) (n := ((ys.length : Nat) : Int).toNat) (fun i σ' H' => (∃ o2 : Option V, σ' = [some (.ref a), some (.ref b), o2]) ∧ H' = H) ⟨⟨_, rfl⟩, rfl⟩ ?_ (fun σ' H' p => by rw [p.2]; exact k)
        rintro i σ' H' hi' ⟨⟨o2, rfl⟩, rfl⟩
        have ix : i < xs.length := by omega
        have iy : i < ys.length := by omega
        have gx : xs[i]? = some xs[i] := List.getElem?_eq_getElem ix
        have gy : ys[i]? = some ys[i] := List.getElem?_eq_getElem iy
        have e0 : (0 : Int) + (i : Int) = (i : Int) := by omega
        rw [e0]
        refine ⟨_, rfl, _, rfl, qa i _ _ gx ⟨_, rfl, _, rfl, qb i _ _ gy ⟨_, _, rfl, hi i _ _ gx gy, _, rfl, iteF ⟨⟨_, rfl⟩, rfl⟩⟩⟩⟩
end
end Sx

set_option Elab.async false
set_option linter.all false
set_option maxRecDepth 100000
set_option maxHeartbeats 2000000
namespace Sx
open PySem PySem.Spec PyProof.Rows L2 SxA
theorem get_snoc {α : Type} {ys : List α} {n j : Nat} {y z : α} (h : ys.length = n) (e : (ys ++ [y])[j]? = some z) : (j < n ∧ ys[j]? = some z) ∨ (j = n ∧ z = y) := by
  by_cases q : j < ys.length
  · rw [List.getElem?_append_left q] at e
    exact .inl ⟨by omega, e⟩
  · rw [List.getElem?_append_right (by omega)] at e
    have : j - ys.length = 0 := by
      cases q2 : j - ys.length with
      | zero => rfl
      | succ m => rw [q2] at e; cases e
    rw [this] at e
    exact .inr ⟨by omega, (Option.some.inj e).symm⟩
theorem small1 {n : Nat} (h : n ≤ 100000) : n < sizeLine := Nat.lt_of_le_of_lt h (by decide)
@[irreducible] def rTupOf (K : PySem.W.Frag) : List V → Hp → VK → Prop := fun xs H Q => ∃ p ys, xs = [V.ref p] ∧ ((SqL K H p ys ∧ ∀ l, H l = none → Q (.ref l) (upd H l (.tup ys))) ∨ (SqT K H p ys ∧ Q (.ref p) H))
theorem call_tupK {X : Cx} {K : PySem.W.Frag} (h : X.K = K) : CallR X (.type "tuple") (rTupOf K) := by
  subst h
  unfold rTupOf
  exact call_tuple_of
/-- a list or a tuple with these ints -/
def RowIn (H : Hp) (p : Addr) (L : List Int) : Prop := H p = some (.lst (L.map V.int)) ∨ H p = some (.tup (L.map V.int))
theorem RowIn.same {H H' : Hp} {p : Addr} {L : List Int} (h : RowIn H p L) (s : Same H H') : RowIn H' p L := h.imp (s _ _) (s _ _)
theorem RowIn.but {H H' : Hp} {p x C dx : Addr} {L : List Int} {fs : List (Str × V)} (h : RowIn H p L) (hx : H x = some (.ins C dx fs)) (s : But x H H') : RowIn H' p L := by
  rcases h with h | h
  · exact .inl (s _ _ h (ne_of h hx (by intro z; cases z)))
  · exact .inr (s _ _ h (ne_of h hx (by intro z; cases z)))
theorem tupOf {K : PySem.W.Frag} {H : Hp} {p : Addr} {L : List Int} {Q : VK} (h : RowIn H p L) (k : ∀ l H', Same H H' → H' l = some (.tup (L.map V.int)) → Q (.ref l) H') : rTupOf K [V.ref p] H Q := by
  unfold rTupOf
  rcases h with h | h
  · exact ⟨_, _, rfl, .inl ⟨SqL.of h, fun l hl => k l _ (Same.new hl) upd_same⟩⟩
  · exact ⟨_, _, rfl, .inr ⟨SqT.of h, k p H (fun _ _ z => z) h⟩⟩
/-- the rows of marks: head, par, note, stop, on, joined, number, and those of the depths -/
structure MD where
  r : Nat → List Int
  d : List (List Int)
/-- the fields of marks -/
def mkF (z : Nat → Addr) (dp : Addr) : List (Str × V) := [("head", .ref (z 0)), ("par", .ref (z 1)), ("depths", .ref dp), ("note", .ref (z 2)), ("stop", .ref (z 3)), ("on", .ref (z 4)), ("joined", .ref (z 5)), ("number", .ref (z 6))]
/-- refs to tuples of ints -/
def TupsAt (H : Hp) (qs : List Addr) (L : List (List Int)) : Prop := qs.length = L.length ∧ ∀ (i : Nat) (q : Addr) (l : List Int), qs[i]? = some q → L[i]? = some l → H q = some (.tup (l.map V.int))
theorem TupsAt.same {H H' : Hp} {qs : List Addr} {L : List (List Int)} (h : TupsAt H qs L) (s : Same H H') : TupsAt H' qs L := ⟨h.1, fun i q l a b => s _ _ (h.2 i q l a b)⟩
def RowsIn (H : Hp) (qs : List Addr) (L : List (List Int)) : Prop := qs.length = L.length ∧ ∀ (i : Nat) (q : Addr) (l : List Int), qs[i]? = some q → L[i]? = some l → RowIn H q l
theorem RowsIn.same {H H' : Hp} {qs : List Addr} {L : List (List Int)} (h : RowsIn H qs L) (s : Same H H') : RowsIn H' qs L := ⟨h.1, fun i q l a b => (h.2 i q l a b).same s⟩
theorem TupsAt.rows {H : Hp} {qs : List Addr} {L : List (List Int)} (h : TupsAt H qs L) : RowsIn H qs L := ⟨h.1, fun i q l a b => .inr (h.2 i q l a b)⟩
structure MkAt (K : PySem.W.Frag) (H : Hp) (x dx : Addr) (z : Nat → Addr) (dp : Addr) (dz : List Addr) (M : MD) : Prop where
  ins : H x = some (.ins (He.ga K "Marks") dx (mkF z dp))
  dep : H dp = some (.lst (dz.map V.ref))
  del : TupsAt H dz M.d
  el : ∀ j, j < 7 → H (z j) = some (.tup ((M.r j).map V.int))
theorem MkAt.same {K : PySem.W.Frag} {H H' : Hp} {x dx dp : Addr} {z : Nat → Addr} {dz : List Addr} {M : MD} (h : MkAt K H x dx z dp dz M) (s : Same H H') : MkAt K H' x dx z dp dz M := ⟨s _ _ h.ins, s _ _ h.dep, h.del.same s, fun j q => s _ _ (h.el j q)⟩
theorem mkF_put (a0 a1 dp a2 a3 a4 a5 a6 : Addr) : putF "number" (.ref a6) (putF "joined" (.ref a5) (putF "on" (.ref a4) (putF "stop" (.ref a3) (putF "note" (.ref a2) (putF "depths" (.ref dp) (putF "par" (.ref a1) (putF "head" (.ref a0) []))))))) = ([("head", V.ref a0), ("par", .ref a1), ("depths", .ref dp), ("note", .ref a2), ("stop", .ref a3), ("on", .ref a4), ("joined", .ref a5), ("number", .ref a6)] : List (Str × V)) := by
  rw [put_new "head" _ [] (by simp)]
  rw [put_new "par" _ _ (by simp only [List.nil_append, List.cons_append, List.mem_cons, List.not_mem_nil, or_false, forall_eq_or_imp, forall_eq]; decide +kernel)]
  rw [put_new "depths" _ _ (by simp only [List.nil_append, List.cons_append, List.mem_cons, List.not_mem_nil, or_false, forall_eq_or_imp, forall_eq]; decide +kernel)]
  rw [put_new "note" _ _ (by simp only [List.nil_append, List.cons_append, List.mem_cons, List.not_mem_nil, or_false, forall_eq_or_imp, forall_eq]; decide +kernel)]
  rw [put_new "stop" _ _ (by simp only [List.nil_append, List.cons_append, List.mem_cons, List.not_mem_nil, or_false, forall_eq_or_imp, forall_eq]; decide +kernel)]
  rw [put_new "on" _ _ (by simp only [List.nil_append, List.cons_append, List.mem_cons, List.not_mem_nil, or_false, forall_eq_or_imp, forall_eq]; decide +kernel)]
  rw [put_new "joined" _ _ (by simp only [List.nil_append, List.cons_append, List.mem_cons, List.not_mem_nil, or_false, forall_eq_or_imp, forall_eq]; decide +kernel)]
  rw [put_new "number" _ _ (by simp only [List.nil_append, List.cons_append, List.mem_cons, List.not_mem_nil, or_false, forall_eq_or_imp, forall_eq]; decide +kernel)]
  rfl
def spMarksInit (K : PySem.W.Frag) : Sp := fun vs H Q _ => ∃ (x dx pd : Addr) (p : Nat → Addr) (pz : List Addr) (M : MD), vs = [.ref x, .ref (p 0), .ref (p 1), .ref pd, .ref (p 2), .ref (p 3), .ref (p 4), .ref (p 5), .ref (p 6)] ∧ H x = some (.ins (He.ga K "Marks") dx []) ∧
  H pd = some (.lst (pz.map V.ref)) ∧ pz.length ≤ 100 ∧ RowsIn H pz M.d ∧ (∀ j, j < 7 → RowIn H (p j) (M.r j)) ∧ ∀ z dp dz H', H dp = Option.none → MkAt K H' x dx z dp dz M → But x H H' → Q .non H'
section
variable {P : Program} {w : World} {K : PySem.W.Frag} {mg : Str → Option Value} {base : Heap}
abbrev nsMarksInit : List Str := ["self", "head", "par", "depths", "note", "stop", "on", "joined", "number", "row"]
theorem scMarksInit : FnScope nsMarksInit ["self", "head", "par", "depths", "note", "stop", "on", "joined", "number"] (defScope sMarksInit) := ⟨rfl, rfl, rfl, by decide +kernel, rfl, by decide +kernel, by decide +kernel⟩
theorem met_Marks_init (t : T K mg) : Met P w K mg base 1 "Marks" "__init__" ["self", "head", "par", "depths", "note", "stop", "on", "joined", "number"] (spMarksInit K) := by
  refine mkMet t.d_Marks_init scMarksInit (fun vs H Q E h => ?_) (fun _ _ _ _ _ _ us hl => match us, hl with | [_, _, _, _, _, _, _, _, _], _ => rfl) fun cdv A outer s H vs Q E hr h => ?_
  · obtain ⟨x, dx, pd, p, pz, M, rfl, _⟩ := h; rfl
  obtain ⟨x, dx, pd, p, pz, M, rfl, hx, hpd, pzl, hpz, hp, k⟩ := h
  refine ⟨_, pss_cons (ps_fld (pv 0) (pe_callTy (call_tupK (K := K) rfl) rfl t.f_tuple (by decide +kernel) (pa_cons (pv 1) pa_nil)) rfl)
    (pss_cons (ps_fld (pv 0) (pe_callTy (call_tupK (K := K) rfl) rfl t.f_tuple (by decide +kernel) (pa_cons (pv 2) pa_nil)) rfl)
    (pss_cons (ps_fld (pv 0) (pe_lc (own := [("row", 9)]) (g := gName 9) (tt := tYes) rfl scMarksInit.nd (pi_list (pv 3)) (blkOk_by (own := [("row", 9)]) (N := nsMarksInit) (sc := defScope sMarksInit) (by decide +kernel)) (fun _ _ _ _ _ => pg_name (i := 9) scMarksInit.nd rfl (Or.inl rfl)) (fun _ _ _ _ _ => pts_nil) (fun _ _ _ _ _ => (pe_callTy (call_tupK (K := K) rfl) rfl t.f_tuple (by decide +kernel) (pa_cons (pv 9) pa_nil)))) rfl)
    (pss_cons (ps_fld (pv 0) (pe_callTy (call_tupK (K := K) rfl) rfl t.f_tuple (by decide +kernel) (pa_cons (pv 4) pa_nil)) rfl)
    (pss_cons (ps_fld (pv 0) (pe_callTy (call_tupK (K := K) rfl) rfl t.f_tuple (by decide +kernel) (pa_cons (pv 5) pa_nil)) rfl)
    (pss_cons (ps_fld (pv 0) (pe_callTy (call_tupK (K := K) rfl) rfl t.f_tuple (by decide +kernel) (pa_cons (pv 6) pa_nil)) rfl)
    (pss_cons (ps_fld (pv 0) (pe_callTy (call_tupK (K := K) rfl) rfl t.f_tuple (by decide +kernel) (pa_cons (pv 7) pa_nil)) rfl)
    (pss_one (ps_fld (pv 0) (pe_callTy (call_tupK (K := K) rfl) rfl t.f_tuple (by decide +kernel) (pa_cons (pv 8) pa_nil)) rfl)))))))), ?_⟩
  have l0 : ([] : List (Str × V)).length ≤ 0 := Nat.le_refl _
  have step : ∀ {Ha Hb : Hp} {fs fs' : List (Str × V)} {l : Addr} {L : List Int}, Same Ha Hb → Hb l = some (.tup (L.map V.int)) → Ha x = some (.ins (He.ga K "Marks") dx fs) → But x Ha (upd Hb x (.ins (He.ga K "Marks") dx fs')) ∧ upd Hb x (.ins (He.ga K "Marks") dx fs') l = some (.tup (L.map V.int)) ∧ l ≠ x := fun {Ha Hb fs fs' l L} s e hx => by
    have n : l ≠ x := ne_of e (s _ _ hx) (by intro z; cases z)
    exact ⟨fun c o z nc => by rw [upd_ne nc]; exact s _ _ z, by rw [upd_ne n]; exact e, n⟩
  refine ⟨_, rfl, ?_⟩
  show rTupOf K [V.ref (p 0)] _ _
  refine tupOf (L := M.r 0) (hp 0 (by decide)) fun a0 G0 t0 e0 => ⟨_, rfl, x, _, dx, _, rfl, t0 _ _ hx, t.c_Marks, t.n_Marks_head, (Nat.lt_of_le_of_lt l0 (by decide)), ?_⟩
  obtain ⟨c0, r0, n0⟩ := step (fs' := putF "head" (.ref a0) []) t0 e0 hx
  refine ⟨_, rfl, ?_⟩
  show rTupOf K [V.ref (p 1)] _ _
  refine tupOf (L := M.r 1) ((hp 1 (by decide)).but hx c0) fun a1 G1 t1 e1 => ⟨_, rfl, x, _, dx, _, rfl, t1 _ _ upd_same, t.c_Marks, t.n_Marks_par, (Nat.lt_of_le_of_lt (len_put_lt l0) (by decide)), ?_⟩
  obtain ⟨c1, r1, n1⟩ := step (fs' := putF "par" (.ref a1) (putF "head" (.ref a0) [])) t1 e1 upd_same
  have C1 := c0.trans c1
  have ndx : pd ≠ x := ne_of hpd hx (by intro z; cases z)
  refine ⟨_, rfl, pd, rfl, ⟨_, SqL.of (C1 _ _ hpd ndx)⟩, fun D hD => ?_⟩
  have hD0 : H D = Option.none := Sx.But.none C1 upd_same hD
  have hpz1 : RowsIn (upd G1 x (.ins (He.ga K "Marks") dx (putF "par" (.ref a1) (putF "head" (.ref a0) [])))) pz M.d := ⟨hpz.1, fun i q l e1 e2 => (hpz.2 i q l e1 e2).but hx C1⟩
  refine lc_list (K := K) (a := pd) (xs := pz.map V.ref) (g := gName 9) (fun i H' => (∃ zs : List Addr, H' D = some (.lst (zs.map V.ref)) ∧ zs.length = i ∧ ∀ (j : Nat) (q : Addr) (l : List Int), zs[j]? = some q → M.d[j]? = some l → H' q = some (.tup (l.map V.int))) ∧ Same (upd G1 x (.ins (He.ga K "Marks") dx (putF "par" (.ref a1) (putF "head" (.ref a0) [])))) H') ⟨⟨[], upd_same, rfl, fun j q l e => by simp at e⟩, Same.new hD⟩ (fun j H5 _ z => SqL.of (z.2 _ _ (C1 _ _ hpd ndx))) ?_ ?_
  · rintro i v H' hv ⟨⟨zs, hz, zl, hzs⟩, s1⟩
    rw [List.getElem?_map] at hv
    obtain ⟨pi, hpi, rfl⟩ := Option.map_eq_some_iff.mp hv
    have il := (List.getElem?_eq_some_iff.mp hpi).1
    have hli : M.d[i]? = some (M.d[i]'(by rw [← hpz.1]; exact il)) := List.getElem?_eq_getElem _
    generalize M.d[i]'(by rw [← hpz.1]; exact il) = li at hli
    refine ⟨rfl, ?_⟩
    refine ⟨_, rfl, ?_⟩
    show rTupOf K [V.ref pi] _ _
    refine tupOf (L := li) ((hpz1.2 i pi li hpi hli).same s1) fun q G s2 e2 => ?_
    have hz2 := s2 _ _ hz
    have nqD : q ≠ D := ne_of e2 hz2 (by intro z; cases z)
    refine ⟨_, hz2, by rw [List.length_map]; exact small1 (by omega), ⟨zs ++ [q], by rw [upd_same, List.map_append]; rfl, by rw [List.length_append, zl]; rfl, fun j q' l e el => ?_⟩, ?_⟩
    · rcases get_snoc zl e with ⟨q1, q2⟩ | ⟨rfl, rfl⟩
      · have e3 := s2 _ _ (hzs j q' l q2 el)
        rw [upd_ne (ne_of e3 hz2 (by intro z; cases z))]
        exact e3
      · rw [hli] at el
        cases el
        rw [upd_ne nqD]; exact e2
    · intro c o z
      rw [upd_ne (ne_of_none z hD)]
      exact s2 _ _ (s1 _ _ z)
  rintro G2 ⟨⟨zs, hz, zl, hzs⟩, s2⟩
  rw [List.length_map] at zl
  have hx2 := s2 _ _ (upd_same (H := G1) (a := x))
  refine ⟨_, rfl, x, _, dx, _, rfl, hx2, t.c_Marks, t.n_Marks_depths, (Nat.lt_of_le_of_lt (len_put_lt (len_put_lt l0)) (by decide)), ?_⟩
  have nDx : D ≠ x := ne_of hz hx2 (by intro z; cases z)
  have c2 : But x (upd G1 x (.ins (He.ga K "Marks") dx (putF "par" (.ref a1) (putF "head" (.ref a0) [])))) (upd G2 x (.ins (He.ga K "Marks") dx (putF "depths" (.ref D) (putF "par" (.ref a1) (putF "head" (.ref a0) []))))) := fun c o e n => by rw [upd_ne n]; exact s2 _ _ e
  have rD : upd G2 x (.ins (He.ga K "Marks") dx (putF "depths" (.ref D) (putF "par" (.ref a1) (putF "head" (.ref a0) [])))) D = some (.lst (zs.map V.ref)) := by rw [upd_ne nDx]; exact hz
  have rT : ∀ (j : Nat) (q : Addr) (l : List Int), zs[j]? = some q → M.d[j]? = some l → q ≠ x ∧ upd G2 x (.ins (He.ga K "Marks") dx (putF "depths" (.ref D) (putF "par" (.ref a1) (putF "head" (.ref a0) [])))) q = some (.tup (l.map V.int)) := fun j q l e1 e2 => by
    have e3 := hzs j q l e1 e2
    have n := ne_of e3 hx2 (by intro z; cases z)
    exact ⟨n, by rw [upd_ne n]; exact e3⟩
  have C2 := C1.trans c2
  refine ⟨_, rfl, ?_⟩
  show rTupOf K [V.ref (p 2)] _ _
  refine tupOf (L := M.r 2) ((hp 2 (by decide)).but hx C2) fun a5 G5 t5 e5 => ⟨_, rfl, x, _, dx, _, rfl, t5 _ _ upd_same, t.c_Marks, t.n_Marks_note, (Nat.lt_of_le_of_lt (len_put_lt (len_put_lt (len_put_lt l0))) (by decide)), ?_⟩
  obtain ⟨c5, r5, n5⟩ := step (fs' := putF "note" (.ref a5) (putF "depths" (.ref D) (putF "par" (.ref a1) (putF "head" (.ref a0) [])))) t5 e5 upd_same
  have C5 := C2.trans c5
  refine ⟨_, rfl, ?_⟩
  show rTupOf K [V.ref (p 3)] _ _
  refine tupOf (L := M.r 3) ((hp 3 (by decide)).but hx C5) fun a6 G6 t6 e6 => ⟨_, rfl, x, _, dx, _, rfl, t6 _ _ upd_same, t.c_Marks, t.n_Marks_stop, (Nat.lt_of_le_of_lt (len_put_lt (len_put_lt (len_put_lt (len_put_lt l0)))) (by decide)), ?_⟩
  obtain ⟨c6, r6, n6⟩ := step (fs' := putF "stop" (.ref a6) (putF "note" (.ref a5) (putF "depths" (.ref D) (putF "par" (.ref a1) (putF "head" (.ref a0) []))))) t6 e6 upd_same
  have C6 := C5.trans c6
  refine ⟨_, rfl, ?_⟩
  show rTupOf K [V.ref (p 4)] _ _
  refine tupOf (L := M.r 4) ((hp 4 (by decide)).but hx C6) fun a7 G7 t7 e7 => ⟨_, rfl, x, _, dx, _, rfl, t7 _ _ upd_same, t.c_Marks, t.n_Marks_on, (Nat.lt_of_le_of_lt (len_put_lt (len_put_lt (len_put_lt (len_put_lt (len_put_lt l0))))) (by decide)), ?_⟩
  obtain ⟨c7, r7, n7⟩ := step (fs' := putF "on" (.ref a7) (putF "stop" (.ref a6) (putF "note" (.ref a5) (putF "depths" (.ref D) (putF "par" (.ref a1) (putF "head" (.ref a0) [])))))) t7 e7 upd_same
  have C7 := C6.trans c7
  refine ⟨_, rfl, ?_⟩
  show rTupOf K [V.ref (p 5)] _ _
  refine tupOf (L := M.r 5) ((hp 5 (by decide)).but hx C7) fun a8 G8 t8 e8 => ⟨_, rfl, x, _, dx, _, rfl, t8 _ _ upd_same, t.c_Marks, t.n_Marks_joined, (Nat.lt_of_le_of_lt (len_put_lt (len_put_lt (len_put_lt (len_put_lt (len_put_lt (len_put_lt l0)))))) (by decide)), ?_⟩
  obtain ⟨c8, r8, n8⟩ := step (fs' := putF "joined" (.ref a8) (putF "on" (.ref a7) (putF "stop" (.ref a6) (putF "note" (.ref a5) (putF "depths" (.ref D) (putF "par" (.ref a1) (putF "head" (.ref a0) []))))))) t8 e8 upd_same
  have C8 := C7.trans c8
  refine ⟨_, rfl, ?_⟩
  show rTupOf K [V.ref (p 6)] _ _
  refine tupOf (L := M.r 6) ((hp 6 (by decide)).but hx C8) fun a9 G9 t9 e9 => ⟨_, rfl, x, _, dx, _, rfl, t9 _ _ upd_same, t.c_Marks, t.n_Marks_number, (Nat.lt_of_le_of_lt (len_put_lt (len_put_lt (len_put_lt (len_put_lt (len_put_lt (len_put_lt (len_put_lt l0))))))) (by decide)), ?_⟩
  obtain ⟨c9, r9, n9⟩ := step (fs' := putF "number" (.ref a9) (putF "joined" (.ref a8) (putF "on" (.ref a7) (putF "stop" (.ref a6) (putF "note" (.ref a5) (putF "depths" (.ref D) (putF "par" (.ref a1) (putF "head" (.ref a0) [])))))))) t9 e9 upd_same
  have C9 := C8.trans c9
  refine k (fun j => [a0, a1, a5, a6, a7, a8, a9].getD j 0) D zs _ hD0 ⟨?_, ?_, ⟨by rw [zl, hpz.1], fun j q l e1 e2 => ?_⟩, fun j hj => ?_⟩ C9
  · rw [upd_same, mkF_put]
    rfl
  · exact (c9 _ _ (c8 _ _ (c7 _ _ (c6 _ _ (c5 _ _ rD nDx) nDx) nDx) nDx) nDx)
  · obtain ⟨n, e⟩ := rT j q l e1 e2
    exact (c9 _ _ (c8 _ _ (c7 _ _ (c6 _ _ (c5 _ _ e n) n) n) n) n)
  · have : j = 0 ∨ j = 1 ∨ j = 2 ∨ j = 3 ∨ j = 4 ∨ j = 5 ∨ j = 6 := by omega
    rcases this with rfl | rfl | rfl | rfl | rfl | rfl | rfl
    · exact (c9 _ _ (c8 _ _ (c7 _ _ (c6 _ _ (c5 _ _ (c2 _ _ (c1 _ _ r0 n0) n0) n0) n0) n0) n0) n0)
    · exact (c9 _ _ (c8 _ _ (c7 _ _ (c6 _ _ (c5 _ _ (c2 _ _ r1 n1) n1) n1) n1) n1) n1)
    · exact (c9 _ _ (c8 _ _ (c7 _ _ (c6 _ _ r5 n5) n5) n5) n5)
    · exact (c9 _ _ (c8 _ _ (c7 _ _ r6 n6) n6) n6)
    · exact (c9 _ _ (c8 _ _ r7 n7) n7)
    · exact (c9 _ _ r8 n8)
    · exact r9
end
end Sx

set_option Elab.async false
set_option linter.all false
set_option maxRecDepth 100000
set_option maxHeartbeats 2000000
namespace Sx
open PySem PySem.Spec PyProof.Rows L2 SxA
theorem lk0 (z : Nat → Addr) (dp : Addr) : (mkF z dp).lookup ("head" : Str) = some (.ref (z 0)) := rfl
theorem lk1 (z : Nat → Addr) (dp : Addr) : (mkF z dp).lookup ("par" : Str) = some (.ref (z 1)) := rfl
theorem lkd (z : Nat → Addr) (dp : Addr) : (mkF z dp).lookup ("depths" : Str) = some (.ref dp) := rfl
theorem lk2 (z : Nat → Addr) (dp : Addr) : (mkF z dp).lookup ("note" : Str) = some (.ref (z 2)) := rfl
theorem lk3 (z : Nat → Addr) (dp : Addr) : (mkF z dp).lookup ("stop" : Str) = some (.ref (z 3)) := rfl
theorem lk4 (z : Nat → Addr) (dp : Addr) : (mkF z dp).lookup ("on" : Str) = some (.ref (z 4)) := rfl
theorem lk5 (z : Nat → Addr) (dp : Addr) : (mkF z dp).lookup ("joined" : Str) = some (.ref (z 5)) := rfl
theorem lk6 (z : Nat → Addr) (dp : Addr) : (mkF z dp).lookup ("number" : Str) = some (.ref (z 6)) := rfl
def spCopy (K : PySem.W.Frag) : Sp := fun vs H Q _ => ∃ (x dx : Addr) (z : Nat → Addr) (dp : Addr) (dz : List Addr) (M : MD), vs = [.ref x] ∧ MkAt K H x dx z dp dz M ∧ dz.length ≤ 100 ∧ ∀ y dy z' dp' dz' H', H y = Option.none → Same H H' → MkAt K H' y dy z' dp' dz' M → Q (.ref y) H'
def sizesB (w h s : Int) : Bool := (decide (8 ≤ w) && decide (w ≤ 40)) && ((decide (3 ≤ h) && decide (h ≤ 30)) && (decide (1 ≤ s) && decide (s ≤ 50)))
def spSizes : Sp := fun vs H Q _ => ∃ w h s : Int, vs = [.int w, .int h, .int s] ∧ Q (.bl (sizesB w h s)) H
def zrow (z : Nat → Addr) (dz : List Addr) : List Addr := [z 0, z 1, z 2, z 3, z 4, z 5, z 6] ++ dz
def MD.rows (M : MD) : List (List Int) := [M.r 0, M.r 1, M.r 2, M.r 3, M.r 4, M.r 5, M.r 6] ++ M.d
theorem MkAt.tups {K : PySem.W.Frag} {H : Hp} {x dx dp : Addr} {z : Nat → Addr} {dz : List Addr} {M : MD} (h : MkAt K H x dx z dp dz M) : TupsAt H (zrow z dz) M.rows := by
  have hl := h.del.1
  refine ⟨by unfold zrow MD.rows; rw [List.length_append, List.length_append, hl]; rfl, fun i q l e1 e2 => ?_⟩
  unfold zrow at e1
  unfold MD.rows at e2
  match i, e1, e2 with
  | 0, e1, e2 => cases e1; cases e2; exact h.el 0 (by decide)
  | 1, e1, e2 => cases e1; cases e2; exact h.el 1 (by decide)
  | 2, e1, e2 => cases e1; cases e2; exact h.el 2 (by decide)
  | 3, e1, e2 => cases e1; cases e2; exact h.el 3 (by decide)
  | 4, e1, e2 => cases e1; cases e2; exact h.el 4 (by decide)
  | 5, e1, e2 => cases e1; cases e2; exact h.el 5 (by decide)
  | 6, e1, e2 => cases e1; cases e2; exact h.el 6 (by decide)
  | i + 7, e1, e2 => exact h.del.2 i q l e1 e2
def spRowsOf (K : PySem.W.Frag) : Sp := fun vs H Q _ => ∃ (x dx : Addr) (z : Nat → Addr) (dp : Addr) (dz : List Addr) (M : MD), vs = [.ref x] ∧ MkAt K H x dx z dp dz M ∧ dz.length ≤ 100 ∧ ∀ R H', H R = Option.none → Same H H' → H' R = some (.lst ((zrow z dz).map V.ref)) → Q (.ref R) H'
def cellB (c : Int) : Bool := decide (0 ≤ c) && decide (c ≤ 63)
def markB (l : List Int) : Bool := (decide (1 ≤ (l.length : Int)) && decide ((l.length : Int) ≤ 2)) && (!decide (V.int (l.headD 0) = V.int 0) && l.all cellB)
def spIsMark (K : PySem.W.Frag) : Sp := fun vs H Q _ => ∃ (p : Addr) (l : List Int), vs = [.ref p] ∧ H p = some (.tup (l.map V.int)) ∧ ∀ H', Same H H' → Q (.bl (markB l)) H'
section
variable {P : Program} {w : World} {K : PySem.W.Frag} {mg : Str → Option Value} {base : Heap}
abbrev nsCopyOfMarks : List Str := ["marks"]
theorem scCopyOfMarks : FnScope nsCopyOfMarks ["marks"] (defScope sCopyOfMarks) := ⟨rfl, rfl, rfl, by decide +kernel, rfl, by decide +kernel, by decide +kernel⟩
theorem ok_copy_of_marks (t : T K mg) : Ok P w K mg base 3 "copy_of_marks" ["marks"] (spCopy K) := by
  refine mkOk t.d_copy_of_marks t.g_copy_of_marks scCopyOfMarks (fun vs H Q E h => ?_) (fun _ _ _ _ _ _ us hl => match us, hl with | [_], _ => rfl) fun cdv A outer s H vs Q E hr h => ?_
  · obtain ⟨x, dx, z, dp, dz, M, rfl, _⟩ := h; rfl
  obtain ⟨x, dx, z, dp, dz, M, rfl, hM, hdl, k⟩ := h
  have hr2 : Room 2 _ := hr
  refine ⟨_, pss_one (ps_ret (pe_mk (met_Marks_init t) t.m_Marks t.g_Marks hr2 rfl (pa_cons (pe_fld (pv 0) rfl) (pa_cons (pe_fld (pv 0) rfl) (pa_cons (pe_fld (pv 0) rfl) (pa_cons (pe_fld (pv 0) rfl) (pa_cons (pe_fld (pv 0) rfl) (pa_cons (pe_fld (pv 0) rfl) (pa_cons (pe_fld (pv 0) rfl) (pa_cons (pe_fld (pv 0) rfl) pa_nil)))))))))), ?_⟩
  refine ⟨_, rfl, x, _, dx, _, _, rfl, hM.ins, t.c_Marks, t.n_Marks_head, lk0 _ _, _, rfl, x, _, dx, _, _, rfl, hM.ins, t.c_Marks, t.n_Marks_par, lk1 _ _, _, rfl, x, _, dx, _, _, rfl, hM.ins, t.c_Marks, t.n_Marks_depths, lkd _ _, _, rfl, x, _, dx, _, _, rfl, hM.ins, t.c_Marks, t.n_Marks_note, lk2 _ _, ?_⟩
  refine ⟨_, rfl, x, _, dx, _, _, rfl, hM.ins, t.c_Marks, t.n_Marks_stop, lk3 _ _, _, rfl, x, _, dx, _, _, rfl, hM.ins, t.c_Marks, t.n_Marks_on, lk4 _ _, _, rfl, x, _, dx, _, _, rfl, hM.ins, t.c_Marks, t.n_Marks_joined, lk5 _ _, _, rfl, x, _, dx, _, _, rfl, hM.ins, t.c_Marks, t.n_Marks_number, lk6 _ _, fun y dy ny ndy ney => ?_⟩
  have s0 : Same H (upd (upd H dy (.own y)) y (.ins (He.ga K "Marks") dy [])) := Same.put (Same.new ndy) ny
  refine ⟨y, dy, dp, z, dz, M, rfl, upd_same, s0 _ _ hM.dep, hdl, (hM.del.same s0).rows, fun j hj => .inr (s0 _ _ (hM.el j hj)), fun z' dp' dz' H1 _ hM' B => ⟨rfl, k y dy z' dp' dz' H1 ny (fun c o e => B _ _ (s0 _ _ e) (ne_of_none e ny)) hM'⟩⟩
abbrev nsAreSizes : List Str := ["width", "height", "size"]
theorem scAreSizes : FnScope nsAreSizes ["width", "height", "size"] (defScope sAreSizes) := ⟨rfl, rfl, rfl, by decide +kernel, rfl, by decide +kernel, by decide +kernel⟩
theorem ok_are_sizes (t : T K mg) : Ok P w K mg base 1 "are_sizes" ["width", "height", "size"] spSizes := by
  refine mkOk t.d_are_sizes t.g_are_sizes scAreSizes (fun vs H Q E h => ?_) (fun _ _ _ _ _ _ us hl => match us, hl with | [_, _, _], _ => rfl) fun cdv A outer s H vs Q E hr h => ?_
  · obtain ⟨w, h, s, rfl, _⟩ := h; rfl
  obtain ⟨w, h, sz, rfl, k⟩ := h
  obtain ⟨_, hk_LEAST_WIDTH⟩ := t.i_LEAST_WIDTH
  obtain ⟨_, hk_MOST_WIDTH⟩ := t.i_MOST_WIDTH
  obtain ⟨_, hk_LEAST_HEIGHT⟩ := t.i_LEAST_HEIGHT
  obtain ⟨_, hk_MOST_HEIGHT⟩ := t.i_MOST_HEIGHT
  obtain ⟨_, hk_MOST_SIZE⟩ := t.i_MOST_SIZE
  refine ⟨_, pss_one (ps_ret (pe_and (pe_chain op_le op_le (pgi rfl hk_LEAST_WIDTH) (pv 0) (pgi rfl hk_MOST_WIDTH)) (pe_and (pe_chain op_le op_le (pgi rfl hk_LEAST_HEIGHT) (pv 1) (pgi rfl hk_MOST_HEIGHT)) (pe_one (pe_chain op_le op_le pe_int (pv 2) (pgi rfl hk_MOST_SIZE)))))), ?_⟩
  have k' : ∀ b : Bool, sizesB w h sz = b → Q (.bl b) H := fun b e => e ▸ k
  unfold sizesB at k'
  refine ⟨_, rfl, _, _, rfl, rfl, _, rfl, ?_⟩
  refine ite2 (fun h1 => ?_) (fun h1 => ⟨_, rfl, iteF (k' _ (by rw [Bool.not_eq_true] at h1; simp only [h1, Bool.false_and]))⟩)
  refine ⟨_, _, rfl, rfl, _, rfl, ?_⟩
  refine ite2 (fun h2 => ?_) (fun h2 => k' _ (by rw [Bool.not_eq_true] at h2; simp only [h2, Bool.false_and, Bool.and_false]))
  refine ⟨_, rfl, _, _, rfl, rfl, _, rfl, ?_⟩
  refine ite2 (fun h3 => ?_) (fun h3 => ⟨_, rfl, iteF (k' _ (by rw [Bool.not_eq_true] at h3; simp only [h3, Bool.false_and, Bool.and_false]))⟩)
  refine ⟨_, _, rfl, rfl, _, rfl, ?_⟩
  refine ite2 (fun h4 => ?_) (fun h4 => k' _ (by rw [Bool.not_eq_true] at h4; simp only [h4, Bool.false_and, Bool.and_false]))
  refine ⟨_, rfl, _, _, rfl, rfl, _, rfl, ?_⟩
  refine ite2 (fun h5 => ?_) (fun h5 => k' _ (by rw [Bool.not_eq_true] at h5; simp only [h5, Bool.false_and, Bool.and_false]))
  refine ⟨_, _, rfl, rfl, k' _ ?_⟩
  rw [h1, h2, h3, h4, h5]
  rfl
abbrev nsRowsOfMarks : List Str := ["marks", "rows"]
theorem scRowsOfMarks : FnScope nsRowsOfMarks ["marks"] (defScope sRowsOfMarks) := ⟨rfl, rfl, rfl, by decide +kernel, rfl, by decide +kernel, by decide +kernel⟩
theorem ok_rows_of_marks (t : T K mg) : Ok P w K mg base 1 "rows_of_marks" ["marks"] (spRowsOf K) := by
  refine mkOk t.d_rows_of_marks t.g_rows_of_marks scRowsOfMarks (fun vs H Q E h => ?_) (fun _ _ _ _ _ _ us hl => match us, hl with | [_], _ => rfl) fun cdv A outer s H vs Q E hr h => ?_
  · obtain ⟨x, dx, z, dp, dz, M, rfl, _⟩ := h; rfl
  obtain ⟨x, dx, z, dp, dz, M, rfl, hM, hdl, k⟩ := h
  refine ⟨_, pss_cons (ps_set (i := 1) scRowsOfMarks.nd rfl (Or.inl rfl) (pe_lst (pa_cons (pe_fld (pv 0) rfl) (pa_cons (pe_fld (pv 0) rfl) (pa_cons (pe_fld (pv 0) rfl) (pa_cons (pe_fld (pv 0) rfl) (pa_cons (pe_fld (pv 0) rfl) (pa_cons (pe_fld (pv 0) rfl) (pa_cons (pe_fld (pv 0) rfl) pa_nil)))))))))
    (pss_one (ps_ret (pe_op op_cat (pv 1) (pe_fld (pv 0) rfl)))), ?_⟩
  refine ⟨_, rfl, x, _, dx, _, _, rfl, hM.ins, t.c_Marks, t.n_Marks_head, lk0 _ _, _, rfl, x, _, dx, _, _, rfl, hM.ins, t.c_Marks, t.n_Marks_par, lk1 _ _, _, rfl, x, _, dx, _, _, rfl, hM.ins, t.c_Marks, t.n_Marks_note, lk2 _ _, ?_⟩
  refine ⟨_, rfl, x, _, dx, _, _, rfl, hM.ins, t.c_Marks, t.n_Marks_stop, lk3 _ _, _, rfl, x, _, dx, _, _, rfl, hM.ins, t.c_Marks, t.n_Marks_on, lk4 _ _, _, rfl, x, _, dx, _, _, rfl, hM.ins, t.c_Marks, t.n_Marks_joined, lk5 _ _, _, rfl, x, _, dx, _, _, rfl, hM.ins, t.c_Marks, t.n_Marks_number, lk6 _ _, ⟨(by show 7 ≤ sizeLine; decide), fun q hq => ?_⟩⟩
  have hM1 := hM.same (Same.new (o := .lst [V.ref (z 0), .ref (z 1), .ref (z 2), .ref (z 3), .ref (z 4), .ref (z 5), .ref (z 6)]) hq)
  refine ⟨_, rfl, _, rfl, x, _, dx, _, _, rfl, hM1.ins, t.c_Marks, t.n_Marks_depths, lkd _ _, ?_⟩
  refine ⟨q, dp, _, _, rfl, rfl, upd_same, hM1.dep, by rw [List.length_map]; exact Nat.le_trans (show 7 + dz.length ≤ 1000 by omega) (by decide), fun R hR => ?_⟩
  exact k R _ (Sx.Same.none (Same.new hq) _ hR) (fun c o e => Same.new hR _ _ (Same.new hq _ _ e)) upd_same
abbrev nsIsMark : List Str := ["row", "cell"]
theorem scIsMark : FnScope nsIsMark ["row"] (defScope sIsMark) := ⟨rfl, rfl, rfl, by decide +kernel, rfl, by decide +kernel, by decide +kernel⟩
theorem ok_is_mark (t : T K mg) : Ok P w K mg base 1 "is_mark" ["row"] (spIsMark K) := by
  obtain ⟨_, hk_MOST_MARK_CELLS⟩ := t.i_MOST_MARK_CELLS
  obtain ⟨_, hk_MOST_CELL⟩ := t.i_MOST_CELL
  refine mkOk t.d_is_mark t.g_is_mark scIsMark (fun vs H Q E h => ?_) (fun _ _ _ _ _ _ us hl => match us, hl with | [_], _ => rfl) fun cdv A outer s H vs Q E hr h => ?_
  · obtain ⟨p, l, rfl, _⟩ := h; rfl
  obtain ⟨p, l, rfl, hp, k⟩ := h
  refine ⟨_, pss_one (ps_ret (pe_and (pe_chain op_le op_le pe_int (pe_callB call_len_seq rfl t.f_len boot_len (pa_cons (pv 0) pa_nil)) (pgi rfl hk_MOST_MARK_CELLS)) (pe_and (pe_cmpR op_ne (pe_ix ix_tup (pv 0) pe_int (fun _ _ => rfl)) pe_int (nomark _)) (pe_one (pe_callB (cr_all rfl) rfl t.f_all (by decide +kernel) (pa_cons (pe_lc (own := [("cell", 1)]) (g := gName 1) (tt := tYes) rfl scIsMark.nd (pi_tup (pv 0)) (blkOk_by (own := [("cell", 1)]) (N := nsIsMark) (sc := defScope sIsMark) (by decide +kernel)) (fun _ _ _ _ _ => pg_name (i := 1) scIsMark.nd rfl (Or.inl rfl)) (fun _ _ _ _ _ => pts_nil) (fun _ _ _ _ _ => (pe_chain op_le op_le pe_int (pv 1) (pgi rfl hk_MOST_CELL)))) pa_nil)))))), ?_⟩
  have k' : ∀ (b : Bool) (H' : Hp), Same H H' → markB l = b → Q (.bl b) H' := fun b H' s e => e ▸ k H' s
  unfold markB at k'
  have sr : Same H H := fun _ _ z => z
  refine ⟨_, rfl, p, _, rfl, .inr (SqT.of hp), _, _, rfl, rfl, _, rfl, ?_⟩
  rw [List.length_map]
  refine ite2 (fun h1 => ?_) (fun h1 => ⟨_, rfl, iteF (k' _ _ sr (by rw [Bool.not_eq_true] at h1; simp only [h1, Bool.false_and]))⟩)
  refine ⟨_, _, rfl, rfl, _, rfl, ?_⟩
  refine ite2 (fun h2 => ?_) (fun h2 => k' _ _ sr (by rw [Bool.not_eq_true] at h2; simp only [h2, Bool.false_and, Bool.and_false]))
  have l1 : 1 ≤ l.length := by have := of_decide_eq_true h1; omega
  have l2 : l.length ≤ 2 := by have := of_decide_eq_true h2; omega
  have a0 : (l.map V.int)[0]? = some (.int (l.headD 0)) := by
    cases l with
    | nil => exact absurd l1 (by decide)
    | cons c r => rfl
  refine ⟨_, rfl, p, _, _, _, rfl, rfl, SqT.of hp, atI_nat (j := 0) a0, rfl, _, rfl, ?_⟩
  refine ite2 (fun h3 => ?_) (fun h3 => k' _ _ sr (by rw [Bool.not_eq_true] at h3; simp only [h3, Bool.false_and, Bool.and_false]))
  refine ⟨_, rfl, p, rfl, ⟨_, SqT.of hp⟩, fun D hD => ?_⟩
  refine lc_tup (K := K) (a := p) (xs := l.map V.int) (g := gName 1) (fun i H' => H' D = some (.lst (((l.take i).map cellB).map V.bl)) ∧ Same H H') ⟨upd_same, Same.new hD⟩ (fun i H5 _ z => SqT.of (z.2 _ _ hp)) ?_ ?_
  · rintro i v H' hv ⟨hd, s1⟩
    rw [List.getElem?_map] at hv
    obtain ⟨c, hc, rfl⟩ := Option.map_eq_some_iff.mp hv
    have il := (List.getElem?_eq_some_iff.mp hc).1
    have fin : ∀ b : Bool, cellB c = b → ∃ acc, H' D = some (.lst acc) ∧ acc.length < sizeLine ∧ (upd H' D (.lst (acc ++ [V.bl b]))) D = some (.lst (((l.take (i + 1)).map cellB).map V.bl)) ∧ Same H (upd H' D (.lst (acc ++ [V.bl b]))) := fun b e => by
      refine ⟨_, hd, ?_, ?_, fun c o e => by rw [upd_ne (ne_of_none e hD)]; exact s1 _ _ e⟩
      · rw [List.length_map, List.length_map, List.length_take]
        exact small1 (by omega)
      · rw [upd_same, List.take_add_one, hc, List.map_append, List.map_append, ← e]
        rfl
    refine ⟨rfl, ?_⟩
    refine ⟨_, rfl, _, _, rfl, rfl, _, rfl, ?_⟩
    refine ite2 (fun h4 => ?_) (fun h4 => fin _ (by unfold cellB; rw [Bool.not_eq_true] at h4; rw [h4]; rfl))
    refine ⟨_, _, rfl, rfl, fin _ ?_⟩
    unfold cellB
    rw [h4]
    rfl
  rintro H' ⟨hd, s1⟩
  rw [List.length_map, List.take_length] at hd
  refine ⟨D, l.map cellB, rfl, SqL.of hd, k' _ _ s1 ?_⟩
  rw [h1, h2, h3]
  simp
end
end Sx

set_option Elab.async false
set_option linter.all false
set_option maxRecDepth 100000
set_option maxHeartbeats 1000000
namespace Sx
open PySem PySem.Spec PyProof.Rows L2 SxA
theorem sl_tupAK {X : Cx} {K : PySem.W.Frag} (h : X.K = K) : SlR X (rSlA K) := by
  subst h
  exact sl_tupA
theorem op_eqDK {X : Cx} {K : PySem.W.Frag} (h : X.K = K) (hu : X.A.units + 64 < cLine) : OpR X (compareOp .Eq) (rEqD K) := by
  subst h
  exact op_eqD hu
def rLenQ (K : PySem.W.Frag) : List V → Hp → VK → Prop := fun xs H Q => ∃ p ys, xs = [V.ref p] ∧ (SqL K H p ys ∨ SqT K H p ys) ∧ Q (V.int ((ys.length : Nat) : Int)) H
theorem call_lenK {X : Cx} {K : PySem.W.Frag} (h : X.K = K) : CallR X (.builtin "len") (rLenQ K) := by
  subst h
  exact call_len_seq
/-! ### tuples of ints as data -/
def pTI (cs : List Int) : PyData := .tuple (cs.map PyData.int)
theorem eqv_ti (xs ys : List Int) : PyData.eqv (pTI xs) (pTI ys) = decide (xs = ys) := by
  unfold pTI
  rw [PyData.eqv]
  exact eqvAll_ints xs ys
theorem shaped_ti (xs : List Int) : SeqAt.shaped (pTI xs) = true := by
  have h1 := dep_ints xs
  unfold SeqAt.shaped pTI
  simp [PyData.canLay0, PyData.canLayAll0, PyData.depth, PyData.depthAll, lay_ints]
  omega
theorem dp_ti {K : PySem.W.Frag} {H : Hp} {a : Addr} {xs : List Int} (h : SqT K H a (xs.map V.int)) : Dp K H (.ref a) (pTI xs) := .tup h (dpAll_ints K H xs)
theorem eqT {K : PySem.W.Frag} {H : Hp} {p q : Addr} {xs ys : List Int} {Q : VK} (hp : H p = some (.tup (xs.map V.int))) (hq : H q = some (.tup (ys.map V.int))) (k : Q (.bl (decide (xs = ys))) H) : rEqD K (.ref p) (.ref q) H Q :=
  ⟨_, _, dp_ti (SqT.of hp), dp_ti (SqT.of hq), shaped_ti _, shaped_ti _, by rw [eqv_ti]; exact k⟩
/-- the first n places of a tuple of ints -/
theorem slT {K : PySem.W.Frag} {H : Hp} {p : Addr} {xs : List Int} {n : Nat} {Q : VK} (hp : H p = some (.tup (xs.map V.int))) (k : ∀ q H', Same H H' → H' q = some (.tup ((xs.take n).map V.int)) → Q (.ref q) H') : rSlA K (.ref p) none (some (n : Int)) H Q := by
  have e1 : HT.sIx (xs.map V.int).length 0 (Option.none) = 0 := rfl
  have e2 : HT.sIx (xs.map V.int).length (xs.map V.int).length (some (n : Int)) = min n (xs.map V.int).length := HT.sIx_nat _ _ _
  refine ⟨p, _, rfl, SqT.of hp, fun h => ?_, fun h q hq => ?_⟩
  · rw [e2, List.length_map] at h
    have : xs.length ≤ n := by omega
    exact k p H (fun _ _ z => z) (by rw [List.take_of_length_le this]; exact hp)
  · refine k q _ (Same.new hq) ?_
    rw [upd_same]
    unfold cutV
    rw [e1, e2, List.drop_zero, Nat.sub_zero, ← List.map_take, List.length_map]
    by_cases c : n ≤ xs.length
    · rw [Nat.min_eq_left c]
    · rw [Nat.min_eq_right (by omega), List.take_length, List.take_of_length_le (by omega)]
theorem refsAt {qs : List Addr} {i : Nat} {y : V} (h : (qs.map V.ref)[i]? = some y) : ∃ q, qs[i]? = some q ∧ y = V.ref q := by
  rw [List.getElem?_map] at h
  cases z : qs[i]? with
  | none => rw [z] at h; cases h
  | some q => rw [z] at h; exact ⟨q, rfl, (Option.some.inj h).symm⟩
/-- row j begins with row i, and is another -/
def tstB (L : List (List Int)) (i j : Nat) : Bool := decide (j ≠ i) && decide ((L.getD j []).take (L.getD i []).length = L.getD i [])
def anyB (L : List (List Int)) (i : Nat) : Bool := (List.range L.length).any (tstB L i)
def apartB (L : List (List Int)) : Bool := !(List.range L.length).any (anyB L)
def spApart (K : PySem.W.Frag) : Sp := fun vs H Q _ => ∃ (R : Addr) (qs : List Addr) (L : List (List Int)), vs = [.ref R] ∧ H R = some (.lst (qs.map V.ref)) ∧ qs.length ≤ 1000 ∧ TupsAt H qs L ∧ ∀ H', Same H H' → Q (.bl (apartB L)) H'
theorem range_any (p : Nat → Bool) (n : Nat) : (List.range (n + 1)).any p = ((List.range n).any p || p n) := by
  rw [List.range_succ, List.any_append]
  simp
section
variable {P : Program} {w : World} {K : PySem.W.Frag} {mg : Str → Option Value} {base : Heap}
abbrev nsAreApart : List Str := ["rows", "at", "row", "place", "other"]
theorem scAreApart : FnScope nsAreApart ["rows"] (defScope sAreApart) := ⟨rfl, rfl, rfl, by decide +kernel, rfl, by decide +kernel, by decide +kernel⟩
theorem ok_are_apart (t : T K mg) : Ok P w K mg base 1 "are_apart" ["rows"] (spApart K) := by
  refine mkOk t.d_are_apart t.g_are_apart scAreApart (fun vs H Q E h => ?_) (fun _ _ _ _ _ _ us hl => match us, hl with | [_], _ => rfl) fun cdv A outer s H vs Q E hr h => ?_
  · obtain ⟨R, qs, L, rfl, _⟩ := h; rfl
  obtain ⟨R, qs, L, rfl, hR, ql, ⟨qL, hq⟩, k⟩ := h
  refine ⟨_, pss_cons (ps_for PassesOwn.never rfl (pi_enum (by rfl) t.f_enumerate (pa_cons (pv 0) pa_nil)) (pg_tup rfl (pgs_cons (pg_name (i := 1) scAreApart.nd rfl (Or.inr rfl)) (pgs_cons (pg_name (i := 2) scAreApart.nd rfl (Or.inr rfl)) pgs_nil)))
      (pss_one (ps_if (pt_val (pe_callB (cr_any rfl) rfl t.f_any (by decide +kernel) (pa_cons (pe_lc (own := [("place", 3), ("other", 4)]) (g := gTup K 2 (gCons (gName 3) (gCons (gName 4) gNil))) rfl scAreApart.nd (pi_enum (by rfl) t.f_enumerate (pa_cons (pv 0) pa_nil)) (blkOk_by (own := [("place", 3), ("other", 4)]) (N := nsAreApart) (sc := defScope sAreApart) (by decide +kernel)) (fun _ _ _ _ _ => (pg_tup rfl (pgs_cons (pg_name (i := 3) scAreApart.nd rfl (Or.inl rfl)) (pgs_cons (pg_name (i := 4) scAreApart.nd rfl (Or.inl rfl)) pgs_nil)))) (fun _ _ _ _ _ => pts_one (pt_cmpR op_ne (pv 3) (pv 1) (nomark _))) (fun _ _ _ _ _ => (pe_cmpR (op_eqDK (K := K) rfl (hu64 hr)) (pe_slice (sl_tupAK (K := K) rfl) (pv 4) po_none (po_some (pe_callB (call_lenK (K := K) rfl) rfl t.f_len boot_len (pa_cons (pv 2) pa_nil)))) (pv 2) (nomark _)))) pa_nil)))
      (pss_one (ps_ret pe_bl))
      pss_nil)))
    (pss_one (ps_ret pe_bl)), ?_⟩
  refine ⟨_, rfl, R, _, rfl, SqL.of hR, ?_⟩
  have Lg : ∀ {i : Nat} {q : Addr}, qs[i]? = some q → L[i]? = some (L.getD i []) := fun {i q} e => by
    have := (List.getElem?_eq_some_iff.mp e).1
    have hi : i < L.length := by omega
    rw [List.getD_eq_getElem?_getD, List.getElem?_eq_getElem hi]
    rfl
  refine for_it (walk_enum (K := K) (a := R) (xs := qs.map V.ref)) (fun i σ' H' => (∃ o1 o2 : Option V, σ' = [some (.ref R), o1, o2, none, none]) ∧ Same H H' ∧ (List.range i).any (anyB L) = false) ⟨⟨_, _, rfl⟩, fun _ _ z => z, rfl⟩ (fun i σ' H' _ p => SqL.of (p.2.1 _ _ hR)) ?_ ?_
  · rintro i v σ' H1 H2 hi ⟨⟨o1, o2, rfl⟩, s1, na⟩ ⟨T, x, y, rfl, hT, rfl, ex, ey⟩
    have ex := (Option.some.inj ex).symm
    subst ex
    obtain ⟨q, eq1, rfl⟩ := refsAt ey
    have ex := Lg eq1
    have il := (List.getElem?_eq_some_iff.mp eq1).1
    have s2 : Same H (upd H1 T (.tup [V.int ((i : Nat) : Int), V.ref q])) := fun c o z => Same.new hT _ _ (s1 _ _ z)
    refine ⟨T, _, rfl, SqT.of upd_same, rfl, _, _, rfl, _, _, rfl, rfl, ?_⟩
    refine ⟨_, rfl, R, _, rfl, SqL.of (s2 _ _ hR), fun D hD => ?_⟩
    refine lc_it (walk_enum (K := K) (a := R) (xs := qs.map V.ref)) (g := gTup K 2 (gCons (gName 3) (gCons (gName 4) gNil))) (fun j H' => (∃ bl : List Bool, bl.length ≤ j ∧ H' D = some (.lst (bl.map V.bl)) ∧ bl.any id = (List.range j).any (tstB L i)) ∧ Same (upd H1 T (.tup [V.int ((i : Nat) : Int), V.ref q])) H') ⟨⟨[], Nat.le_refl _, upd_same, rfl⟩, Same.new hD⟩ (fun j H' _ p => SqL.of (p.2 _ _ (s2 _ _ hR))) ?_ ?_
    · rintro j v H3 H4 hj ⟨⟨bl, mj, hm, ha⟩, s3⟩ ⟨T2, x2, y2, rfl, hT2, rfl, ex2, ey2⟩
      have ex2 := (Option.some.inj ex2).symm
      subst ex2
      obtain ⟨q2, eq2, rfl⟩ := refsAt ey2
      have ex2 := Lg eq2
      have s4 : Same H (upd H3 T2 (.tup [V.int ((j : Nat) : Int), V.ref q2])) := fun c o z => Same.new hT2 _ _ (s3 _ _ (s2 _ _ z))
      have hm4 := Same.new (o := .tup [V.int ((j : Nat) : Int), V.ref q2]) hT2 _ _ hm
      refine ⟨T2, _, rfl, SqT.of upd_same, rfl, _, _, rfl, _, _, rfl, rfl, rfl, ?_⟩
      refine ⟨_, rfl, _, rfl, rfl, _, rfl, ?_⟩
      have ei : (!decide (V.int ((j : Nat) : Int) = V.int ((i : Nat) : Int))) = decide (j ≠ i) := by
        by_cases e : j = i
        · rw [e]; simp
        · rw [decide_eq_true e, decide_eq_false (fun z => e (by have := V.int.inj z; omega))]; rfl
      rw [ei]
      refine ite2 (fun h1 => ?_) (fun h1 => ⟨⟨bl, by omega, hm4, by rw [range_any, ← ha]; unfold tstB; rw [Bool.not_eq_true] at h1; rw [h1, Bool.false_and, Bool.or_false]⟩, fun c o z => Same.new hT2 _ _ (s3 _ _ z)⟩)
      refine ⟨_, rfl, _, rfl, q, _, rfl, .inr (SqT.of (s4 _ _ (hq i q _ eq1 ex))), _, rfl, ?_⟩
      rw [List.length_map]
      refine slT (s4 _ _ (hq j q2 _ eq2 ex2)) fun r H5 s5 hr5 => ?_
      refine ⟨_, rfl, eqT hr5 (s5 _ _ (s4 _ _ (hq i q _ eq1 ex))) ?_⟩
      refine ⟨_, s5 _ _ hm4, by rw [List.length_map]; rw [List.length_map] at hj; exact small1 (by omega), ⟨bl ++ [decide ((L.getD j []).take (L.getD i []).length = L.getD i [])], by rw [List.length_append]; show bl.length + 1 ≤ j + 1; omega, by rw [upd_same, List.map_append]; rfl, ?_⟩, fun c o z => ?_⟩
      · rw [List.any_append, ha, range_any]
        unfold tstB
        rw [h1]
        simp
      · rw [upd_ne (ne_of_none z hD)]
        exact s5 _ _ (Same.new hT2 _ _ (s3 _ _ z))
    rintro H5 ⟨⟨bl, _, hm, ha⟩, s5⟩
    rw [List.length_map, qL] at ha
    refine ⟨D, _, rfl, SqL.of hm, _, rfl, ?_⟩
    rw [ha]
    show (if anyB L i = true then _ else _)
    refine ite2 (fun h1 => ?_) (fun h1 => ?_)
    · have e : apartB L = false := by
        unfold apartB
        have : (List.range L.length).any (anyB L) = true := by
          rw [List.any_eq_true]
          exact ⟨i, List.mem_range.mpr (by omega), h1⟩
        rw [this]
        rfl
      have := k H5 (fun c o z => s5 _ _ (s2 _ _ z))
      rw [e] at this
      exact this
    · rw [Bool.not_eq_true] at h1
      exact ⟨⟨_, _, rfl⟩, fun c o z => s5 _ _ (s2 _ _ z), by rw [range_any, na, h1]; rfl⟩
  · rintro σ' H' ⟨_, s1, na⟩
    rw [List.length_map, qL] at na
    have := k H' s1
    unfold apartB at this
    rw [na] at this
    exact this
end
end Sx

set_option Elab.async false
set_option linter.all false
set_option maxRecDepth 100000
set_option maxHeartbeats 2000000
namespace Sx
open PySem PySem.Spec PyProof.Rows L2 SxA SxK
def marksB (M : MD) : Bool := decide (V.int ((M.d.length : Nat) : Int) = V.int 3) && (M.rows.all markB && (apartB M.rows && decide (V.int (((M.r 4).length : Nat) : Int) = V.int (((M.r 5).length : Nat) : Int))))
def spAreMarks (K : PySem.W.Frag) : Sp := fun vs H Q _ => ∃ (x dx : Addr) (z : Nat → Addr) (dp : Addr) (dz : List Addr) (M : MD), vs = [.ref x] ∧ MkAt K H x dx z dp dz M ∧ dz.length ≤ 100 ∧ ∀ H', Same H H' → Q (.bl (marksB M)) H'
def shF (w h s : Int) (m : Addr) : List (Str × V) := [("width", .int w), ("height", .int h), ("size", .int s), ("marks", .ref m)]
theorem shF_put (w h s : Int) (m : Addr) : putF "marks" (.ref m) (putF "size" (.int s) (putF "height" (.int h) (putF "width" (.int w) []))) = shF w h s m := by
  rw [put_new "width" _ [] (by simp)]
  rw [put_new "height" _ _ (by simp only [List.nil_append, List.cons_append, List.mem_cons, List.not_mem_nil, or_false, forall_eq_or_imp, forall_eq]; decide +kernel)]
  rw [put_new "size" _ _ (by simp only [List.nil_append, List.cons_append, List.mem_cons, List.not_mem_nil, or_false, forall_eq_or_imp, forall_eq]; decide +kernel)]
  rw [put_new "marks" _ _ (by simp only [List.nil_append, List.cons_append, List.mem_cons, List.not_mem_nil, or_false, forall_eq_or_imp, forall_eq]; decide +kernel)]
  rfl
structure ShAt (K : PySem.W.Frag) (H : Hp) (x dx : Addr) (w h s : Int) (m dm : Addr) (z : Nat → Addr) (dp : Addr) (dz : List Addr) (M : MD) : Prop where
  ins : H x = some (.ins (He.ga K "Shape") dx (shF w h s m))
  mks : MkAt K H m dm z dp dz M
theorem ShAt.same {K : PySem.W.Frag} {H H' : Hp} {x dx m dm dp : Addr} {w h s : Int} {z : Nat → Addr} {dz : List Addr} {M : MD} (S : ShAt K H x dx w h s m dm z dp dz M) (e : Same H H') : ShAt K H' x dx w h s m dm z dp dz M := ⟨e _ _ S.ins, S.mks.same e⟩
theorem MkAt.but {K : PySem.W.Frag} {H H' : Hp} {x dx dp y C dy : Addr} {fs : List (Str × V)} {z : Nat → Addr} {dz : List Addr} {M : MD} (h : MkAt K H x dx z dp dz M) (hy : H y = some (.ins C dy fs)) (n : x ≠ y) (B : But y H H') : MkAt K H' x dx z dp dz M :=
  ⟨B _ _ h.ins n, B _ _ h.dep (ne_of h.dep hy (by intro z; cases z)), ⟨h.del.1, fun i q l a b => B _ _ (h.del.2 i q l a b) (ne_of (h.del.2 i q l a b) hy (by intro z; cases z))⟩, fun j hj => B _ _ (h.el j hj) (ne_of (h.el j hj) hy (by intro z; cases z))⟩
def spShapeInit (K : PySem.W.Frag) : Sp := fun vs H Q E => ∃ (x dx : Addr) (w h s : Int) (m dm : Addr) (z : Nat → Addr) (dp : Addr) (dz : List Addr) (M : MD), vs = [.ref x, .int w, .int h, .int s, .ref m] ∧ H x = some (.ins (He.ga K "Shape") dx []) ∧ MkAt K H m dm z dp dz M ∧ dz.length ≤ 100 ∧
  ((sizesB w h s && marksB M) = true → ∀ m' dm' z' dp' dz' H', ShAt K H' x dx w h s m' dm' z' dp' dz' M → But x H H' → H m' = none → Q .non H') ∧ ((sizesB w h s && marksB M) = false → ∀ H', Same H H' → E (.ref (He.ga K "InvalidShape")) none H')
section
variable {P : Program} {w : World} {K : PySem.W.Frag} {mg : Str → Option Value} {base : Heap}
abbrev nsAreMarks : List Str := ["marks", "rows", "row"]
theorem scAreMarks : FnScope nsAreMarks ["marks"] (defScope sAreMarks) := ⟨rfl, rfl, rfl, by decide +kernel, rfl, by decide +kernel, by decide +kernel⟩
theorem ok_are_marks (t : T K mg) (kd : KDct K w (He.ga K "MOST_NUMBERS") "item" (.int 3)) : Ok P w K mg base 2 "are_marks" ["marks"] (spAreMarks K) := by
  refine mkOk t.d_are_marks t.g_are_marks scAreMarks (fun vs H Q E h => ?_) (fun _ _ _ _ _ _ us hl => match us, hl with | [_], _ => rfl) fun cdv A outer s H vs Q E hr h => ?_
  · obtain ⟨x, dx, z, dp, dz, M, rfl, _⟩ := h; rfl
  obtain ⟨x, dx, z, dp, dz, M, rfl, hM, hdl, k⟩ := h
  have hr1 : Room 1 _ := hr.mono (by decide)
  refine ⟨_, pss_cons (ps_set (i := 1) scAreMarks.nd rfl (Or.inl rfl) (pe_ok (ok_rows_of_marks t) hr1 rfl (pa_cons (pv 0) pa_nil)))
    (pss_one (ps_ret (pe_and (pe_cmpR op_eq (pe_callB call_len_seq rfl t.f_len boot_len (pa_cons (pe_fld (pv 0) rfl) pa_nil)) (pe_ix ix_kdict (pe_glob (v := .ref (He.ga K "MOST_NUMBERS")) rfl t.g_MOST_NUMBERS rfl) pe_str (fun _ _ => rfl)) (nomark _)) (pe_and (pe_callB (cr_all rfl) rfl t.f_all (by decide +kernel) (pa_cons (pe_lc (own := [("row", 2)]) (g := gName 2) (tt := tYes) rfl scAreMarks.nd (pi_list (pv 1)) (blkOk_by (own := [("row", 2)]) (N := nsAreMarks) (sc := defScope sAreMarks) (by decide +kernel)) (fun _ _ _ _ _ => pg_name (i := 2) scAreMarks.nd rfl (Or.inl rfl)) (fun _ _ _ _ _ => pts_nil) (fun _ _ _ _ _ => (pe_ok (ok_is_mark t) hr1 rfl (pa_cons (pv 2) pa_nil)))) pa_nil)) (pe_and (pe_ok (ok_are_apart t) hr1 rfl (pa_cons (pv 1) pa_nil)) (pe_one (pe_cmpR op_eq (pe_callB call_len_seq rfl t.f_len boot_len (pa_cons (pe_fld (pv 0) rfl) pa_nil)) (pe_callB call_len_seq rfl t.f_len boot_len (pa_cons (pe_fld (pv 0) rfl) pa_nil)) (nomark _)))))))), ?_⟩
  refine ⟨_, rfl, x, dx, z, dp, dz, M, rfl, hM, hdl, fun R H1 hR0 s1 hR => ?_⟩
  have k' : ∀ (b : Bool) (H' : Hp), Same H H' → marksB M = b → Q (.bl b) H' := fun b H' s e => e ▸ k H' s
  unfold marksB at k'
  have hM1 := hM.same s1
  refine ⟨_, rfl, x, _, dx, _, _, rfl, hM1.ins, t.c_Marks, t.n_Marks_depths, lkd _ _, dp, _, rfl, .inl (SqL.of hM1.dep), _, _, _, rfl, rfl, kd, rfl, _, rfl, ?_⟩
  rw [List.length_map, hM1.del.1]
  refine ite2 (fun h1 => ?_) (fun h1 => k' _ _ s1 (by rw [Bool.not_eq_true] at h1; simp only [h1, Bool.false_and]))
  refine ⟨_, rfl, R, rfl, ⟨_, SqL.of hR⟩, fun D hD => ?_⟩
  have zl := hM1.tups.1
  have zlen : (zrow z dz).length ≤ 200 := by unfold zrow; rw [List.length_append]; show 7 + dz.length ≤ 200; omega
  have big : 1000 ≤ sizeLine := by decide
  refine lc_known (xs := (zrow z dz).map V.ref) (ys := (M.rows.map markB).map V.bl) hD (SqL.of hR) (by rw [List.length_map, List.length_map, List.length_map, zl]) (by rw [List.length_map, List.length_map, ← zl]; omega) (fun _ => rfl) (fun i y v H2 Q1 hy hz sm k1 => ?_) (fun H2 s2 hH => ?_)
  · rw [List.getElem?_map] at hy
    obtain ⟨q, hq, rfl⟩ := Option.map_eq_some_iff.mp hy
    rw [List.getElem?_map, List.getElem?_map] at hz
    obtain ⟨r, hr', rfl⟩ := Option.map_eq_some_iff.mp hz
    obtain ⟨l, hl, rfl⟩ := Option.map_eq_some_iff.mp hr'
    exact ⟨_, rfl, q, l, rfl, sm _ _ (hM1.tups.2 i q l hq hl), fun H3 s3 => k1 H3 s3⟩
  refine ⟨D, M.rows.map markB, rfl, SqL.of hH, _, rfl, ?_⟩
  have e2 : (M.rows.map markB).all id = M.rows.all markB := by simp
  rw [e2]
  have s12 : Same H H2 := s1.trans s2
  refine ite2 (fun h2 => ?_) (fun h2 => k' _ _ s12 (by rw [Bool.not_eq_true] at h2; simp only [h2, Bool.false_and, Bool.and_false]))
  refine ⟨_, rfl, R, zrow z dz, M.rows, rfl, s2 _ _ hR, by omega, hM1.tups.same s2, fun H3 s3 => ⟨_, rfl, ?_⟩⟩
  have s13 := s12.trans s3
  refine ite2 (fun h3 => ?_) (fun h3 => k' _ _ s13 (by rw [Bool.not_eq_true] at h3; simp only [h3, Bool.false_and, Bool.and_false]))
  have hM3 := hM.same s13
  refine ⟨_, rfl, x, _, dx, _, _, rfl, hM3.ins, t.c_Marks, t.n_Marks_on, lk4 _ _, z 4, _, rfl, .inr (SqT.of (hM3.el 4 (by decide))), _, rfl, x, _, dx, _, _, rfl, hM3.ins, t.c_Marks, t.n_Marks_joined, lk5 _ _, z 5, _, rfl, .inr (SqT.of (hM3.el 5 (by decide))), rfl, ?_⟩
  rw [List.length_map, List.length_map]
  refine k' _ _ s13 ?_
  rw [h1, h2, h3]
  rfl
abbrev nsShapeInit : List Str := ["self", "width", "height", "size", "marks", "copied"]
theorem scShapeInit : FnScope nsShapeInit ["self", "width", "height", "size", "marks"] (defScope sShapeInit) := ⟨rfl, rfl, rfl, by decide +kernel, rfl, by decide +kernel, by decide +kernel⟩
theorem met_Shape_init (t : T K mg) (kd : KDct K w (He.ga K "MOST_NUMBERS") "item" (.int 3)) (px : PexC K mg "InvalidShape") : MetX P w K mg base 4 "Shape" "__init__" ["self", "width", "height", "size", "marks"] (spShapeInit K) := by
  refine mkMetX t.d_Shape_init scShapeInit (fun vs H Q E h => ?_) (fun _ _ _ _ _ _ us hl => match us, hl with | [_, _, _, _, _], _ => rfl) fun cdv A outer s H vs Q E hr h => ?_
  · obtain ⟨x, dx, w, h, s, m, dm, z, dp, dz, M, rfl, _⟩ := h; rfl
  obtain ⟨x, dx, wd, ht, sz, m, dm, z, dp, dz, M, rfl, hx, hM, hdl, kt, kf⟩ := h
  have hr1 : Room 1 _ := hr.mono (by decide)
  have hr2 : Room 2 _ := hr.mono (by decide)
  have hr3 : Room 3 _ := hr.mono (by decide)
  refine ⟨_, pss_cons (ps_set (i := 5) scShapeInit.nd rfl (Or.inl rfl) (pe_ok (ok_copy_of_marks t) hr3 rfl (pa_cons (pv 4) pa_nil)))
    (pss_cons (ps_if (PW.pt (pw_or (pt_not (pt_val (pe_ok (ok_are_sizes t) hr1 rfl (pa_cons (pv 1) (pa_cons (pv 2) (pa_cons (pv 3) pa_nil)))))) (pw_or1 (pt_not (pt_val (pe_ok (ok_are_marks t kd) hr2 rfl (pa_cons (pv 5) pa_nil)))))))
      (pss_one (ps_raise rfl (takes_of rfl rfl rfl rfl) (pmk_own0 px rfl)))
      pss_nil)
    (pss_cons (ps_fld (pv 0) (pv 1) rfl)
    (pss_cons (ps_fld (pv 0) (pv 2) rfl)
    (pss_cons (ps_fld (pv 0) (pv 3) rfl)
    (pss_one (ps_fld (pv 0) (pv 5) rfl)))))), ?_⟩
  refine ⟨_, rfl, m, dm, z, dp, dz, M, rfl, hM, hdl, fun y dy z' dp' dz' H1 ny s1 hM1 => ?_⟩
  have hdl' : dz'.length ≤ 100 := by rw [hM1.del.1, ← hM.del.1]; exact hdl
  refine ⟨_, rfl, _, rfl, _, rfl, wd, ht, sz, rfl, _, rfl, ?_⟩
  by_cases c1 : sizesB wd ht sz = true
  · rw [c1]
    refine iteF ⟨_, rfl, y, dy, z', dp', dz', M, rfl, hM1, hdl', fun H2 s2 => ⟨_, rfl, ?_⟩⟩
    by_cases c2 : marksB M = true
    · rw [c2]
      refine iteF ?_
      have kt := kt (by rw [c1, c2]; rfl)
      have hM2 := hM1.same s2
      have hx2 := s2 _ _ (s1 _ _ hx)
      have l0 : ([] : List (Str × V)).length ≤ 0 := Nat.le_refl _
      refine ⟨_, rfl, _, rfl, x, _, dx, _, rfl, hx2, t.c_Shape, t.n_Shape_width, by decide, ?_⟩
      refine ⟨_, rfl, _, rfl, x, _, dx, _, rfl, upd_same, t.c_Shape, t.n_Shape_height, (Nat.lt_of_le_of_lt (len_put_lt l0) (by decide)), ?_⟩
      rw [upd_upd]
      refine ⟨_, rfl, _, rfl, x, _, dx, _, rfl, upd_same, t.c_Shape, t.n_Shape_size, (Nat.lt_of_le_of_lt (len_put_lt (len_put_lt l0)) (by decide)), ?_⟩
      rw [upd_upd]
      refine ⟨_, rfl, _, rfl, x, _, dx, _, rfl, upd_same, t.c_Shape, t.n_Shape_marks, (Nat.lt_of_le_of_lt (len_put_lt (len_put_lt (len_put_lt l0))) (by decide)), ?_⟩
      rw [upd_upd, shF_put]
      have nyx : y ≠ x := fun e => by rw [e, hx] at ny; cases ny
      have BB : But x H2 (upd H2 x (.ins (He.ga K "Shape") dx (shF wd ht sz y))) := fun c o e n => by rw [upd_ne n]; exact e
      exact kt y dy z' dp' dz' _ ⟨upd_same, hM2.but hx2 nyx BB⟩ (fun c o e n => BB _ _ (s2 _ _ (s1 _ _ e)) n) ny
    · rw [Bool.not_eq_true] at c2
      rw [c2]
      exact iteT (kf (by rw [c2, Bool.and_false]) _ (s1.trans s2))
  · rw [Bool.not_eq_true] at c1
    rw [c1]
    exact iteT (iteT (kf (by rw [c1, Bool.false_and]) _ s1))
end
end Sx

set_option Elab.async false
set_option linter.all false
set_option maxRecDepth 100000
set_option maxHeartbeats 4000000
namespace SxK
open PySem PySem.Spec PyProof.Rows L2
/-! ### for i, x in enumerate(list, start=1) -/
def Iso (K : PySem.W.Frag) (a : Addr) : It :=
  ⟨fun i H => ∃ (xs : List V) (x : V), SqL K H a xs ∧ xs[i]? = some x, fun i H v H' => ∃ T x, v = .ref T ∧ H T = none ∧ H' = upd H T (.tup [.int ((i + 1 : Nat) : Int), x]) ∧ ∀ xs, SqL K H a xs → xs[i]? = some x, fun i H => ∃ xs : List V, SqL K H a xs ∧ xs.length ≤ i⟩
theorem drawsS {P : Program} {w : World} {A : Around} (hh : A.handled = none) (it l : Addr) (hne : l ≠ it) (items : Array Value) :
    Draws P w A it [it, l] (items.size + 1) (fun j v => 1 ≤ j ∧ items[j - 1]? = some v) (fun j h => 1 ≤ j ∧ h.IsListIter it l (j - 1) ∧ h.IsList l items) where
  live := fun j h st => (Draws.list (prog := P) (w := w) hh it l hne items).live (j - 1) h st.2
  frame := fun j h h' st k => ⟨st.1, (Draws.list (prog := P) (w := w) hh it l hne items).frame (j - 1) h h' st.2 k⟩
  item := fun j s Q E hj st hQ => (Draws.list (prog := P) (w := w) hh it l hne items).item (j - 1) s Q E (by have := st.1; omega) st.2 fun x h' tk hx st' sb => by
    have e : j - 1 + 1 = j + 1 - 1 := by have := st.1; omega
    rw [e] at st'
    exact hQ x h' tk ⟨st.1, hx⟩ ⟨Nat.le_add_left 1 j, st'⟩ sb
  done := fun s Q E st hE => (Draws.list (prog := P) (w := w) hh it l hne items).done s Q E st.2 hE
theorem enum_endS {P : Program} {w : World} {A : Around} {E : Value → Shared → Prop} {s : Shared} {e it l : Addr} {j : Int} {i : Nat} {items : Array Value} {old : Value} {Q : Option Value → Shared → Prop} (hh : A.handled = none) (he : IsEnum s.heap e it j old)
    (hit : s.heap.IsListIter it l i) (hl : s.heap.IsList l items) (hx : items[i]? = none) (hQ : ∀ h', Heap.ExtBut it s.heap h' → Q none { s with heap := h' }) : wpAny (model P w) A (pyNext (.ref e)) Q E s := by
  have tyE : s.TypeIs (.ref e) "enumerate" := ⟨_, he, rfl⟩
  unfold pyNext; refine wpAny_bind (wpAny_attempt (wpAny_callSpecial?_slot (name := Str.ofString "__next__") tyE F.slot_enumerate_next (wpAny_call_entry F.slot_enumerate_next tyE F.entry_enumerate_next ?_ (F.args_enumerate_next_1 _))))
  show wpAny _ _ (field (.ref e) 2 >>= _) _ _ _; refine wpAny_bind (wpAny_field he rfl (x := .ref it) rfl (wpAny_bind (wpAny_nextOf_list_end hh hit hl hx fun h' x eb hx' => ?_)))
  rcases hx' with ⟨o, ho, hcl⟩
  exact wpAny_bind (wpAny_isInstance (T := "StopIteration") (b := true) ⟨o, ho, hcl⟩ isSubtype_stop (wpAny_pure (hQ _ eb)))
theorem turn_enumS {P : Program} {w : World} {K : PySem.W.Frag} {elts : List Expr} {kk : Nat} {tpos : Pos} (a e it : Addr) :
    Turn P w K (.Tuple elts kk tpos) (Iso K a) [e, it] e (fun i h => (∃ old, IsEnum h e it ((i + 1 : Nat) : Int) old) ∧ h.IsListIter it a i ∧ e ≠ it ∧ e ≠ a ∧ a ≠ it) where
  mem := List.mem_cons_self
  obj := fun i h st b hb => by
    obtain ⟨⟨old, he⟩, ⟨o, ho, hcl, hdt⟩, _⟩ := st
    rcases List.mem_cons.mp hb with q | q
    · subst q; exact ⟨_, he, fun v n => nomatch n⟩
    · rw [List.mem_singleton.mp q]; exact ⟨o, ho, fun v n => by rw [hdt] at n; cases n⟩
  keep := fun i h h' st k => by
    obtain ⟨⟨old, he⟩, ⟨o, ho, r⟩, hne⟩ := st
    exact ⟨⟨old, k e List.mem_cons_self _ he⟩, ⟨o, k it (List.mem_cons_of_mem _ List.mem_cons_self) o ho, r⟩, hne⟩
  item := by
    intro X hP hw hK hc i pins s σ H E I hf st hg
    subst hP hw hK
    obtain ⟨⟨old, he⟩, hit, hne, hea, hai⟩ := st
    obtain ⟨xs, x, hq, hx⟩ := hg
    obtain ⟨its, rv, p, hz⟩ := I.list hq
    obtain ⟨u, hu, ru⟩ := rv.get hx
    have el : e < s.heap.objs.size := Heap.lt_size he
    have il : it < s.heap.objs.size := by
      obtain ⟨_, q, _⟩ := id hit
      exact Heap.lt_size q
    have D : Draws X.prog X.w X.A.in1 it [it, a] (its.toArray.size + 1) (fun j v => 1 ≤ j ∧ its.toArray[j - 1]? = some v) (fun j h => 1 ≤ j ∧ h.IsListIter it a (j - 1) ∧ h.IsList a its.toArray) := drawsS (A := X.A.in1) (show X.A.in1.handled = none from I.ok.hd hc) it a hai its.toArray
    have ilt : i < its.length := (List.getElem?_eq_some_iff.mp hu).1
    refine wpAny_pyNext_enum_itemD D (i := i + 1) he ⟨Nat.le_add_left 1 i, hit, p.isList⟩ (by simp; exact ilt) hne (fun q => by
      rcases List.mem_cons.mp q with q | q
      · exact hne q
      · exact hea (List.mem_singleton.mp q)) fun y h' tk hy ho hit' hT hsz hk => ?_
    have ey : y = u := by
      have h1 := hy.2
      have h2 : its.toArray[i]? = some y := h1
      rw [show its.toArray[i]? = its[i]? by simp, hu] at h2
      exact (Option.some.inj h2).symm
    subst ey
    refine ⟨_, rfl, wpAny_letOwnedTupleGo_enum (s := { s with heap := h', toks := tk + 1 }) ho fun h2 he2 sb => ?_⟩
    have hT2 : h2.get? s.heap.objs.size = some { cls := .type "tuple", data := .seq #[.int ((i + 1 : Nat) : Int) tk, y] } := (sb.2 _ (Nat.ne_of_gt el)).trans hT
    have nw : ObjOk X.prog X.w (upd H s.heap.objs.size (.tup [.int ((i + 1 : Nat) : Int), x])) h2 s.heap.objs.size (.tup [.int ((i + 1 : Nat) : Int), x]) :=
      ⟨(by show 2 ≤ sizeLine; decide), [.int ((i + 1 : Nat) : Int) tk, y], .cons ⟨_, rfl⟩ (.cons ru .nil), ⟨_, hT2, rfl, _, rfl⟩⟩
    have I1 : Inv X pins σ (upd H s.heap.objs.size (.tup [.int ((i + 1 : Nat) : Int), x])) { s with heap := h2, toks := tk + 1 } :=
      I.turnedNew (ch := [e, it]) (fun b ob hb q => by
        have b1 : b ≠ e := fun n => hb (by rw [n]; exact List.mem_cons_self)
        have b2 : b ≠ it := fun n => hb (by rw [n]; exact List.mem_cons_of_mem _ List.mem_cons_self)
        exact (sb.2 b b1).trans (hk b ob b1 b2 q)) hf (Nat.le_refl _) nw
    have e1 : (((i + 1) + 1 : Nat) : Int) = ((i + 1 : Nat) : Int) + 1 := by omega
    refine ⟨.ref s.heap.objs.size, _, I1, rfl, ⟨_, x, rfl, I.hok.fresh (Nat.le_refl _), rfl, fun ys hy => by rw [I.list_inj hy hq]; exact hx⟩, ⟨⟨_, by rw [e1]; exact he2⟩, ?_, hne, hea, hai⟩, fun b hb => ?_⟩
    · obtain ⟨o, ho2, r⟩ := hit'.2.1
      exact ⟨o, (sb.2 it (Ne.symm hne)).trans ho2, r⟩
    · have lt : b < s.heap.objs.size := by
        rcases List.mem_cons.mp hb with q | q
        · rw [q]; exact el
        · rw [List.mem_singleton.mp q]; exact il
      rw [upd_ne (Nat.ne_of_lt lt)]
      exact (hf b hb).1
  done := by
    intro X hP hw hK hc i pins s σ H E I hf st hg
    subst hP hw hK
    obtain ⟨⟨old, he⟩, hit, hne, hea, hai⟩ := st
    obtain ⟨xs, hq, hx⟩ := hg
    obtain ⟨its, rv, p, hz⟩ := I.list hq
    obtain ⟨f0, f1, f2, f3, f4, f5⟩ := hf it (List.mem_cons_of_mem _ List.mem_cons_self)
    have hl := rv.length
    exact enum_endS (I.ok.hd hc) he hit p.isList (by simp; omega) fun h' eb => ⟨rfl, I.turned (t' := s.toks) (fun b o hb q => eb b o hb q) f0 f1 f3 f4 f5⟩
  self := fun A i s Q E st h => by
    obtain ⟨⟨_, he⟩, _⟩ := st
    exact wpAny_pyIter_enum he h
def iEnumS (K : PySem.W.Frag) (ta tk : TA) : TI := fun σ H R => ta σ H fun vs H1 => tk σ H1 fun ws H2 => ∃ a xs, vs = [.ref a] ∧ ws = [.int 1] ∧ SqL K H2 a xs ∧ R (Iso K a) H2
theorem pi_enumS {X : Cx} {e : Expr} {ta tk : TA} {p pos tpos : Pos} {elts : List Expr} {kk : Nat} {kws : List Keyword} (hg : Gl X "enumerate") (hm : X.mg "enumerate" = none) (ha : PA X [e] ta) (hkw : PK X kws tk)
    (hall : (backToKw pos (keywordEach kws X.env)).all (·.1.isSome) = true := by rfl) (hks : (backToKw pos (keywordEach kws X.env)).filterMap (·.1) = [Str.ofString "start"] := by rfl)
    (hs : starEach [e] X.env = (false, eval e X.env) :: starEach [] X.env := by rfl) (hpl : ((backTo pos (starEach [e] X.env)).any (·.1) || (backToKw pos (keywordEach kws X.env)).any (·.1.isNone)) = false := by rfl) :
    PI X (.Tuple elts kk tpos) (.Call (.Name "enumerate" p) [e] kws pos) (iEnumS X.K ta tk) := by
  refine ⟨fun pins s σ H R I h => ?_⟩
  refine wpAny_Call_Name_kw (ld_blt I hg hm boot_enumerate ?_)
  refine PySem.W.callWith_of (P := X.K.In) hpl (fun _ _ => ⟨.machine, .inr (.inl rfl), PySem.W.Looks.of_pure rfl⟩) (PyProof.Rows.evalArgs_kw2 hall (thn (ha.run pos pins s σ H _ I h) fun us s1 ⟨vs, H1, I1, r1, q1⟩ => ?_) hs)
  refine thn (hkw.run pos pins s1 σ H1 _ I1 q1) fun ws s2 ⟨zs, H2, I2, rz, a, xs, e1, e2, hq, q⟩ => ⟨I2.kIn, ?_⟩
  rw [hks]
  subst e1 e2
  cases r1 with
  | cons r rr =>
    cases rr
    cases r
    cases rz with
    | cons r2 rr2 =>
      cases rr2
      obtain ⟨tk1, rfl⟩ := r2
      obtain ⟨its, rv, pl, hz⟩ := I2.list hq
      have ha : a < s2.heap.objs.size := by
        obtain ⟨o, ho, _⟩ := pl.isList
        exact Heap.lt_size ho
      have gt : ∀ b, b ∈ [s2.heap.objs.size + 1, s2.heap.objs.size] → s2.heap.objs.size ≤ b := fun b hb => by
        rcases List.mem_cons.mp hb with n | n
        · rw [n]; exact Nat.le_add_right _ _
        · rw [List.mem_singleton.mp n]; exact Nat.le_refl _
      refine enum_begins_start (begins_list a its.toArray) pl.isList (by decide) (by decide) fun h' he hit hsz hk => wpAny_pyIter_enum he ?_
      exact ⟨s2.heap.objs.size + 1, [s2.heap.objs.size + 1, s2.heap.objs.size], _, _, H2, rfl, I2.kept (t' := s2.toks) hk, turn_enumS a (s2.heap.objs.size + 1) s2.heap.objs.size,
        ⟨⟨.none, he⟩, ⟨_, hit, rfl, rfl⟩, Nat.succ_ne_self _, Nat.ne_of_gt (Nat.lt_succ_of_lt ha), Nat.ne_of_lt ha⟩, fun b hb => I2.fpOk (gt b hb) (I2.hok.fresh (gt b hb)), q⟩
theorem for_enumS {K : PySem.W.Frag} {a : Addr} {xs : List V} {g : TG} {tb : TS} {D : Ends} {σ : L2.St} {H : Hp} (Pv : Nat → L2.St → Hp → Prop) (h0 : Pv 0 σ H) (hl : ∀ i σ H, i ≤ xs.length → Pv i σ H → SqL K H a xs)
    (hs : ∀ (i : Nat) (x : V) (T : Addr) (σ : L2.St) (H : Hp), xs[i]? = some x → Pv i σ H → H T = none → g (.ref T) σ (upd H T (.tup [.int ((i + 1 : Nat) : Int), x])) fun σ2 H2 => tb { D with nx := Pv (i + 1), ct := Pv (i + 1), bk := D.nx } σ2 H2)
    (hd : ∀ σ H, Pv xs.length σ H → D.nx σ H) :
    ∃ W : Nat → Nat → L2.St → Hp → Prop, (∃ m, W 0 m σ H) ∧ ∀ i m σ H, W i m σ H → ((Iso K a).stop i H ∧ D.nx σ H) ∨ ((Iso K a).go i H ∧ ∃ N : L2.St → Hp → Prop, (∀ σ' H', N σ' H' → ∃ m', m' < m ∧ W (i + 1) m' σ' H') ∧
      ∀ v H', (Iso K a).yld i H v H' → g v σ H' fun σ2 H2 => tb { D with nx := N, ct := N, bk := D.nx } σ2 H2) := by
  refine ⟨fun i m σ H => m = xs.length - i ∧ i ≤ xs.length ∧ Pv i σ H, ⟨xs.length, by simp, Nat.zero_le _, h0⟩, ?_⟩
  rintro i m σ H ⟨rfl, hi, p⟩
  have q := hl i σ H hi p
  by_cases lt : i < xs.length
  · refine .inr ⟨⟨xs, xs[i], q, by simp [lt]⟩, Pv (i + 1), fun σ' H' p' => ⟨xs.length - (i + 1), by omega, rfl, lt, p'⟩, ?_⟩
    rintro v H' ⟨T, x, rfl, hT, rfl, hx⟩
    exact hs i x T σ _ (hx xs q) p hT
  · have e : i = xs.length := by omega
    subst e
    exact .inl ⟨⟨xs, q, Nat.le_refl _⟩, hd σ H p⟩
end SxK

set_option Elab.async false
set_option linter.all false
set_option maxRecDepth 100000
set_option maxHeartbeats 4000000
namespace SxK
open PySem PySem.Spec PyProof.Rows L2
/-! ### for i, x in enumerate(tuple) -/
theorem meets_enumerate_new0 {v : Value} {o : Obj} {H : Heap → Prop} (B : Begins v o H) :
    Meets (Builtin.«enumerate.__new__» ⟨[.type "enumerate", v], []⟩) (fun _ R s => H s.heap ∧
      R (.ok (.ret (.ref (s.heap.push o).objs.size))) { s with heap := (s.heap.push o).push { cls := .type "enumerate", data := .fields #[.none, .bool false, .ref s.heap.objs.size, rawInt 0, .none, .none] } }) :=
  .of_wp fun prog w A R s h => by
    obtain ⟨hp, g, d, tk, os⟩ := s; obtain ⟨h1, h⟩ := h
    have hsub := sub_enumerate
    have q1 : ∀ {A' : Around} {E : Value → Shared → Prop} {Q : Value → Shared → Prop}, Q (.ref hp.objs.size) ⟨hp.push o, g, d, tk, os⟩ → wpAny (model prog w) A' (pyIter v) Q E ⟨hp, g, d, tk, os⟩ :=
      fun q => B.iter prog w _ _ ⟨hp, g, d, tk, os⟩ _ h1 q
    wp_walk using q1
    refine wpAny_stack_any fun st => wpAny_pure ?_
    split
    · rename_i c _ _ _ _ _
      cases (c == Value.type "enumerate")
      · wp_walk using q1
        exact ⟨_, rfl, h⟩
      · wp_walk using q1
        exact ⟨_, rfl, h⟩
    · wp_walk using q1
      exact ⟨_, rfl, h⟩
theorem enum_begins0 {prog : Program} {w : World} {A : Around} {E : Value → Shared → Prop} {s : Shared} {v : Value} {o : Obj} {H : Heap → Prop} {Q : Value → Shared → Prop} (B : Begins v o H) (h1 : H s.heap)
    (h : ∀ h', IsEnum h' (s.heap.objs.size + 1) s.heap.objs.size 0 .none → h'.get? s.heap.objs.size = some o → h'.objs.size = s.heap.objs.size + 2 →
      (∀ b o, s.heap.get? b = some o → h'.get? b = some o) → Q (.ref (s.heap.objs.size + 1)) { s with heap := h' }) :
    wpAny (model prog w) A (call (.type "enumerate") [v]) Q E s := by
  refine callType_new PySem.F.called_enumerate (by decide) (PySem.F.typeCall_enumerate_1 _) (PySem.F.newCall_enumerate_1 _) (fun obj => PySem.F.args_object_init_2 obj _) PySem.F.entry_enumerate_new
    (meets_enumerate_new0 B) ⟨h1, ?_⟩
  have hz : (s.heap.push o).objs.size = s.heap.objs.size + 1 := Heap.size_push ..
  show _ ∧ _
  rw [hz]
  have he : IsEnum ((s.heap.push o).push { cls := .type "enumerate", data := .fields #[.none, .bool false, .ref s.heap.objs.size, rawInt 0, .none, .none] }) (s.heap.objs.size + 1) s.heap.objs.size 0 .none := by
    have := Heap.get?_push_size (s.heap.push o) (o := { cls := .type "enumerate", data := .fields #[.none, .bool false, .ref s.heap.objs.size, rawInt 0, .none, .none] }) rfl
    rw [hz] at this; exact this
  refine ⟨⟨_, he, rfl⟩, h _ he (Heap.get?_push_of_some _ (Heap.get?_push_size _ B.free)) (by rw [Heap.size_push, hz]) fun b o x => Heap.get?_push_of_some _ (Heap.get?_push_of_some _ x)⟩
def Iep (K : PySem.W.Frag) (a : Addr) : It :=
  ⟨fun i H => ∃ (xs : List V) (x : V), SqT K H a xs ∧ xs[i]? = some x, fun i H v H' => ∃ T x, v = .ref T ∧ H T = none ∧ H' = upd H T (.tup [.int ((i : Nat) : Int), x]) ∧ ∀ xs, SqT K H a xs → xs[i]? = some x, fun i H => ∃ xs : List V, SqT K H a xs ∧ xs.length ≤ i⟩
theorem enum_endP {P : Program} {w : World} {A : Around} {E : Value → Shared → Prop} {s : Shared} {e it l : Addr} {j : Int} {i : Nat} {items : Array Value} {old : Value} {Q : Option Value → Shared → Prop} (hh : A.handled = none) (he : IsEnum s.heap e it j old)
    (hit : s.heap.IsTupleIter it l i) (hl : s.heap.IsTuple l items) (hx : items[i]? = none) (hQ : ∀ h', Heap.ExtBut it s.heap h' → Q none { s with heap := h' }) : wpAny (model P w) A (pyNext (.ref e)) Q E s := by
  have tyE : s.TypeIs (.ref e) "enumerate" := ⟨_, he, rfl⟩
  unfold pyNext; refine wpAny_bind (wpAny_attempt (wpAny_callSpecial?_slot (name := Str.ofString "__next__") tyE F.slot_enumerate_next (wpAny_call_entry F.slot_enumerate_next tyE F.entry_enumerate_next ?_ (F.args_enumerate_next_1 _))))
  show wpAny _ _ (field (.ref e) 2 >>= _) _ _ _; refine wpAny_bind (wpAny_field he rfl (x := .ref it) rfl (wpAny_bind (wpAny_nextOf_tuple_end hh hit hl hx fun h' x eb hx' => ?_)))
  rcases hx' with ⟨o, ho, hcl⟩
  exact wpAny_bind (wpAny_isInstance (T := "StopIteration") (b := true) ⟨o, ho, hcl⟩ isSubtype_stop (wpAny_pure (hQ _ eb)))
theorem turn_enumP {P : Program} {w : World} {K : PySem.W.Frag} {elts : List Expr} {kk : Nat} {tpos : Pos} (a e it : Addr) :
    Turn P w K (.Tuple elts kk tpos) (Iep K a) [e, it] e (fun i h => (∃ old, IsEnum h e it ((i : Nat) : Int) old) ∧ h.IsTupleIter it a i ∧ e ≠ it ∧ e ≠ a ∧ a ≠ it) where
  mem := List.mem_cons_self
  obj := fun i h st b hb => by
    obtain ⟨⟨old, he⟩, ⟨o, ho, hcl, hdt⟩, _⟩ := st
    rcases List.mem_cons.mp hb with q | q
    · subst q; exact ⟨_, he, fun v n => nomatch n⟩
    · rw [List.mem_singleton.mp q]; exact ⟨o, ho, fun v n => by rw [hdt] at n; cases n⟩
  keep := fun i h h' st k => by
    obtain ⟨⟨old, he⟩, ⟨o, ho, r⟩, hne⟩ := st
    exact ⟨⟨old, k e List.mem_cons_self _ he⟩, ⟨o, k it (List.mem_cons_of_mem _ List.mem_cons_self) o ho, r⟩, hne⟩
  item := by
    intro X hP hw hK hc i pins s σ H E I hf st hg
    subst hP hw hK
    obtain ⟨⟨old, he⟩, hit, hne, hea, hai⟩ := st
    obtain ⟨xs, x, hq, hx⟩ := hg
    obtain ⟨its, rv, p, hz⟩ := I.tuple hq
    obtain ⟨u, hu, ru⟩ := rv.get hx
    have el : e < s.heap.objs.size := Heap.lt_size he
    have il : it < s.heap.objs.size := by
      obtain ⟨_, q, _⟩ := id hit
      exact Heap.lt_size q
    have pt : s.heap.IsTuple a its.toArray := p
    have D : Draws X.prog X.w X.A.in1 it [it, a] its.toArray.size (fun j v => its.toArray[j]? = some v) (fun j h => h.IsTupleIter it a j ∧ h.IsTuple a its.toArray) := Draws.tuple (A := X.A.in1) (show X.A.in1.handled = none from I.ok.hd hc) it a hai its.toArray
    have ilt : i < its.length := (List.getElem?_eq_some_iff.mp hu).1
    refine wpAny_pyNext_enum_itemD D (i := i) he ⟨hit, pt⟩ (by simp; exact ilt) hne (fun q => by
      rcases List.mem_cons.mp q with q | q
      · exact hne q
      · exact hea (List.mem_singleton.mp q)) fun y h' tk hy ho hit' hT hsz hk => ?_
    have ey : y = u := by
      have h2 : its.toArray[i]? = some y := hy
      rw [show its.toArray[i]? = its[i]? by simp, hu] at h2
      exact (Option.some.inj h2).symm
    subst ey
    refine ⟨_, rfl, wpAny_letOwnedTupleGo_enum (s := { s with heap := h', toks := tk + 1 }) ho fun h2 he2 sb => ?_⟩
    have hT2 : h2.get? s.heap.objs.size = some { cls := .type "tuple", data := .seq #[.int ((i : Nat) : Int) tk, y] } := (sb.2 _ (Nat.ne_of_gt el)).trans hT
    have nw : ObjOk X.prog X.w (upd H s.heap.objs.size (.tup [.int ((i : Nat) : Int), x])) h2 s.heap.objs.size (.tup [.int ((i : Nat) : Int), x]) :=
      ⟨(by show 2 ≤ sizeLine; decide), [.int ((i : Nat) : Int) tk, y], .cons ⟨_, rfl⟩ (.cons ru .nil), ⟨_, hT2, rfl, _, rfl⟩⟩
    have I1 : Inv X pins σ (upd H s.heap.objs.size (.tup [.int ((i : Nat) : Int), x])) { s with heap := h2, toks := tk + 1 } :=
      I.turnedNew (ch := [e, it]) (fun b ob hb q => by
        have b1 : b ≠ e := fun n => hb (by rw [n]; exact List.mem_cons_self)
        have b2 : b ≠ it := fun n => hb (by rw [n]; exact List.mem_cons_of_mem _ List.mem_cons_self)
        exact (sb.2 b b1).trans (hk b ob b1 b2 q)) hf (Nat.le_refl _) nw
    have e1 : ((i + 1 : Nat) : Int) = ((i : Nat) : Int) + 1 := by omega
    refine ⟨.ref s.heap.objs.size, _, I1, rfl, ⟨_, x, rfl, I.hok.fresh (Nat.le_refl _), rfl, fun ys hy => by rw [I.tuple_inj hy hq]; exact hx⟩, ⟨⟨_, by rw [e1]; exact he2⟩, ?_, hne, hea, hai⟩, fun b hb => ?_⟩
    · obtain ⟨o, ho2, r⟩ := hit'.1
      exact ⟨o, (sb.2 it (Ne.symm hne)).trans ho2, r⟩
    · have lt : b < s.heap.objs.size := by
        rcases List.mem_cons.mp hb with q | q
        · rw [q]; exact el
        · rw [List.mem_singleton.mp q]; exact il
      rw [upd_ne (Nat.ne_of_lt lt)]
      exact (hf b hb).1
  done := by
    intro X hP hw hK hc i pins s σ H E I hf st hg
    subst hP hw hK
    obtain ⟨⟨old, he⟩, hit, hne, hea, hai⟩ := st
    obtain ⟨xs, hq, hx⟩ := hg
    obtain ⟨its, rv, p, hz⟩ := I.tuple hq
    obtain ⟨f0, f1, f2, f3, f4, f5⟩ := hf it (List.mem_cons_of_mem _ List.mem_cons_self)
    have hl := rv.length
    have pt : s.heap.IsTuple a its.toArray := p
    exact enum_endP (I.ok.hd hc) he hit pt (by simp; omega) fun h' eb => ⟨rfl, I.turned (t' := s.toks) (fun b o hb q => eb b o hb q) f0 f1 f3 f4 f5⟩
  self := fun A i s Q E st h => by
    obtain ⟨⟨_, he⟩, _⟩ := st
    exact wpAny_pyIter_enum he h

def iEnumP (K : PySem.W.Frag) (ta : TA) : TI := fun σ H R => ta σ H fun vs H1 => ∃ a xs, vs = [.ref a] ∧ SqT K H1 a xs ∧ R (Iep K a) H1
theorem pi_enumP {X : Cx} {e : Expr} {ta : TA} {p pos tpos : Pos} {elts : List Expr} {kk : Nat} (hg : Gl X "enumerate") (hm : X.mg "enumerate" = none) (ha : PA X [e] ta) (hs : starEach [e] X.env = [(false, eval e X.env)] := by rfl) :
    PI X (.Tuple elts kk tpos) (.Call (.Name "enumerate" p) [e] [] pos) (iEnumP X.K ta) := by
  refine ⟨fun pins s σ H R I h => ?_⟩
  refine Call_ (ld_blt I hg hm boot_enumerate (PyProof.Rows.callWith_type1 (thn (ha.run pos pins s σ H _ I h) fun us s1 ⟨vs, H1, I1, r1, q1⟩ => ?_) hs rfl))
  obtain ⟨a, xs, ex, hq, q⟩ := q1
  subst ex
  cases r1 with
  | cons r rr =>
    cases rr
    cases r
    obtain ⟨its, rv, p', hz⟩ := I1.tuple hq
    have pt : s1.heap.IsTuple a its.toArray := p'
    have hal : a < s1.heap.objs.size := by
      obtain ⟨o, ho, _⟩ := id pt
      exact Heap.lt_size ho
    refine enum_begins0 (begins_tuple a its.toArray) pt fun h' he hit hsz hk => wpAny_pyIter_enum he ?_
    have I2 : Inv X pins σ H1 { s1 with heap := h' } := I1.kept (t' := s1.toks) hk
    have gt : ∀ b, b ∈ [s1.heap.objs.size + 1, s1.heap.objs.size] → s1.heap.objs.size ≤ b := fun b hb => by
      rcases List.mem_cons.mp hb with n | n
      · rw [n]; exact Nat.le_add_right _ _
      · rw [List.mem_singleton.mp n]; exact Nat.le_refl _
    exact ⟨s1.heap.objs.size + 1, [s1.heap.objs.size + 1, s1.heap.objs.size], _, _, H1, rfl, I2, turn_enumP a (s1.heap.objs.size + 1) s1.heap.objs.size, ⟨⟨.none, he⟩, ⟨_, hit, rfl, rfl⟩, Nat.succ_ne_self _, Nat.ne_of_gt (Nat.lt_succ_of_lt hal), Nat.ne_of_lt hal⟩, fun b hb => I1.fpOk (gt b hb) (I1.hok.fresh (gt b hb)), q⟩
theorem for_enumP {K : PySem.W.Frag} {a : Addr} {xs : List V} {g : TG} {tb : TS} {D : Ends} {σ : L2.St} {H : Hp} (Pv : Nat → L2.St → Hp → Prop) (h0 : Pv 0 σ H) (hl : ∀ i σ H, i ≤ xs.length → Pv i σ H → SqT K H a xs)
    (hs : ∀ (i : Nat) (x : V) (T : Addr) (σ : L2.St) (H : Hp), xs[i]? = some x → Pv i σ H → H T = none → g (.ref T) σ (upd H T (.tup [.int ((i : Nat) : Int), x])) fun σ2 H2 => tb { D with nx := Pv (i + 1), ct := Pv (i + 1), bk := D.nx } σ2 H2)
    (hd : ∀ σ H, Pv xs.length σ H → D.nx σ H) :
    ∃ W : Nat → Nat → L2.St → Hp → Prop, (∃ m, W 0 m σ H) ∧ ∀ i m σ H, W i m σ H → ((Iep K a).stop i H ∧ D.nx σ H) ∨ ((Iep K a).go i H ∧ ∃ N : L2.St → Hp → Prop, (∀ σ' H', N σ' H' → ∃ m', m' < m ∧ W (i + 1) m' σ' H') ∧
      ∀ v H', (Iep K a).yld i H v H' → g v σ H' fun σ2 H2 => tb { D with nx := N, ct := N, bk := D.nx } σ2 H2) := by
  refine ⟨fun i m σ H => m = xs.length - i ∧ i ≤ xs.length ∧ Pv i σ H, ⟨xs.length, by simp, Nat.zero_le _, h0⟩, ?_⟩
  rintro i m σ H ⟨rfl, hi, p⟩
  have q := hl i σ H hi p
  by_cases lt : i < xs.length
  · refine .inr ⟨⟨xs, xs[i], q, by simp [lt]⟩, Pv (i + 1), fun σ' H' p' => ⟨xs.length - (i + 1), by omega, rfl, lt, p'⟩, ?_⟩
    rintro v H' ⟨T, x, rfl, hT, rfl, hx⟩
    exact hs i x T σ _ (hx xs q) p hT
  · have e : i = xs.length := by omega
    subst e
    exact .inl ⟨⟨xs, q, Nat.le_refl _⟩, hd σ H p⟩

end SxK

set_option Elab.async false
set_option linter.all false
set_option maxRecDepth 100000
set_option maxHeartbeats 2000000
/-! sep.join(reversed(x)), x a list of texts -/
namespace SxA
open PySem PySem.Spec PyProof.Rows L2
section
variable {prog : Program} {w : World} {A : Around} {E : Value → Shared → Prop} {s : Shared}
theorem call_join_rev {it l : Addr} {items : Array Value} {x : Str} {t : Tok} {ys : List Str} {Q : Value → Shared → Prop} (hh : A.handled = none) (hit : s.heap.IsRevIter it l ((items.size : Int) - 1)) (hl : s.heap.IsList l items) (hne : l ≠ it) (hn : items.size ≤ sizeLine)
    (hs : ∀ acc : Array Value, ItemsOf (fun i v => items[items.size - 1 - i]? = some v) acc items.size → StrsAre acc.toList ys) (hok : (ys.map (·.length)).sum + ys.length * x.length ≤ 16777216)
    (hQ : ∀ (h' : Heap) (tk : Nat) (u : Tok), (∀ b o, b ≠ it → s.heap.get? b = some o → h'.get? b = some o) → Q (.str (Txt.join x ys) u) { s with heap := h', toks := tk }) :
    wpAny (model prog w) A (call (.builtin "str.join") [.str x t, .ref it]) Q E s := by
  have hT : s.TypeIs (.ref it) "list_reverseiterator" := hit.typeIs
  have hh1 : A.in1.in1.handled = none := hh
  refine wpAny_call (codeAny_call_builtin F.slot_str_join.plain F.entry_str_join (F.slot_str_join.check _ _ _ _ _ _ _ _ (typeIs_str _ _ _) (F.args_str_join_2 _ _) ?_))
  rw [join_tree_other]
  refine wpAny_bind (wpAny_typeOf hT ?_)
  show wpAny _ A.in1 ((pyIter (.ref it)).tryCatch _ >>= fun i2 => collect i2 >>= fun found => joinTail x found) _ _ s
  refine wpAny_bind (wpAny_tryCatch (wpAny_pyIter_revIter hit ?_))
  refine wpAny_bind (RT.collect_rev (A := A.in1) hh hit hl hne hn fun h' tk acc hk hacc => ?_)
  obtain ⟨lv, e1, e2⟩ := strsAre_values (hs acc hacc)
  rw [e1]
  have j1 : JoinOk x (lv.map (·.1)) = true := by rw [e2]; exact joinOk_of hok
  have j2 := j1
  unfold JoinOk at j2
  rw [Bool.not_eq_true'] at j2
  have g : Gives (joinTail x (strValues lv)) (joinMade x lv) := by
    have g1 := gives_joinTail x lv j2
    cases lv with
    | nil => exact g1
    | cons p r => cases r with
      | nil => exact g1
      | cons p2 r2 => exact g1
  exact g prog w A (wants Q E) _ (post_join lv ⟨joinFit_length j2, fun u k => by rw [e2]; exact hQ h' k u hk⟩)
end
def tJoinRev (K : PySem.W.Frag) (to te : TE) : TE := fun σ H Q => to σ H fun x H1 => (∃ a, x = .str a) ∧ te σ H1 fun v H2 => ∃ (a : Str) (l : Addr) (ys : List Str), x = .str a ∧ v = .ref l ∧ SqL K H2 l (ys.map V.str) ∧ (ys.map (·.length)).sum + ys.length * a.length ≤ 16777216 ∧ Q (.str (Txt.join a ys.reverse)) H2
theorem pe_joinRev {X : Cx} {o e : Expr} {to te : TE} {apos pos p2 pos2 : Pos} (hg2 : Gl X "reversed") (hm2 : X.mg "reversed" = none) (ho : PE X o to) (he : PE X e te) (hc : X.calm = true := by rfl)
    (hs : starEach [.Call (.Name "reversed" p2) [e] [] pos2] X.env = [(false, eval (.Call (.Name "reversed" p2) [e] [] pos2) X.env)] := by rfl)
    (hs2 : starEach [e] X.env = (false, eval e X.env) :: starEach [] X.env := by rfl)
    (hbase : attributeBase o "join" X.env (eval o X.env) = eval o X.env := by rfl) (hline : (apos.endLine == pos.line) = true := by rfl) :
    PE X (.Call (.Attribute o "join" apos) [.Call (.Name "reversed" p2) [e] [] pos2] [] pos) (tJoinRev X.K to te) := by
  refine ⟨fun pins s σ H Q I h => ?_⟩
  refine PySem.Call_method1 hbase hs hline (thn (ho.run pins s σ H _ I h) fun v s1 ⟨x, H1, I1, r1, q1⟩ => ?_)
  obtain ⟨⟨a, rfl⟩, q1⟩ := q1
  obtain ⟨t, rfl⟩ := _root_.id r1
  refine ⟨"str", _, F.plainAttrs_str, F.slot_str_join, F.type_str_join, typeIs_str _ _ _, (fun _ e => nomatch e), Calls.callWith_builtin rfl (Calls.evalArgs_plain (Calls.spliced_cons ?_))⟩
  refine Call_ (ld_blt I1 hg2 hm2 PyProof.Rows.boot_reversed (PyProof.Rows.callWith_type1 (args_cons (thn (he.run pins s1 σ H1 _ I1 q1) fun u s2 ⟨y, H2, I2, r2, q2⟩ => args_nil ?_) hs2) hs2 rfl))
  obtain ⟨a', l, ys, ex, rfl, hq, hz, q⟩ := q2
  cases ex
  obtain rfl : u = Value.ref l := r2
  obtain ⟨its, rv, p', hlen⟩ := I2.list hq
  refine call_reversed_list p'.isList (Calls.spliced_nil ?_)
  have k0 : ∀ b o, s2.heap.get? b = some o → (s2.heap.push (revObj l ((its.toArray.size : Int) - 1))).get? b = some o := fun b o e => Heap.get?_push_of_some _ e
  have I3 : Inv X pins σ H2 { s2 with heap := s2.heap.push (revObj l ((its.toArray.size : Int) - 1)) } := I2.kept (t' := s2.toks) k0
  obtain ⟨f0, f1, f2, f3, f4, f5⟩ := I2.fpOk (H' := H2) (b := s2.heap.objs.size) (Nat.le_refl _) (I2.hok.fresh (Nat.le_refl _))
  have hl := p'.isList
  obtain ⟨ol, hol, _⟩ := id hl
  have hne : l ≠ s2.heap.objs.size := Nat.ne_of_lt (Heap.lt_size hol)
  have hn : its.toArray.size ≤ sizeLine := by rw [List.size_toArray, ← rv.length]; exact hlen
  refine call_join_rev (ys := ys.reverse) (s := { s2 with heap := s2.heap.push (revObj l ((its.toArray.size : Int) - 1)) }) (I2.ok.hd hc) ⟨_, Heap.get?_push_size _ rfl, rfl, rfl⟩ (hl.push _) hne hn (fun acc ha => ?_) (by rw [List.map_reverse, List.sum_reverse, List.length_reverse]; exact hz) fun h' tk u hk => ?_
  · have r2 := RT.vals_rev rv ha
    rw [← List.map_reverse] at r2
    exact strs_of_vals r2
  · have I4 : Inv X pins σ H2 { s2 with heap := h', toks := tk } := I3.turned (t' := tk) (fun b o hb e => hk b o hb e) f0 f1 f3 f4 f5
    exact ⟨.str _, H2, I4, ⟨u, rfl⟩, q⟩
end SxA

set_option Elab.async false
set_option linter.all false
set_option maxRecDepth 100000
set_option maxHeartbeats 2000000
namespace Sx
open PySem PySem.Spec PyProof.Rows L2 SxA SxK
/-! ### the digits of a number of at most ten -/
def spNumberWord : Sp := fun vs H Q _ => ∃ (n : Int), vs = [.int n] ∧ (0 ≤ n ∧ n < 10 ^ 10) ∧ ∀ H', Same H H' → Q (.str (Str.ofString (toString n))) H'
theorem nw_log {l : Int} (h0 : 0 ≤ l) (h : l < 10 ^ 10) : l.natAbs.log2 < 1920 := by
  by_cases n : l.natAbs = 0
  · rw [n]; decide
  · exact (Nat.log2_lt n).mpr (Nat.lt_of_lt_of_le (show l.natAbs < 10 ^ 10 by omega) (by decide))
section
variable {P : Program} {w : World} {K : PySem.W.Frag} {mg : Str → Option Value} {base : Heap}
abbrev nsNumberWord : List Str := ["number", "parts", "rest", "part"]
theorem scNumberWord : FnScope nsNumberWord ["number"] (defScope sNumberWord) := ⟨rfl, rfl, rfl, by decide +kernel, rfl, by decide +kernel, by decide +kernel⟩
theorem ok_number_word (t : T K mg) : Ok P w K mg base 1 "number_word" ["number"] spNumberWord := by
  refine mkOk t.d_number_word t.g_number_word scNumberWord (fun vs H Q E h => ?_) (fun _ _ _ _ _ _ us hl => match us, hl with | [_], _ => rfl) fun cdv A outer s H vs Q E hr h => ?_
  · obtain ⟨n, rfl, _⟩ := h; rfl
  obtain ⟨n, rfl, hn, k⟩ := h
  obtain ⟨kP, iP⟩ := t.i_PART
  obtain ⟨kD, iD⟩ := t.i_PART_DIGITS
  refine ⟨_, pss_cons (ps_set (i := 1) scNumberWord.nd rfl (Or.inl rfl) (pe_lst pa_nil))
    (pss_cons (ps_set (i := 2) scNumberWord.nd rfl (Or.inl rfl) (pe_callB call_abs rfl t.f_abs (by decide +kernel) (pa_cons (pv 0) pa_nil)))
    (pss_cons (ps_while PassesOwn.never (pt_cmpR op_ge (pv 2) (pgi rfl iP) (nomark _))
      (pss_cons (ps_asg (pe_callB call_divmod rfl t.f_divmod (by decide +kernel) (pa_cons (pv 2) (pa_cons (pgi rfl iP) pa_nil))) (pg_tup rfl (pgs_cons (pg_name (i := 2) scNumberWord.nd rfl (Or.inl rfl)) (pgs_cons (pg_name (i := 3) scNumberWord.nd rfl (Or.inl rfl)) pgs_nil))))
    (pss_one (ps_expr (pe_bm PySem.F.plainAttrs_list PySem.F.slot_list_append PySem.F.type_list_append mt_append (pv 1) (pa_cons (pe_bm PySem.F.plainAttrs_str PySem.F.slot_str_zfill PySem.F.type_str_zfill mt_zfill (pe_callTy call_str_int rfl t.f_str (by decide +kernel) (pa_cons (pv 3) pa_nil)) (pa_cons (pgi rfl iD) pa_nil)) pa_nil))))))
    (pss_cons (ps_expr (pe_bm PySem.F.plainAttrs_list PySem.F.slot_list_append PySem.F.type_list_append mt_append (pv 1) (pa_cons (pe_callTy call_str_int rfl t.f_str (by decide +kernel) (pa_cons (pv 2) pa_nil)) pa_nil)))
    (pss_cons (ps_if (pt_cmpR op_lt (pv 0) pe_int (nomark _))
      (pss_one (ps_expr (pe_bm PySem.F.plainAttrs_list PySem.F.slot_list_append PySem.F.type_list_append mt_append (pv 1) (pa_cons pe_str pa_nil))))
      pss_nil)
    (pss_one (ps_ret (pe_joinRev rfl t.f_reversed pe_str (pv 1)))))))), ?_⟩
  have l10 : n.natAbs.log2 < 1920 := nw_log hn.1 hn.2
  have tl : (Str.ofString (toString n)).length ≤ 10 := toString_length_le hn.1 (by decide) hn.2
  refine ⟨(by show 0 ≤ sizeLine; decide), fun D hD => ?_⟩
  refine ⟨_, rfl, n, rfl, ?_⟩
  rw [if_neg (show ¬ n < 0 by omega)]
  refine ⟨fun μ σ' H' => σ' = [some (.int n), some (.ref D), some (.int n), none] ∧ H' = upd H D (.lst []), ⟨0, rfl, rfl⟩, ?_⟩
  rintro μ σ' H' ⟨rfl, rfl⟩
  refine ⟨_, rfl, _, _, rfl, rfl, _, rfl, ite2 (fun h1 => ?_) (fun h1 => ?_)⟩
  · exfalso
    have h2 : (10000000000000000000000000000000000000000000000000000000000000000 : Int) ≤ n := of_decide_eq_true h1
    omega
  refine ⟨_, rfl, .inl ⟨rfl, _, SqL.of upd_same⟩, _, rfl, n, rfl, l10, D, _, _, rfl, rfl, upd_same, (by show 0 < sizeLine; decide), ?_⟩
  refine ⟨_, rfl, _, _, rfl, rfl, _, rfl, ite2 (fun h2 => ?_) (fun h2 => ?_)⟩
  · exfalso
    have h3 : n < 0 := of_decide_eq_true h2
    omega
  have ej : Txt.join (Str.ofString "") [Str.ofString (toString n)] = Str.ofString (toString n) := by first | rfl | simp [Txt.join]
  refine ⟨⟨_, rfl⟩, _, rfl, _, D, [Str.ofString (toString n)], rfl, rfl, SqL.of upd_same, ?_, ?_⟩
  · show ([Str.ofString (toString n)].map (·.length)).sum + 1 * (Str.ofString "").length ≤ 16777216
    have e0 : (Str.ofString "").length = 0 := rfl
    rw [e0, List.map_cons, List.map_nil, List.sum_cons, List.sum_nil]
    omega
  · show Q (.str (Txt.join (Str.ofString "") [Str.ofString (toString n)])) _
    rw [ej]
    exact k _ (Same.put (Same.new hD) hD)
end
end Sx

set_option Elab.async false
set_option linter.all false
set_option maxRecDepth 100000
set_option maxHeartbeats 2000000
namespace Sx
open PySem PySem.Spec PyProof.Rows L2 SxA SxK
/-! ### figures -/
def dgt (n : Int) : Str := Str.ofString (toString n)
def figF (n : Int) : List Int := (dgt n).cps.toList.map fun c : Nat => ((c : Int) - 48) + 1
theorem chk1 : ∀ c : Nat, c < 58 → 48 ≤ c → PySem.intText? ⟨#[c]⟩ = some ((c : Int) - 48) := by decide +kernel
theorem dgt_fine : ∀ k : Fin 1000, (dgt (k.val : Int)).cps.toList.all (fun c => decide (48 ≤ c) && decide (c < 58)) = true ∧ (dgt (k.val : Int)).length ≤ 3 := by decide +kernel
theorem dgt_ok {n : Int} (h : 0 ≤ n) (h2 : n < 1000) : (∀ c ∈ (dgt n).cps.toList, 48 ≤ c ∧ c < 58) ∧ (dgt n).cps.toList.length ≤ 3 := by
  have e := dgt_fine ⟨n.toNat, by omega⟩
  have en : ((n.toNat : Nat) : Int) = n := by omega
  simp only [en] at e
  refine ⟨fun c hc => ?_, ?_⟩
  · have := List.all_eq_true.mp e.1 c hc
    simpa using this
  · have := e.2
    show (dgt n).cps.toList.length ≤ 3
    rw [Array.length_toList]
    exact this
theorem figF_len {n : Int} (h : 0 ≤ n) (h2 : n < 1000) : (figF n).length ≤ 3 := by
  unfold figF
  rw [List.length_map]
  exact (dgt_ok h h2).2
def spFig : Sp := fun vs H Q _ => ∃ n : Int, vs = [.int n] ∧ 0 ≤ n ∧ n < 1000 ∧ ∀ p H', H p = none → Same H H' → H' p = some (.lst ((figF n).map V.int)) → Q (.ref p) H'
def labF : List Int → List Int
  | [] => []
  | n :: r => figF n ++ r.flatMap fun m => 11 :: figF m
/-- the row as far as the first i numbers go -/
def labI (l : List Int) (i : Nat) : List Int := labF (l.take i)
theorem labF_snoc : ∀ (l : List Int) (n : Int), labF (l ++ [n]) = labF l ++ (if l = [] then figF n else 11 :: figF n)
  | [], n => by simp [labF]
  | m :: r, n => by
    show figF m ++ (r ++ [n]).flatMap (fun m => 11 :: figF m) = _
    rw [List.flatMap_append, if_neg (by simp)]
    show _ = (figF m ++ r.flatMap fun m => 11 :: figF m) ++ (11 :: figF n)
    simp
theorem labF_len : ∀ {l : List Int}, (∀ n ∈ l, 0 ≤ n ∧ n < 1000) → (labF l).length ≤ 4 * l.length
  | [], _ => by simp [labF]
  | m :: r, h => by
    have h0 := h m List.mem_cons_self
    have h1 := figF_len h0.1 h0.2
    have h2 : ∀ r : List Int, (∀ n ∈ r, 0 ≤ n ∧ n < 1000) → (r.flatMap fun m => 11 :: figF m).length ≤ 4 * r.length := fun r hr => by
      induction r with
      | nil => simp
      | cons a r ih =>
        have := ih fun n hn => hr n (List.mem_cons_of_mem _ hn)
        have q := hr a List.mem_cons_self
        have q2 := figF_len q.1 q.2
        rw [List.flatMap_cons, List.length_append, List.length_cons, List.length_cons]
        omega
    have := h2 r fun n hn => h n (List.mem_cons_of_mem _ hn)
    show (figF m ++ r.flatMap fun m => 11 :: figF m).length ≤ 4 * (r.length + 1)
    rw [List.length_append]
    omega
def spLabel (K : PySem.W.Frag) : Sp := fun vs H Q _ => ∃ (a : Addr) (l : List Int), vs = [.ref a] ∧ H a = some (.tup (l.map V.int)) ∧ l.length ≤ 100 ∧ (∀ n ∈ l, 0 ≤ n ∧ n < 1000) ∧ ∀ p H', H p = none → Same H H' → H' p = some (.lst ((labF l).map V.int)) → Q (.ref p) H'
section
variable {P : Program} {w : World} {K : PySem.W.Frag} {mg : Str → Option Value} {base : Heap}
theorem fig_lc {z : Str} {te : TE} {i0 : Nat} {vs : List Nat} {σ : L2.St} {H1 : Hp} {D : Addr} {Qd : Hp → Prop} (hz : (∀ c ∈ z.cps.toList, 48 ≤ c ∧ c < 58) ∧ z.cps.toList.length ≤ 3) (hD : H1 D = none)
    (hw : ∀ c : Nat, wipe ((wipe σ vs).set i0 (some (.str (sg c)))) vs = wipe σ vs)
    (he : ∀ (c : Nat) (H : Hp) (Q : VK), 48 ≤ c → c < 58 → Q (.int (((c : Int) - 48) + 1)) H → te ((wipe σ vs).set i0 (some (.str (sg c)))) H Q)
    (hd : ∀ H, Same H1 H → H D = some (.lst ((z.cps.toList.map fun c : Nat => ((c : Int) - 48) + 1).map V.int)) → Qd H) :
    ∃ W : Nat → Nat → Hp → Prop, (∃ m, W 0 m (upd H1 D (.lst []))) ∧ ∀ i m H, W i m H → ((Its z).stop i H ∧ Qd H) ∨ ((Its z).go i H ∧ ∃ Nx : Hp → Prop, (∀ H', Nx H' → ∃ m', m' < m ∧ W (i + 1) m' H') ∧
      ∀ x H', (Its z).yld i H x H' → (gName i0) x (wipe σ vs) H' fun σ2 H2 => wipe σ2 vs = wipe σ vs ∧ tYes σ2 H2 fun b H3 => if b = true then te σ2 H3 fun y H4 => ∃ acc, H4 D = some (.lst acc) ∧ acc.length < sizeLine ∧ Nx (upd H4 D (.lst (acc ++ [y]))) else Nx H3) := by
  have big : 3 ≤ sizeLine := by decide
  refine lc_text (ys := (z.cps.toList.map fun c : Nat => ((c : Int) - 48) + 1).map V.int) hD (by simp) (by rw [List.length_map, List.length_map]; omega) hw (fun i c y H Q hc hy sm k1 => ?_) hd
  rw [List.getElem?_map, List.getElem?_map, hc] at hy
  obtain rfl := Option.some.inj hy
  have := hz.1 c (List.mem_of_getElem? hc)
  exact he c H Q this.1 this.2 (k1 H fun _ _ z => z)
abbrev nsFigures : List Str := ["number", "digit"]
theorem scFigures : FnScope nsFigures ["number"] (defScope sFigures) := ⟨rfl, rfl, rfl, by decide +kernel, rfl, by decide +kernel, by decide +kernel⟩
theorem ok_figures (t : T K mg) : Ok P w K mg base 2 "figures" ["number"] spFig := by
  refine mkOk t.d_figures t.g_figures scFigures (fun vs H Q E h => ?_) (fun _ _ _ _ _ _ us hl => match us, hl with | [_], _ => rfl) fun cdv A outer s H vs Q E hr h => ?_
  · obtain ⟨n, rfl, _⟩ := h; rfl
  obtain ⟨n, rfl, h0, h1, k⟩ := h
  have hr1 : Room 1 _ := hr.mono (by decide)
  refine ⟨_, pss_one (ps_ret (pe_lc (own := [("digit", 1)]) (g := gName 1) (tt := tYes) rfl scFigures.nd (pi_str (pe_ok (ok_number_word t) hr1 rfl (pa_cons (pe_callB call_abs rfl t.f_abs (by decide +kernel) (pa_cons (pv 0) pa_nil)) pa_nil))) (blkOk_by (own := [("digit", 1)]) (N := nsFigures) (sc := defScope sFigures) (by decide +kernel)) (fun _ _ _ _ _ => pg_name (i := 1) scFigures.nd rfl (Or.inl rfl)) (fun _ _ _ _ _ => pts_nil) (fun _ _ _ _ _ => (pe_op op_add (pe_callTy call_int_str rfl t.f_int (by decide +kernel) (pa_cons (pv 1) pa_nil)) pe_int)))), ?_⟩
  refine ⟨_, rfl, n, rfl, ?_⟩
  rw [if_neg (show ¬ n < 0 by omega)]
  refine ⟨n, rfl, ⟨h0, by omega⟩, fun H1 s1 => ⟨_, rfl, fun D hD => ?_⟩⟩
  refine fig_lc (dgt_ok h0 h1) hD (fun _ => rfl) (fun c H2 Q2 c0 c1 q => ?_) fun H2 s2 hH => k D H2 (Sx.Same.none s1 _ hD) (fun c o e => s2 _ _ (s1 _ _ e)) hH
  exact ⟨_, rfl, _, _, rfl, chk1 c c1 c0, (by show 1 ≤ 640; decide), _, _, rfl, rfl, q⟩
abbrev nsLawFigures : List Str := ["number", "digit"]
theorem scLawFigures : FnScope nsLawFigures ["number"] (defScope sLawFigures) := ⟨rfl, rfl, rfl, by decide +kernel, rfl, by decide +kernel, by decide +kernel⟩
theorem ok_law_figures (t : T K mg) : Ok P w K mg base 1 "_law_figures" ["number"] spFig := by
  refine mkOk t.d_law_figures t.g_law_figures scLawFigures (fun vs H Q E h => ?_) (fun _ _ _ _ _ _ us hl => match us, hl with | [_], _ => rfl) fun cdv A outer s H vs Q E hr h => ?_
  · obtain ⟨n, rfl, _⟩ := h; rfl
  obtain ⟨n, rfl, h0, h1, k⟩ := h
  refine ⟨_, pss_one (ps_ret (pe_lc (own := [("digit", 1)]) (g := gName 1) (tt := tYes) rfl scLawFigures.nd (pi_str (pe_callTy call_str_int rfl t.f_str (by decide +kernel) (pa_cons (pv 0) pa_nil))) (blkOk_by (own := [("digit", 1)]) (N := nsLawFigures) (sc := defScope sLawFigures) (by decide +kernel)) (fun _ _ _ _ _ => pg_name (i := 1) scLawFigures.nd rfl (Or.inl rfl)) (fun _ _ _ _ _ => pts_nil) (fun _ _ _ _ _ => (pe_op op_add (pe_callTy call_int_str rfl t.f_int (by decide +kernel) (pa_cons (pv 1) pa_nil)) pe_int)))), ?_⟩
  refine ⟨_, rfl, n, rfl, nw_log h0 (by omega), _, rfl, fun D hD => ?_⟩
  refine fig_lc (dgt_ok h0 h1) hD (fun _ => rfl) (fun c H2 Q2 c0 c1 q => ?_) fun H2 s2 hH => k D H2 hD s2 hH
  exact ⟨_, rfl, _, _, rfl, chk1 c c1 c0, (by show 1 ≤ 640; decide), _, _, rfl, rfl, q⟩
abbrev nsLabelRow : List Str := ["label", "row", "at", "number"]
theorem scLabelRow : FnScope nsLabelRow ["label"] (defScope sLabelRow) := ⟨rfl, rfl, rfl, by decide +kernel, rfl, by decide +kernel, by decide +kernel⟩
theorem ok_label_row (t : T K mg) : Ok P w K mg base 3 "label_row" ["label"] (spLabel K) := by
  obtain ⟨_, hk_LABEL_CELL⟩ := t.i_LABEL_CELL
  refine mkOk t.d_label_row t.g_label_row scLabelRow (fun vs H Q E h => ?_) (fun _ _ _ _ _ _ us hl => match us, hl with | [_], _ => rfl) fun cdv A outer s H vs Q E hr h => ?_
  · obtain ⟨a, l, rfl, _⟩ := h; rfl
  obtain ⟨a, l, rfl, ha, hl, hn, k⟩ := h
  have hr2 : Room 2 _ := hr.mono (by decide)
  refine ⟨_, pss_cons (ps_set (i := 1) scLabelRow.nd rfl (Or.inl rfl) (pe_lst pa_nil))
    (pss_cons (ps_for PassesOwn.never rfl (pi_enumP (by rfl) t.f_enumerate (pa_cons (pv 0) pa_nil)) (pg_tup rfl (pgs_cons (pg_name (i := 2) scLabelRow.nd rfl (Or.inl rfl)) (pgs_cons (pg_name (i := 3) scLabelRow.nd rfl (Or.inl rfl)) pgs_nil)))
      (C8.pss_cut (ps_if (pt_cmpR op_gt (pv 2) pe_int (nomark _))
      (pss_one (ps_expr (pe_bm PySem.F.plainAttrs_list PySem.F.slot_list_append PySem.F.type_list_append mt_append (pv 1) (pa_cons (pgi rfl hk_LABEL_CELL) pa_nil))))
      pss_nil)
    (pss_one (ps_expr (pe_bm PySem.F.plainAttrs_list PySem.F.slot_list_extend PySem.F.type_list_extend mt_extend (pv 1) (pa_cons (pe_ok (ok_figures t) hr2 rfl (pa_cons (pv 3) pa_nil)) pa_nil))))))
    (pss_one (ps_ret (pv 1)))), ?_⟩
  refine ⟨(by show 0 ≤ sizeLine; decide), fun R hR => ?_⟩
  have naR : a ≠ R := ne_of_none ha hR
  refine ⟨_, rfl, a, _, rfl, SqT.of (by rw [upd_ne naR]; exact ha), ?_⟩
  have big : 1000 ≤ sizeLine := by decide
  refine for_enumP (K := K) (a := a) (xs := l.map V.int) (fun i σ' H' => (∃ o1 o2 : Option V, σ' = [some (.ref a), some (.ref R), o1, o2]) ∧ H' R = some (.lst ((labI l i).map V.int)) ∧ (∀ c o, H c = some o → H' c = some o)) ⟨⟨_, _, rfl⟩, upd_same, fun c o e => by rw [upd_ne (ne_of_none e hR)]; exact e⟩ (fun i σ' H' _ q => SqT.of (q.2.2 _ _ ha)) ?_ ?_
  · rintro i v T2 σ' H1 hv ⟨⟨o1, o2, rfl⟩, h1, s1⟩ hT
    rw [List.getElem?_map] at hv
    obtain ⟨n, hni, rfl⟩ := Option.map_eq_some_iff.mp hv
    have n01 := hn n (List.mem_of_getElem? hni)
    have il := (List.getElem?_eq_some_iff.mp hni).1
    have sT : Same H1 (upd H1 T2 (.tup [.int ((i : Nat) : Int), .int n])) := Same.new hT
    refine ⟨T2, _, rfl, SqT.of upd_same, rfl, _, _, rfl, _, _, rfl, rfl, ?_⟩
    have h2 := sT _ _ h1
    have s2 : ∀ c o, H c = some o → (upd H1 T2 (.tup [.int ((i : Nat) : Int), .int n])) c = some o := fun c o e => sT _ _ (s1 c o e)
    generalize upd H1 T2 (.tup [.int ((i : Nat) : Int), .int n]) = H2 at h2 s2 ⊢
    have lI : (labI l i).length ≤ 4 * i := by
      have := labF_len (l := l.take i) fun n h => hn n (List.mem_of_mem_take h)
      rw [List.length_take] at this
      unfold labI
      omega
    have eI : labI l (i + 1) = labI l i ++ (if l.take i = [] then figF n else 11 :: figF n) := by
      unfold labI
      rw [List.take_add_one, hni]
      exact labF_snoc _ _
    refine ⟨fun σ3 H3 => σ3 = [some (.ref a), some (.ref R), some (.int ((i : Nat) : Int)), some (.int n)] ∧ H3 R = some (.lst (((labI l i) ++ (if l.take i = [] then [] else [11])).map V.int)) ∧ (∀ c o, H c = some o → H3 c = some o), ?_, ?_⟩
    · refine ⟨_, rfl, _, _, rfl, rfl, _, rfl, ?_⟩
      by_cases i0 : i = 0
      · rw [decide_eq_false (show ¬ (0 : Int) < ((i : Nat) : Int) by omega)]
        refine iteF ⟨rfl, ?_, s2⟩
        rw [if_pos (by rw [i0]; rfl), List.append_nil]
        exact h2
      · rw [decide_eq_true (show (0 : Int) < ((i : Nat) : Int) by omega)]
        refine iteT ⟨_, rfl, .inl ⟨rfl, _, SqL.of h2⟩, R, _, _, rfl, rfl, h2, by rw [List.length_map]; omega, rfl, ?_, fun c o e => by rw [upd_ne (ne_of_none e hR)]; exact s2 c o e⟩
        have ne : l.take i ≠ [] := fun e => by
          have := congrArg List.length e
          rw [List.length_take] at this
          exact absurd this (by show ¬ min i l.length = 0; omega)
        rw [upd_same, if_neg ne, List.map_append]
        rfl
    · rintro σ3 H3 ⟨rfl, h3, s3⟩
      refine ⟨_, rfl, .inl ⟨rfl, _, SqL.of h3⟩, _, rfl, n, rfl, n01.1, n01.2, fun p H4 hp s4 hp4 => ?_⟩
      have h4 := s4 _ _ h3
      have fl := figF_len n01.1 n01.2
      refine ⟨R, p, _, _, rfl, rfl, h4, hp4, ?_, ⟨_, _, rfl⟩, ?_, fun c o e => by rw [upd_ne (ne_of_none e hR)]; exact s4 _ _ (s3 c o e)⟩
      · rw [List.length_map, List.length_map, List.length_append]
        have : (if l.take i = [] then ([] : List Int) else [11]).length ≤ 1 := by split <;> simp
        omega
      · rw [upd_same, eI, ← List.map_append, List.append_assoc]
        congr 4
        split <;> rfl
  · rintro σ' H1 ⟨⟨o1, o2, rfl⟩, h1, s1⟩
    rw [List.length_map] at h1
    unfold labI at h1
    rw [List.take_length] at h1
    exact ⟨_, rfl, k R H1 hR s1 h1⟩
end
end Sx

set_option Elab.async false
set_option linter.all false
set_option maxRecDepth 100000
set_option maxHeartbeats 2000000
namespace Sx
open PySem PySem.Spec PyProof.Rows L2 SxA SxK
inductive KB where
  | head | par | item | note (n : Int) | brk
def KB.v : KB → List V
  | .head => [.str "head", .str "a"]
  | .par => [.str "par", .str "a"]
  | .item => [.str "item", .int 2, .str "a"]
  | .note n => [.str "note", .int n, .str "a"]
  | .brk => [.str "break"]
def KB.ok : KB → Prop
  | .note n => 1 ≤ n ∧ n ≤ 99
  | _ => True
def bmF (M : MD) : KB → List Int
  | .head => M.r 0
  | .par => M.r 1
  | .item => M.d.getD 1 []
  | .note n => (M.r 2 ++ figF n) ++ [0]
  | .brk => M.r 3
theorem sk0 (w h s : Int) (m : Addr) : (shF w h s m).lookup ("width" : Str) = some (.int w) := rfl
theorem sk1 (w h s : Int) (m : Addr) : (shF w h s m).lookup ("height" : Str) = some (.int h) := rfl
theorem sk2 (w h s : Int) (m : Addr) : (shF w h s m).lookup ("size" : Str) = some (.int s) := rfl
theorem sk3 (w h s : Int) (m : Addr) : (shF w h s m).lookup ("marks" : Str) = some (.ref m) := rfl
def spDepth (K : PySem.W.Frag) : Sp := fun vs H Q _ => ∃ (x dx : Addr) (w h s : Int) (m dm : Addr) (z : Nat → Addr) (dp d0 d1 d2 : Addr) (M : MD), vs = [.ref x, .int 2] ∧ ShAt K H x dx w h s m dm z dp [d0, d1, d2] M ∧ Q (.ref d1) H
def spBMark (K : PySem.W.Frag) : Sp := fun vs H Q _ => ∃ (x dx : Addr) (w h s : Int) (m dm : Addr) (z : Nat → Addr) (dp : Addr) (dz : List Addr) (M : MD) (B : Addr) (b : KB), vs = [.ref x, .ref B] ∧ ShAt K H x dx w h s m dm z dp dz M ∧ M.d.length = 3 ∧ H B = some (.tup b.v) ∧ b.ok ∧
  (M.r 2 ≠ [] ∧ (M.r 2).length ≤ 100) ∧ ∀ q H', Same H H' → H' q = some (.tup ((bmF M b).map V.int)) → Q (.ref q) H'
theorem figF_ne {n : Int} (h : 0 ≤ n) (h2 : n < 1000) : figF n ≠ [] := by
  have e : ∀ k : Fin 1000, figF (k.val : Int) ≠ [] := by decide +kernel
  have := e ⟨n.toNat, by omega⟩
  have en : ((n.toNat : Nat) : Int) = n := by omega
  simp only [en] at this
  exact this
section
variable {P : Program} {w : World} {K : PySem.W.Frag} {mg : Str → Option Value} {base : Heap}
abbrev nsDepthMark : List Str := ["shape", "depth", "depths"]
theorem scDepthMark : FnScope nsDepthMark ["shape", "depth"] (defScope sDepthMark) := ⟨rfl, rfl, rfl, by decide +kernel, rfl, by decide +kernel, by decide +kernel⟩
theorem ok_depth_mark (t : T K mg) : Ok P w K mg base 1 "depth_mark" ["shape", "depth"] (spDepth K) := by
  refine mkOk t.d_depth_mark t.g_depth_mark scDepthMark (fun vs H Q E h => ?_) (fun _ _ _ _ _ _ us hl => match us, hl with | [_, _], _ => rfl) fun cdv A outer s H vs Q E hr h => ?_
  · obtain ⟨x, dx, w, h, s, m, dm, z, dp, d0, d1, d2, M, rfl, _⟩ := h; rfl
  obtain ⟨x, dx, w, h, sz, m, dm, z, dp, d0, d1, d2, M, rfl, S, k⟩ := h
  refine ⟨_, pss_cons (ps_set (i := 2) scDepthMark.nd rfl (Or.inl rfl) (pe_fld (pe_fld (pv 0) rfl) rfl))
    (pss_one (ps_ret (pe_ix ix_list (pv 2) (pe_op op_sub (pe_callB (call_min2 rfl) rfl t.f_min boot_min (pa_cons (pe_callB (call_max2 rfl) rfl t.f_max boot_max (pa_cons (pv 1) (pa_cons pe_int pa_nil))) (pa_cons (pe_callB call_len_seq rfl t.f_len boot_len (pa_cons (pv 2) pa_nil)) pa_nil))) pe_int) (fun _ _ => rfl)))), ?_⟩
  refine ⟨_, rfl, x, _, dx, _, _, rfl, S.ins, t.c_Shape, t.n_Shape_marks, sk3 _ _ _ _, m, _, dm, _, _, rfl, S.mks.ins, t.c_Marks, t.n_Marks_depths, lkd _ _, ?_⟩
  refine ⟨_, rfl, _, rfl, 2, 1, rfl, _, rfl, dp, _, rfl, .inl (SqL.of S.mks.dep), _, _, rfl, _, _, rfl, rfl, ?_⟩
  exact ⟨dp, _, _, _, rfl, rfl, SqL.of S.mks.dep, rfl, k⟩
abbrev nsBlockMark : List Str := ["shape", "block", "marks", "kind"]
theorem scBlockMark : FnScope nsBlockMark ["shape", "block"] (defScope sBlockMark) := ⟨rfl, rfl, rfl, by decide +kernel, rfl, by decide +kernel, by decide +kernel⟩
theorem ok_block_mark (t : T K mg) : Ok P w K mg base 3 "block_mark" ["shape", "block"] (spBMark K) := by
  refine mkOk t.d_block_mark t.g_block_mark scBlockMark (fun vs H Q E h => ?_) (fun _ _ _ _ _ _ us hl => match us, hl with | [_, _], _ => rfl) fun cdv A outer s H vs Q E hr h => ?_
  · obtain ⟨x, dx, w, h, s, m, dm, z, dp, dz, M, B, b, rfl, _⟩ := h; rfl
  obtain ⟨x, dx, w, h, sz, m, dm, z, dp, dz, M, B, b, rfl, S, hd3, hB, hb, hr2', k⟩ := h
  have hr1 : Room 1 _ := hr.mono (by decide)
  have hr2 : Room 2 _ := hr.mono (by decide)
  refine ⟨_, pss_cons (ps_set (i := 2) scBlockMark.nd rfl (Or.inl rfl) (pe_fld (pv 0) rfl))
    (pss_cons (ps_set (i := 3) scBlockMark.nd rfl (Or.inl rfl) (pe_ix ix_tup (pv 1) pe_int (fun _ _ => rfl)))
    (pss_cons (ps_if (pt_cmpR op_eq (pv 3) pe_str (nomark _))
      (pss_one (ps_ret (pe_fld (pv 2) rfl)))
      pss_nil)
    (pss_cons (ps_if (pt_cmpR op_eq (pv 3) pe_str (nomark _))
      (pss_one (ps_ret (pe_fld (pv 2) rfl)))
      pss_nil)
    (pss_cons (ps_if (pt_cmpR op_eq (pv 3) pe_str (nomark _))
      (pss_one (ps_ret (pe_ok (ok_depth_mark t) hr1 rfl (pa_cons (pv 0) (pa_cons (pe_ix ix_tup (pv 1) pe_int (fun _ _ => rfl)) pa_nil)))))
      pss_nil)
    (pss_cons (ps_if (pt_cmpR op_eq (pv 3) pe_str (nomark _))
      (pss_one (ps_ret (pe_op op_catT (pe_op op_catT (pe_fld (pv 2) rfl) (pe_callTy call_tuple_of rfl t.f_tuple (by decide +kernel) (pa_cons (pe_ok (ok_figures t) hr2 rfl (pa_cons (pe_ix ix_tup (pv 1) pe_int (fun _ _ => rfl)) pa_nil)) pa_nil))) (pe_tup (pa_cons pe_int pa_nil)))))
      pss_nil)
    (pss_one (ps_ret (pe_fld (pv 2) rfl)))))))), ?_⟩
  refine ⟨_, rfl, x, _, dx, _, _, rfl, S.ins, t.c_Shape, t.n_Shape_marks, sk3 _ _ _ _, ?_⟩
  have sr : Same H H := fun _ _ z => z
  cases b with
  | head =>
    refine ⟨_, rfl, B, _, _, _, rfl, rfl, SqT.of hB, rfl, _, rfl, rfl, _, rfl, iteT ?_⟩
    exact ⟨_, rfl, m, _, dm, _, _, rfl, S.mks.ins, t.c_Marks, t.n_Marks_head, lk0 _ _, k _ _ sr (S.mks.el 0 (by decide))⟩
  | par =>
    refine ⟨_, rfl, B, _, _, _, rfl, rfl, SqT.of hB, rfl, _, rfl, rfl, _, rfl, iteF ⟨_, rfl, rfl, _, rfl, iteT ?_⟩⟩
    exact ⟨_, rfl, m, _, dm, _, _, rfl, S.mks.ins, t.c_Marks, t.n_Marks_par, lk1 _ _, k _ _ sr (S.mks.el 1 (by decide))⟩
  | item =>
    refine ⟨_, rfl, B, _, _, _, rfl, rfl, SqT.of hB, rfl, _, rfl, rfl, _, rfl, iteF ⟨_, rfl, rfl, _, rfl, iteF ⟨_, rfl, rfl, _, rfl, iteT ?_⟩⟩⟩
    have dl : dz.length = 3 := by rw [S.mks.del.1]; exact hd3
    match dz, dl with
    | [d0, d1, d2], _ =>
    have el : M.d[1]? = some (M.d.getD 1 []) := by
      rw [List.getD_eq_getElem?_getD, List.getElem?_eq_getElem (by omega)]
      rfl
    exact ⟨_, rfl, _, rfl, B, _, _, _, rfl, rfl, SqT.of hB, atI_nat (j := 1) rfl, x, dx, w, h, sz, m, dm, z, dp, d0, d1, d2, M, rfl, S, k d1 H sr (S.mks.del.2 1 d1 _ rfl el)⟩
  | note n =>
    obtain ⟨n1, n99⟩ := hb
    refine ⟨_, rfl, B, _, _, _, rfl, rfl, SqT.of hB, rfl, _, rfl, rfl, _, rfl, iteF ⟨_, rfl, rfl, _, rfl, iteF ⟨_, rfl, rfl, _, rfl, iteF ⟨_, rfl, rfl, _, rfl, iteT ?_⟩⟩⟩⟩
    refine ⟨_, rfl, m, _, dm, _, _, rfl, S.mks.ins, t.c_Marks, t.n_Marks_note, lk2 _ _, _, rfl, B, _, _, _, rfl, rfl, SqT.of hB, atI_nat (j := 1) rfl, n, rfl, by omega, by omega, fun p H1 hp s1 hp1 => ?_⟩
    refine ⟨p, _, rfl, .inl ⟨SqL.of hp1, fun q hq => ?_⟩⟩
    have s2 : Same H (upd H1 q (.tup ((figF n).map V.int))) := s1.trans (Same.new hq)
    have fl := figF_len (n := n) (by omega) (by omega)
    have big : 1000 ≤ sizeLine := by decide
    have hz2 := s2 _ _ (S.mks.el 2 (by decide))
    have ne2 : (M.r 2).map V.int ≠ [] := by intro e; exact hr2'.1 (List.map_eq_nil_iff.mp e)
    refine ⟨z 2, q, _, _, rfl, rfl, SqT.of hz2, SqT.of upd_same, ne2, by rw [List.length_map, List.length_map]; omega, fun e => absurd (List.map_eq_nil_iff.mp e) (figF_ne (by omega) (by omega)), fun _ p2 hp2 => ?_⟩
    have s3 := s2.trans (Same.new (o := .tup ((M.r 2).map V.int ++ (figF n).map V.int)) hp2)
    have hp2' := upd_same (H := upd H1 q (.tup ((figF n).map V.int))) (a := p2) (o := .tup ((M.r 2).map V.int ++ (figF n).map V.int))
    generalize upd (upd H1 q (.tup ((figF n).map V.int))) p2 (.tup ((M.r 2).map V.int ++ (figF n).map V.int)) = H2 at s3 hp2' ⊢
    refine ⟨(by show 1 ≤ sizeLine; decide), fun p3 hp3 => ?_⟩
    refine ⟨p2, p3, _, _, rfl, rfl, SqT.of (Same.new hp3 _ _ hp2'), SqT.of upd_same, by intro e; exact ne2 (List.append_eq_nil_iff.mp e).1, by rw [List.length_append, List.length_map, List.length_map]; show _ + 1 ≤ sizeLine; omega, fun e => (by cases e), fun _ p4 hp4 => ?_⟩
    refine k p4 _ (s3.trans ((Same.new hp3).trans (Same.new hp4))) ?_
    rw [upd_same]
    show _ = some (HO.tup ((((M.r 2) ++ figF n) ++ [0]).map V.int))
    rw [List.map_append, List.map_append]
    rfl
  | brk =>
    refine ⟨_, rfl, B, _, _, _, rfl, rfl, SqT.of hB, rfl, _, rfl, rfl, _, rfl, iteF ⟨_, rfl, rfl, _, rfl, iteF ⟨_, rfl, rfl, _, rfl, iteF ⟨_, rfl, rfl, _, rfl, iteF ?_⟩⟩⟩⟩
    exact ⟨_, rfl, m, _, dm, _, _, rfl, S.mks.ins, t.c_Marks, t.n_Marks_stop, lk3 _ _, k _ _ sr (S.mks.el 3 (by decide))⟩
end
end Sx

set_option Elab.async false
set_option linter.all false
set_option maxRecDepth 100000
set_option maxHeartbeats 2000000
namespace Sx
open PySem PySem.Spec PyProof.Rows L2 SxA SxK
/-! ### all but one place -/
/-! ### lists of lists of ints -/
def LsAt (H : Hp) (qs : List Addr) (L : List (List Int)) : Prop := qs.length = L.length ∧ ∀ (i : Nat) (q : Addr) (l : List Int), qs[i]? = some q → L[i]? = some l → H q = some (.lst (l.map V.int))
theorem LsAt.same {H H' : Hp} {qs : List Addr} {L : List (List Int)} (h : LsAt H qs L) (s : Same H H') : LsAt H' qs L := ⟨h.1, fun i q l a b => s _ _ (h.2 i q l a b)⟩
theorem LsAt.rows {H : Hp} {qs : List Addr} {L : List (List Int)} (h : LsAt H qs L) : RowsIn H qs L := ⟨h.1, fun i q l a b => .inl (h.2 i q l a b)⟩
theorem LsAt.nil (H : Hp) : LsAt H [] [] := ⟨rfl, fun i q l a => by simp at a⟩
theorem LsAt.snoc {H : Hp} {qs : List Addr} {L : List (List Int)} {q : Addr} {l : List Int} (h : LsAt H qs L) (hq : H q = some (.lst (l.map V.int))) : LsAt H (qs ++ [q]) (L ++ [l]) := by
  refine ⟨by rw [List.length_append, List.length_append, h.1]; rfl, fun i p m e1 e2 => ?_⟩
  by_cases c : i < qs.length
  · rw [List.getElem?_append_left c] at e1
    rw [List.getElem?_append_left (by rw [← h.1]; exact c)] at e2
    exact h.2 i p m e1 e2
  · rw [List.getElem?_append_right (by omega)] at e1
    rw [List.getElem?_append_right (by rw [← h.1]; omega), ← h.1] at e2
    have z : i - qs.length = 0 := by
      have := (List.getElem?_eq_some_iff.mp e1).1
      rw [List.length_singleton] at this
      omega
    rw [z] at e1 e2
    cases e1
    cases e2
    exact hq
/-- .. written at a place that none of them is -/
theorem LsAt.put {H : Hp} {qs : List Addr} {L : List (List Int)} {D : Addr} {o : HO} (h : LsAt H qs L) (n : ∀ q ∈ qs, q ≠ D) : LsAt (upd H D o) qs L := ⟨h.1, fun i q l a b => by rw [upd_ne (n q (List.mem_of_getElem? a))]; exact h.2 i q l a b⟩
theorem LsAt.but {H H' : Hp} {qs : List Addr} {L : List (List Int)} {D : Addr} (h : LsAt H qs L) (B : But D H H') (n : ∀ q ∈ qs, q ≠ D) : LsAt H' qs L := ⟨h.1, fun i q l a b => B _ _ (h.2 i q l a b) (n q (List.mem_of_getElem? a))⟩
structure LMk (H : Hp) (m : Addr) (L D : List (List Int)) : Prop where
  ex : ∃ Rl Dl ps ds, H m = some (.lst [.ref Rl, .ref Dl]) ∧ H Rl = some (.lst (ps.map V.ref)) ∧ H Dl = some (.lst (ds.map V.ref)) ∧ LsAt H ps L ∧ LsAt H ds D
theorem LMk.same {H H' : Hp} {m : Addr} {L D : List (List Int)} (h : LMk H m L D) (s : Same H H') : LMk H' m L D := by
  obtain ⟨Rl, Dl, ps, ds, a, b, c, d, e⟩ := h.ex
  exact ⟨Rl, Dl, ps, ds, s _ _ a, s _ _ b, s _ _ c, d.same s, e.same s⟩
def rowK (f : Int) (o : Option (Nat → Int)) (k : Nat) : List Int := match o with
  | none => [f + (k : Int)]
  | some c => [f + (k : Int), c k]
def rowsL (f : Int) (o : Option (Nat → Int)) : List (List Int) := (List.range 7).map (rowK f o)
def depL (f : Int) : List (List Int) := (List.range 3).map fun k : Nat => [f + 8, (k : Int)]
def OkO : Option (Nat → Int) → Prop
  | none => True
  | some c => ∀ k, k < 7 → 0 ≤ c k ∧ c k < 64
def mdL (L D : List (List Int)) : MD := ⟨fun k => L.getD k [], D⟩
theorem map_range_succ {α : Type} (F : Nat → α) (n : Nat) : (List.range (n + 1)).map F = (List.range n).map F ++ [F n] := by rw [List.range_succ, List.map_append]; rfl
def spLMarks : Sp := fun vs H Q _ => ∃ a, vs = [.ref a] ∧ Dr H a ∧ ∀ m f o H', 10 ≤ f → f ≤ 39 → OkO o → LMk (off a H') m (rowsL f o) (depL f) → m ≠ a → Dr H' a → But a H H' → H m = none → Q (.ref m) H'
section
variable {P : Program} {w : World} {K : PySem.W.Frag} {mg : Str → Option Value} {base : Heap}
abbrev nsLawMarks : List Str := ["draws", "first", "rows", "k", "depths"]
theorem scLawMarks : FnScope nsLawMarks ["draws"] (defScope sLawMarks) := ⟨rfl, rfl, rfl, by decide +kernel, rfl, by decide +kernel, by decide +kernel⟩
theorem ok_law_marks (t : T K mg) : Ok P w K mg base 2 "_law_marks" ["draws"] spLMarks := by
  refine mkOk t.d_law_marks t.g_law_marks scLawMarks (fun vs H Q E h => ?_) (fun _ _ _ _ _ _ us hl => match us, hl with | [_], _ => rfl) fun cdv A outer s H vs Q E hr h => ?_
  · obtain ⟨a, rfl, _⟩ := h; rfl
  obtain ⟨a, rfl, hD, k⟩ := h
  have hr1 : Room 1 _ := hr.mono (by decide)
  refine ⟨_, pss_cons (ps_set (i := 1) scLawMarks.nd rfl (Or.inr rfl) (pe_op op_add pe_int (pe_ok (ok_law_take t) hr1 rfl (pa_cons (pv 0) (pa_cons pe_int pa_nil)))))
    (pss_cons (ps_setLc (i := 2) (own := [("k", 3)]) (g := gName 3) (tt := tYes) (by rfl) scLawMarks.nd rfl rfl (sw_true rfl rfl rfl (by decide +kernel)) (pi_range1 rfl t.f_range (pa_cons pe_int pa_nil)) (blkOk_by (own := [("k", 3)]) (N := nsLawMarks) (sc := defScope sLawMarks) (by decide +kernel)) (fun _ _ _ _ _ => pg_name (i := 3) scLawMarks.nd rfl (Or.inl rfl)) (fun _ _ _ _ _ => pts_nil) (fun _ _ _ _ _ => (pe_lst (pa_cons (pe_op op_add (pv 1) (pv 3)) pa_nil))))
    (C8.pss_cut (ps_if (pt_cmpR op_eq (pe_ok (ok_law_take t) hr1 rfl (pa_cons (pv 0) (pa_cons pe_int pa_nil))) pe_int (nomark _))
      (pss_one (ps_setLc (i := 2) (own := [("k", 3)]) (g := gName 3) (tt := tYes) (by rfl) scLawMarks.nd rfl rfl (sw_true rfl rfl rfl (by decide +kernel)) (pi_range1 rfl t.f_range (pa_cons pe_int pa_nil)) (blkOk_by (own := [("k", 3)]) (N := nsLawMarks) (sc := defScope sLawMarks) (by decide +kernel)) (fun _ _ _ _ _ => pg_name (i := 3) scLawMarks.nd rfl (Or.inl rfl)) (fun _ _ _ _ _ => pts_nil) (fun _ _ _ _ _ => (pe_lst (pa_cons (pe_op op_add (pv 1) (pv 3)) (pa_cons (pe_ok (ok_law_take t) hr1 rfl (pa_cons (pv 0) (pa_cons pe_int pa_nil))) pa_nil))))))
      pss_nil)
    (pss_cons (ps_setLc (i := 4) (own := [("k", 3)]) (g := gName 3) (tt := tYes) (by rfl) scLawMarks.nd rfl rfl (sw_true rfl rfl rfl (by decide +kernel)) (pi_range1 rfl t.f_range (pa_cons pe_int pa_nil)) (blkOk_by (own := [("k", 3)]) (N := nsLawMarks) (sc := defScope sLawMarks) (by decide +kernel)) (fun _ _ _ _ _ => pg_name (i := 3) scLawMarks.nd rfl (Or.inl rfl)) (fun _ _ _ _ _ => pts_nil) (fun _ _ _ _ _ => (pe_lst (pa_cons (pe_op op_add (pv 1) pe_int) (pa_cons (pv 3) pa_nil)))))
    (pss_one (ps_ret (pe_lst (pa_cons (pv 2) (pa_cons (pv 4) pa_nil)))))))), ?_⟩
  refine ⟨_, rfl, a, 30, rfl, hD, by decide, fun v H1 v0 v1 D1 B1 => ⟨_, _, rfl, rfl, ?_⟩⟩
  show gName 1 (V.int (10 + v)) _ _ _
  obtain ⟨f, hf⟩ : ∃ f : Int, 10 + v = f := ⟨_, rfl⟩
  rw [hf]
  have f10 : 10 ≤ f := by omega
  have f39 : f ≤ 39 := by omega
  have big : 1000 ≤ sizeLine := by decide
  refine ⟨7, rfl, by decide, by decide, fun R hR => ?_⟩
  have naR : a ≠ R := D1.ne hR
  refine lc_range (lo := 0) (n := ((7 : Int)).toNat) (fun i H' => (∃ ps : List Addr, H' R = some (.lst (ps.map V.ref)) ∧ LsAt H' ps ((List.range i).map (rowK f none)) ∧ (∀ p ∈ ps, H1 p = none ∧ p ≠ R)) ∧ Same H1 H') ⟨⟨[], upd_same, LsAt.nil _, fun p h => (by cases h)⟩, Same.new hR⟩ ?_ ?_
  · rintro i H' hi ⟨⟨ps, hz, hL, hp⟩, s1⟩
    have pl := hL.1
    rw [List.length_map, List.length_range] at pl
    refine ⟨rfl, _, rfl, _, rfl, _, _, rfl, rfl, (by show 1 ≤ sizeLine; decide), fun q hq => ?_⟩
    have sq : Same H' (upd H' q (.lst [V.int (f + (0 + (i : Int)))])) := Same.new hq
    have nqR : q ≠ R := (ne_of_none hz hq).symm
    refine ⟨_, sq _ _ hz, by rw [List.length_map]; have : i < 7 := hi; omega, ⟨ps ++ [q], by rw [upd_same, List.map_append]; rfl, ?_, fun p hp' => ?_⟩, fun c o e => by rw [upd_ne (ne_of_none e hR)]; exact sq _ _ (s1 _ _ e)⟩
    · rw [map_range_succ]
      refine ((hL.same sq).snoc (q := q) ?_).put fun p hp' => ?_
      · rw [upd_same]
        show _ = some (HO.lst [V.int (f + (i : Int))])
        rw [Int.zero_add]
      · rcases List.mem_append.mp hp' with h | h
        · exact (hp p h).2
        · rw [List.mem_singleton.mp h]; exact nqR
    · rcases List.mem_append.mp hp' with h | h
      · exact hp p h
      · rw [List.mem_singleton.mp h]; exact ⟨Sx.Same.none s1 _ hq, nqR⟩
  rintro H2 ⟨⟨ps, hz, hL, hp⟩, s2⟩
  obtain ⟨oa1, ha1⟩ := D1.has
  have D2 := D1.same s2
  have B2 := B1.trans (But.of s2)
  refine ⟨fun σ3 H3 => ∃ (R' : Addr) (ps : List Addr) (o : Option (Nat → Int)), σ3 = [some (.ref a), some (.int f), some (.ref R'), none, none] ∧ OkO o ∧ H3 R' = some (.lst (ps.map V.ref)) ∧ LsAt H3 ps (rowsL f o) ∧ (∀ p ∈ ps, p ≠ a) ∧ R' ≠ a ∧ Dr H3 a ∧ But a H H3, ?_, ?_⟩
  · refine ⟨_, rfl, a, 3, rfl, D2, by decide, fun u H3 u0 u1 D3 B3 => ⟨rfl, _, rfl, ?_⟩⟩
    have ne1 : ∀ p ∈ ps, p ≠ a := fun p h e => by have := (hp p h).1; rw [e, ha1] at this; cases this
    by_cases c0 : V.int u = V.int 0
    · rw [decide_eq_true c0]
      refine iteT ⟨7, rfl, by decide, by decide, fun R2 hR2 => ?_⟩
      have naR2 : a ≠ R2 := D3.ne hR2
      refine lc_range (lo := 0) (n := ((7 : Int)).toNat) (fun i H' => (∃ (ps : List Addr) (c : Nat → Int), H' R2 = some (.lst (ps.map V.ref)) ∧ LsAt H' ps ((List.range i).map (rowK f (some c))) ∧ (∀ k, k < i → 0 ≤ c k ∧ c k < 64) ∧ (∀ p ∈ ps, p ≠ a ∧ p ≠ R2)) ∧ Dr H' a ∧ But a H3 H') ⟨⟨[], fun _ => 0, upd_same, LsAt.nil _, fun k h => absurd h (Nat.not_lt_zero _), fun p h => (by cases h)⟩, D3.new hR2, But.of (Same.new hR2)⟩ ?_ ?_
      · rintro i H' hi ⟨⟨ps, c, hz, hL, hc, hp⟩, D4, B4⟩
        have pl := hL.1
        rw [List.length_map, List.length_range] at pl
        refine ⟨rfl, _, rfl, _, rfl, _, _, rfl, rfl, _, rfl, a, 64, rfl, D4, by decide, fun x H5 x0 x1 D5 B5 => ⟨(by show 2 ≤ sizeLine; decide), fun q hq => ?_⟩⟩
        have hz5 := B5 _ _ hz naR2.symm
        have sq : Same H5 (upd H5 q (.lst [V.int (f + (0 + (i : Int))), V.int x])) := Same.new hq
        have nqR : q ≠ R2 := (ne_of_none hz5 hq).symm
        have nqa : q ≠ a := (D5.ne hq).symm
        refine ⟨_, sq _ _ hz5, by rw [List.length_map]; have : i < 7 := hi; omega, ⟨ps ++ [q], fun j => if j = i then x else c j, by rw [upd_same, List.map_append]; rfl, ?_, fun j hj => ?_, fun p hp' => ?_⟩, ?_, ?_⟩
        · rw [map_range_succ]
          have em : (List.range i).map (rowK f (some fun j => if j = i then x else c j)) = (List.range i).map (rowK f (some c)) := List.map_congr_left fun j hj => by
            have : j ≠ i := by have := List.mem_range.mp hj; omega
            show [f + (j : Int), if j = i then x else c j] = [f + (j : Int), c j]
            rw [if_neg this]
          rw [em]
          refine (((hL.but B5 fun p h => (hp p h).1).same sq).snoc (q := q) ?_).put fun p hp' => ?_
          · rw [upd_same]
            show _ = some (HO.lst [V.int (f + (i : Int)), V.int (if i = i then x else c i)])
            rw [Int.zero_add, if_pos rfl]
          · rcases List.mem_append.mp hp' with h | h
            · exact (hp p h).2
            · rw [List.mem_singleton.mp h]; exact nqR
        · show 0 ≤ (if j = i then x else c j) ∧ (if j = i then x else c j) < 64
          by_cases e : j = i
          · rw [if_pos e]; exact ⟨x0, x1⟩
          · rw [if_neg e]; exact hc j (by omega)
        · rcases List.mem_append.mp hp' with h | h
          · exact hp p h
          · rw [List.mem_singleton.mp h]; exact ⟨nqa, nqR⟩
        · exact (D5.same sq).put naR2
        · intro b o e n
          rw [upd_ne (ne_of_none e hR2)]
          exact sq _ _ (B5 _ _ (B4 b o e n) n)
      rintro H4 ⟨⟨ps, c, hz, hL, hc, hp⟩, D4, B4⟩
      exact ⟨R2, ps, some c, rfl, hc, hz, hL, fun p h => (hp p h).1, naR2.symm, D4, (B2.trans B3).trans B4⟩
    · rw [decide_eq_false c0]
      exact iteF ⟨R, ps, none, rfl, True.intro, B3 _ _ hz naR.symm, hL.but B3 ne1, ne1, naR.symm, D3, B2.trans B3⟩
  rintro σ3 H3 ⟨R', ps', o, rfl, oo, hz3, hL3, ne3, nR3, D3, B3⟩
  refine ⟨3, rfl, by decide, by decide, fun R2 hR2 => ?_⟩
  have naR2 : a ≠ R2 := D3.ne hR2
  obtain ⟨oa3, ha3⟩ := D3.has
  refine lc_range (lo := 0) (n := ((3 : Int)).toNat) (fun i H' => (∃ ds : List Addr, H' R2 = some (.lst (ds.map V.ref)) ∧ LsAt H' ds ((List.range i).map fun k : Nat => [f + 8, (k : Int)]) ∧ (∀ p ∈ ds, H3 p = none ∧ p ≠ R2)) ∧ Same H3 H') ⟨⟨[], upd_same, LsAt.nil _, fun p h => (by cases h)⟩, Same.new hR2⟩ ?_ ?_
  · rintro i H' hi ⟨⟨ds, hz, hL, hp⟩, s1⟩
    have pl := hL.1
    rw [List.length_map, List.length_range] at pl
    refine ⟨rfl, _, rfl, _, _, rfl, rfl, _, rfl, (by show 2 ≤ sizeLine; decide), fun q hq => ?_⟩
    have sq : Same H' (upd H' q (.lst [V.int (f + 8), V.int (0 + (i : Int))])) := Same.new hq
    have nqR : q ≠ R2 := (ne_of_none hz hq).symm
    refine ⟨_, sq _ _ hz, by rw [List.length_map]; have : i < 3 := hi; omega, ⟨ds ++ [q], by rw [upd_same, List.map_append]; rfl, ?_, fun p hp' => ?_⟩, fun c o e => by rw [upd_ne (ne_of_none e hR2)]; exact sq _ _ (s1 _ _ e)⟩
    · rw [map_range_succ]
      refine ((hL.same sq).snoc (q := q) ?_).put fun p hp' => ?_
      · rw [upd_same]
        show _ = some (HO.lst [V.int (f + 8), V.int (i : Int)])
        rw [Int.zero_add]
      · rcases List.mem_append.mp hp' with h | h
        · exact (hp p h).2
        · rw [List.mem_singleton.mp h]; exact nqR
    · rcases List.mem_append.mp hp' with h | h
      · exact hp p h
      · rw [List.mem_singleton.mp h]; exact ⟨Sx.Same.none s1 _ hq, nqR⟩
  rintro H4 ⟨⟨ds, hz4, hL4, hp4⟩, s4⟩
  refine ⟨_, rfl, _, rfl, (by show 2 ≤ sizeLine; decide), fun m hm => ?_⟩
  have sm : Same H4 (upd H4 m (.lst [.ref R', .ref R2])) := Same.new hm
  have s34 := s4.trans sm
  have nma : m ≠ a := (ne_of_none (s4 _ _ ha3) hm).symm
  have ned : ∀ d ∈ ds, d ≠ a := fun d h e => by have := (hp4 d h).1; rw [e, ha3] at this; cases this
  refine k m f o _ f10 f39 oo ⟨R', R2, ps', ds, by rw [off_ne nma]; exact upd_same, by rw [off_ne nR3]; exact s34 _ _ hz3, by rw [off_ne naR2.symm]; exact sm _ _ hz4, ⟨hL3.1, fun i q l e1 e2 => by rw [off_ne (ne3 q (List.mem_of_getElem? e1))]; exact s34 _ _ (hL3.2 i q l e1 e2)⟩, ⟨hL4.1, fun i q l e1 e2 => by rw [off_ne (ned q (List.mem_of_getElem? e1))]; exact sm _ _ (hL4.2 i q l e1 e2)⟩⟩ nma (D3.same s34) (B3.trans (But.of s34)) ?_
  obtain ⟨o0, ha0⟩ := hD.has
  exact Sx.But.none (B3.trans (But.of s4)) (s4 _ _ ha3) hm
end
end Sx

set_option Elab.async false
set_option linter.all false
set_option maxRecDepth 100000
set_option maxHeartbeats 2000000
namespace Sx
open PySem PySem.Spec PyProof.Rows L2 SxA SxK
theorem pe_mkX {X : Cx} {E : XK} {k : Nat} {C : Str} {ps : List Str} {sp : Sp} {p pos : Pos} {e : Expr} {es : List Expr} {t : TA} (M : MetX X.prog X.w X.K X.mg X.base k C "__init__" ps sp) (hx : Passes (L2.CX X.prog X.w) X E) (m : Mk X.K (He.ga X.K C) (He.ma X.K (He.ga X.K C) "__init__")) (hm : X.mg C = some (.ref (He.ga X.K C)))
    (hr : Room (k + 1) X.A) (hg : Gl X C) (ha : PA X (e :: es) t)
    (hdb : (C == ("__debug__" : Str)) = false := by decide) (he : starEach (e :: es) X.env = (false, eval e X.env) :: starEach es X.env := by rfl) (hpl : (backTo pos (starEach es X.env)).any (·.1) = false := by rfl) :
    PE X (.Call (.Name C p) (e :: es) [] pos) (tMake (He.ga X.K C) sp [] E t) := by
  obtain ⟨fd, F, b⟩ := M
  exact pe_make m F hr hg hm b .nil hx ha hdb he hpl
def spMadeMarks (K : PySem.W.Frag) : Sp := fun vs H Q _ => ∃ (m : Addr) (L D : List (List Int)), vs = [.ref m] ∧ LMk H m L D ∧ L.length = 7 ∧ D.length ≤ 100 ∧ ∀ y dy z dp dz H', Same H H' → H y = none → MkAt K H' y dy z dp dz (mdL L D) → Q (.ref y) H'
def spLShape : Sp := fun vs H Q _ => ∃ a, vs = [.ref a] ∧ Dr H a ∧ ∀ x w h s m f o H', sizesB w h s = true → 10 ≤ f → f ≤ 39 → OkO o → off a H' x = some (.lst [.int w, .int h, .int s, .ref m]) → LMk (off a H') m (rowsL f o) (depL f) → Dr H' a → But a H H' → Q (.ref x) H'
def spMadeShape (K : PySem.W.Frag) : Sp := fun vs H Q E => ∃ (x : Addr) (w h s : Int) (m : Addr) (L D : List (List Int)), vs = [.ref x] ∧ H x = some (.lst [.int w, .int h, .int s, .ref m]) ∧ LMk H m L D ∧ L.length = 7 ∧ D.length ≤ 100 ∧
  ((sizesB w h s && marksB (mdL L D)) = true → ∀ y dy m' dm' z dp dz H', ShAt K H' y dy w h s m' dm' z dp dz (mdL L D) → Same H H' → Q (.ref y) H') ∧ ((sizesB w h s && marksB (mdL L D)) = false → ∀ H', Same H H' → E (.ref (He.ga K "InvalidShape")) none H')
section
variable {P : Program} {w : World} {K : PySem.W.Frag} {mg : Str → Option Value} {base : Heap}
theorem passX {N : List Str} {q : Str} {sc : Scope} {f : Addr} {cdv : Value} {A : Around} {outer : List Env} {s : Shared} {H : Hp} {E : XK} : Passes (L2.CX P w) (cxOf (L2.CX P w) P w K mg base N q sc f cdv A outer s H E) E := passes_call (takes_of rfl rfl rfl rfl) fun _ _ _ _ h => h
abbrev nsLawMadeMarks : List Str := ["marks", "rows"]
theorem scLawMadeMarks : FnScope nsLawMadeMarks ["marks"] (defScope sLawMadeMarks) := ⟨rfl, rfl, rfl, by decide +kernel, rfl, by decide +kernel, by decide +kernel⟩
theorem ok_law_made_marks (t : T K mg) : Ok P w K mg base 3 "_law_made_marks" ["marks"] (spMadeMarks K) := by
  refine mkOk t.d_law_made_marks t.g_law_made_marks scLawMadeMarks (fun vs H Q E h => ?_) (fun _ _ _ _ _ _ us hl => match us, hl with | [_], _ => rfl) fun cdv A outer s H vs Q E hr h => ?_
  · obtain ⟨m, L, D, rfl, _⟩ := h; rfl
  obtain ⟨m, L, D, rfl, hM, hl, hd, k⟩ := h
  have hr2 : Room 2 _ := hr.mono (by decide)
  refine ⟨_, pss_cons (ps_set (i := 1) scLawMadeMarks.nd rfl (Or.inl rfl) (pe_ix ix_list (pv 0) pe_int (fun _ _ => rfl)))
    (pss_one (ps_ret (pe_mk (met_Marks_init t) t.m_Marks t.g_Marks hr2 rfl (pa_cons (pe_ix ix_list (pv 1) pe_int (fun _ _ => rfl)) (pa_cons (pe_ix ix_list (pv 1) pe_int (fun _ _ => rfl)) (pa_cons (pe_ix ix_list (pv 0) pe_int (fun _ _ => rfl)) (pa_cons (pe_ix ix_list (pv 1) pe_int (fun _ _ => rfl)) (pa_cons (pe_ix ix_list (pv 1) pe_int (fun _ _ => rfl)) (pa_cons (pe_ix ix_list (pv 1) pe_int (fun _ _ => rfl)) (pa_cons (pe_ix ix_list (pv 1) pe_int (fun _ _ => rfl)) (pa_cons (pe_ix ix_list (pv 1) pe_int (fun _ _ => rfl)) pa_nil))))))))))), ?_⟩
  obtain ⟨Rl, Dl, ps, ds, hm, hR, hDl, hP, hDs⟩ := hM.ex
  have pl : ps.length = 7 := by rw [hP.1]; exact hl
  obtain ⟨p, hp⟩ : ∃ p : Nat → Addr, ∀ j, j < 7 → ps[j]? = some (p j) := ⟨fun j => ps.getD j 0, fun j hj => by
    show ps[j]? = some (ps.getD j 0)
    rw [List.getD_eq_getElem?_getD, List.getElem?_eq_getElem (by omega)]
    rfl⟩
  have ix : ∀ (j : Nat), j < 7 → atI (ps.map V.ref) (j : Int) = some (.ref (p j)) := fun j hj => atI_nat (by rw [List.getElem?_map, hp j hj]; rfl)
  have hLj : ∀ j, j < 7 → L[j]? = some (L.getD j []) := fun j hj => by
    rw [List.getD_eq_getElem?_getD, List.getElem?_eq_getElem (by omega)]
    rfl
  refine ⟨_, rfl, m, _, _, .ref Rl, rfl, rfl, SqL.of hm, atI_nat (j := 0) rfl, ?_⟩
  refine ⟨_, rfl, Rl, _, _, .ref (p 0), rfl, rfl, SqL.of hR, ix 0 (by decide), _, rfl, Rl, _, _, .ref (p 1), rfl, rfl, SqL.of hR, ix 1 (by decide), _, rfl, m, _, _, .ref Dl, rfl, rfl, SqL.of hm, atI_nat (j := 1) rfl, ?_⟩
  refine ⟨_, rfl, Rl, _, _, .ref (p 2), rfl, rfl, SqL.of hR, ix 2 (by decide), _, rfl, Rl, _, _, .ref (p 3), rfl, rfl, SqL.of hR, ix 3 (by decide), _, rfl, Rl, _, _, .ref (p 4), rfl, rfl, SqL.of hR, ix 4 (by decide), ?_⟩
  refine ⟨_, rfl, Rl, _, _, .ref (p 5), rfl, rfl, SqL.of hR, ix 5 (by decide), _, rfl, Rl, _, _, .ref (p 6), rfl, rfl, SqL.of hR, ix 6 (by decide), fun y dy ny ndy ney => ?_⟩
  have s2 : Same H (upd (upd H dy (.own y)) y (.ins (He.ga K "Marks") dy [])) := Same.put (Same.new ndy) ny
  refine ⟨y, dy, Dl, p, ds, mdL L D, rfl, upd_same, s2 _ _ hDl, by rw [hDs.1]; exact hd, (hDs.same s2).rows, fun j hj => .inl (s2 _ _ (hP.2 j (p j) _ (hp j hj) (hLj j hj))), fun z dp dz H1 _ hM B => ⟨rfl, k y dy z dp dz H1 (fun c o e => B _ _ (s2 _ _ e) (ne_of_none e ny)) ny hM⟩⟩
abbrev nsLawShape : List Str := ["draws", "marks"]
theorem scLawShape : FnScope nsLawShape ["draws"] (defScope sLawShape) := ⟨rfl, rfl, rfl, by decide +kernel, rfl, by decide +kernel, by decide +kernel⟩
theorem ok_law_shape (t : T K mg) : Ok P w K mg base 3 "_law_shape" ["draws"] spLShape := by
  refine mkOk t.d_law_shape t.g_law_shape scLawShape (fun vs H Q E h => ?_) (fun _ _ _ _ _ _ us hl => match us, hl with | [_], _ => rfl) fun cdv A outer s H vs Q E hr h => ?_
  · obtain ⟨a, rfl, _⟩ := h; rfl
  obtain ⟨a, rfl, hD, k⟩ := h
  have hr1 : Room 1 _ := hr.mono (by decide)
  have hr2 : Room 2 _ := hr.mono (by decide)
  refine ⟨_, pss_cons (ps_set (i := 1) scLawShape.nd rfl (Or.inl rfl) (pe_ok (ok_law_marks t) hr2 rfl (pa_cons (pv 0) pa_nil)))
    (pss_one (ps_ret (pe_lst (pa_cons (pe_op op_add pe_int (pe_ok (ok_law_take t) hr1 rfl (pa_cons (pv 0) (pa_cons pe_int pa_nil)))) (pa_cons (pe_op op_add pe_int (pe_ok (ok_law_take t) hr1 rfl (pa_cons (pv 0) (pa_cons pe_int pa_nil)))) (pa_cons (pe_op op_add pe_int (pe_ok (ok_law_take t) hr1 rfl (pa_cons (pv 0) (pa_cons pe_int pa_nil)))) (pa_cons (pv 1) pa_nil))))))), ?_⟩
  refine ⟨_, rfl, a, rfl, hD, fun m f o H1 f1 f2 oo hM nma D1 B1 _ => ?_⟩
  refine ⟨_, rfl, a, 5, rfl, D1, by decide, fun u H2 u0 u1 D2 B2 => ⟨_, _, rfl, rfl, ?_⟩⟩
  refine ⟨_, rfl, a, 3, rfl, D2, by decide, fun v H3 v0 v1 D3 B3 => ⟨_, _, rfl, rfl, ?_⟩⟩
  refine ⟨_, rfl, a, 3, rfl, D3, by decide, fun x H4 x0 x1 D4 B4 => ⟨_, _, rfl, rfl, _, rfl, (by show 4 ≤ sizeLine; decide), fun q hq => ?_⟩⟩
  have nqa : q ≠ a := (D4.ne hq).symm
  have B14 := (B2.trans B3).trans B4
  have sq : Same H4 (upd H4 q (.lst [V.int (8 + u), V.int (3 + v), V.int (1 + x), V.ref m])) := Same.new hq
  refine k q _ _ _ m f o _ ?_ f1 f2 oo (by rw [off_ne nqa]; exact upd_same) (hM.same (off_but (B14.trans (But.of sq)))) (D4.same sq) ((B1.trans B14).trans (But.of sq))
  unfold sizesB
  rw [decide_eq_true (show 8 ≤ 8 + u by omega), decide_eq_true (show 8 + u ≤ 40 by omega), decide_eq_true (show 3 ≤ 3 + v by omega), decide_eq_true (show 3 + v ≤ 30 by omega), decide_eq_true (show 1 ≤ 1 + x by omega), decide_eq_true (show 1 + x ≤ 50 by omega)]
  rfl
abbrev nsLawMadeShape : List Str := ["shape"]
theorem scLawMadeShape : FnScope nsLawMadeShape ["shape"] (defScope sLawMadeShape) := ⟨rfl, rfl, rfl, by decide +kernel, rfl, by decide +kernel, by decide +kernel⟩
theorem ok_law_made_shape (t : T K mg) (kd : KDct K w (He.ga K "MOST_NUMBERS") "item" (.int 3)) (px : PexC K mg "InvalidShape") : OkX P w K mg base 6 "_law_made_shape" ["shape"] (spMadeShape K) := by
  refine mkOkX t.d_law_made_shape t.g_law_made_shape scLawMadeShape (fun vs H Q E h => ?_) (fun _ _ _ _ _ _ us hl => match us, hl with | [_], _ => rfl) fun cdv A outer s H vs Q E hr h => ?_
  · obtain ⟨x, w, h, s, m, L, D, rfl, _⟩ := h; rfl
  obtain ⟨x, wd, ht, sz, m, L, D, rfl, hx, hM, hl, hd, kt, kf⟩ := h
  have hr3 : Room 3 _ := hr.mono (by decide)
  have hr5 : Room 5 _ := hr.mono (by decide)
  refine ⟨_, pss_one (ps_ret (pe_mkX (met_Shape_init t kd px) passX t.m_Shape t.g_Shape hr5 rfl (pa_cons (pe_ix ix_list (pv 0) pe_int (fun _ _ => rfl)) (pa_cons (pe_ix ix_list (pv 0) pe_int (fun _ _ => rfl)) (pa_cons (pe_ix ix_list (pv 0) pe_int (fun _ _ => rfl)) (pa_cons (pe_ok (ok_law_made_marks t) hr3 rfl (pa_cons (pe_ix ix_list (pv 0) pe_int (fun _ _ => rfl)) pa_nil)) pa_nil)))))), ?_⟩
  refine ⟨_, rfl, x, _, _, .int wd, rfl, rfl, SqL.of hx, atI_nat (j := 0) rfl, _, rfl, x, _, _, .int ht, rfl, rfl, SqL.of hx, atI_nat (j := 1) rfl, _, rfl, x, _, _, .int sz, rfl, rfl, SqL.of hx, atI_nat (j := 2) rfl, _, rfl, x, _, _, .ref m, rfl, rfl, SqL.of hx, atI_nat (j := 3) rfl, ?_⟩
  refine ⟨m, L, D, rfl, hM, hl, hd, fun y dy z dp dz H1 s1 ny hK => fun q dq hq hdq neq => ?_⟩
  have s2 : Same H1 (upd (upd H1 dq (.own q)) q (.ins (He.ga K "Shape") dq [])) := Same.put (Same.new hdq) hq
  have dl : dz.length ≤ 100 := by rw [hK.del.1]; exact hd
  refine ⟨q, dq, wd, ht, sz, y, dy, z, dp, dz, mdL L D, rfl, upd_same, hK.same s2, dl, fun ok m' dm' z' dp' dz' H2 S B _ => ⟨rfl, kt ok q dq m' dm' z' dp' dz' H2 S fun c o e => B _ _ (s2 _ _ (s1 _ _ e)) (ne_of_none (s1 _ _ e) hq)⟩, fun no H2 s3 => kf no H2 (s1.trans (s2.trans s3))⟩
end
end Sx

set_option Elab.async false
set_option linter.all false
set_option maxRecDepth 100000
set_option maxHeartbeats 2000000
namespace Sx
open PySem PySem.Spec PyProof.Rows L2 SxA SxK
/-! ### when marks are good -/
theorem rows_mdL {L D : List (List Int)} (h : L.length = 7) : (mdL L D).rows = L ++ D := by
  match L, h with
  | [a0, a1, a2, a3, a4, a5, a6], _ => rfl
theorem marks_no {M : MD} {l : List Int} (h : l ∈ M.rows) (b : markB l = false) : marksB M = false := by
  have : M.rows.all markB = false := by
    rw [List.all_eq_false]
    exact ⟨l, h, by rw [b]; decide⟩
  unfold marksB
  rw [this]
  simp
theorem apart_no {L : List (List Int)} {i j : Nat} {x y : List Int} (hi : L[i]? = some x) (hj : L[j]? = some y) (n : j ≠ i) (e : y.take x.length = x) : apartB L = false := by
  have il := (List.getElem?_eq_some_iff.mp hi).1
  have jl := (List.getElem?_eq_some_iff.mp hj).1
  have gi : L.getD i [] = x := by rw [List.getD_eq_getElem?_getD, hi]; rfl
  have gj : L.getD j [] = y := by rw [List.getD_eq_getElem?_getD, hj]; rfl
  have : (List.range L.length).any (anyB L) = true := by
    rw [List.any_eq_true]
    refine ⟨i, List.mem_range.mpr il, ?_⟩
    unfold anyB
    rw [List.any_eq_true]
    refine ⟨j, List.mem_range.mpr jl, ?_⟩
    unfold tstB
    rw [gi, gj, e, decide_eq_true n, decide_eq_true rfl]
    rfl
  unfold apartB
  rw [this]
  rfl
theorem marks_noA {M : MD} (h : apartB M.rows = false) : marksB M = false := by
  unfold marksB
  rw [h]
  simp
theorem marks_noD {M : MD} (h : M.d.length ≠ 3) : marksB M = false := by
  unfold marksB
  rw [decide_eq_false (fun e => h (by have := V.int.inj e; omega)), Bool.false_and]
theorem marks_noL {M : MD} (h : (M.r 4).length ≠ (M.r 5).length) : marksB M = false := by
  unfold marksB
  rw [show decide (V.int (((M.r 4).length : Nat) : Int) = V.int (((M.r 5).length : Nat) : Int)) = false from decide_eq_false (fun e => h (by have := V.int.inj e; omega))]
  simp
theorem apart_yes {L : List (List Int)} (h : ∀ (i j : Nat) (x y : List Int), L[i]? = some x → L[j]? = some y → j ≠ i → y.take x.length ≠ x) : apartB L = true := by
  have : (List.range L.length).any (anyB L) = false := by
    rw [List.any_eq_false]
    intro i hi
    have il := List.mem_range.mp hi
    rw [Bool.not_eq_true]
    unfold anyB
    rw [List.any_eq_false]
    intro j hj
    have jl := List.mem_range.mp hj
    have gi : L[i]? = some (L.getD i []) := by rw [List.getD_eq_getElem?_getD, List.getElem?_eq_getElem il]; rfl
    have gj : L[j]? = some (L.getD j []) := by rw [List.getD_eq_getElem?_getD, List.getElem?_eq_getElem jl]; rfl
    unfold tstB
    by_cases n : j = i
    · rw [decide_eq_false (by simp [n])]; simp
    · rw [decide_eq_true n, decide_eq_false (h i j _ _ gi gj n)]; simp
  unfold apartB
  rw [this]
  rfl
theorem rowK_head (f : Int) (o : Option (Nat → Int)) (k : Nat) : (rowK f o k).head? = some (f + (k : Int)) := by cases o <;> rfl
theorem rowK_ne (f : Int) (o : Option (Nat → Int)) (k : Nat) : rowK f o k ≠ [] := by cases o <;> exact List.cons_ne_nil _ _
theorem rowsL_len (f : Int) (o : Option (Nat → Int)) : (rowsL f o).length = 7 := by unfold rowsL; rw [List.length_map, List.length_range]
theorem rowsL_at {f : Int} {o : Option (Nat → Int)} {k : Nat} (h : k < 7) : (rowsL f o)[k]? = some (rowK f o k) := by
  unfold rowsL
  rw [List.getElem?_map, List.getElem?_range h]
  rfl
theorem depL_len (f : Int) : (depL f).length = 3 := rfl
theorem take_head {x y : List Int} (hx : x ≠ []) (e : y.take x.length = x) : y.head? = x.head? := by
  cases x with
  | nil => exact absurd rfl hx
  | cons a r =>
    cases y with
    | nil => cases e
    | cons b s =>
      rw [List.length_cons, List.take_succ_cons] at e
      injection e with e1 e2
      rw [e1]
      rfl
/-- row i of all ten: its first cell is f and a number of its own, but for those of the depths -/
theorem row_at {f : Int} {o : Option (Nat → Int)} {i : Nat} {x : List Int} (h : (rowsL f o ++ depL f)[i]? = some x) : (i < 7 ∧ x = rowK f o i) ∨ (7 ≤ i ∧ i < 10 ∧ x = [f + 8, ((i - 7 : Nat) : Int)]) := by
  by_cases c : i < 7
  · rw [List.getElem?_append_left (by rw [rowsL_len]; exact c), rowsL_at c] at h
    exact .inl ⟨c, (Option.some.inj h).symm⟩
  · rw [List.getElem?_append_right (by rw [rowsL_len]; omega), rowsL_len] at h
    have il := (List.getElem?_eq_some_iff.mp h).1
    rw [depL_len] at il
    refine .inr ⟨by omega, by omega, ?_⟩
    unfold depL at h
    rw [List.getElem?_map, List.getElem?_range il] at h
    exact (Option.some.inj h).symm
theorem good_marks {f : Int} {o : Option (Nat → Int)} (f1 : 10 ≤ f) (f2 : f ≤ 39) (oo : OkO o) : marksB (mdL (rowsL f o) (depL f)) = true := by
  have e := rows_mdL (D := depL f) (rowsL_len f o)
  have h1 : (mdL (rowsL f o) (depL f)).rows.all markB = true := by
    rw [e, List.all_eq_true]
    intro x hx
    obtain ⟨i, hi⟩ := List.getElem?_of_mem hx
    have cell : ∀ c : Int, 0 ≤ c → c ≤ 63 → cellB c = true := fun c a b => by unfold cellB; rw [decide_eq_true a, decide_eq_true b]; rfl
    rcases row_at hi with ⟨il, rfl⟩ | ⟨i7, i10, rfl⟩
    · cases o with
      | none =>
        show (decide (1 ≤ ((1 : Nat) : Int)) && decide (((1 : Nat) : Int) ≤ 2) && (!decide (V.int (f + (i : Int)) = V.int 0) && ([f + (i : Int)] : List Int).all cellB)) = true
        rw [show decide (V.int (f + (i : Int)) = V.int 0) = false from decide_eq_false (fun z => by have := V.int.inj z; omega)]
        simp [cell (f + (i : Int)) (by omega) (by omega)]
      | some c =>
        have hc := oo i il
        show (decide (1 ≤ ((2 : Nat) : Int)) && decide (((2 : Nat) : Int) ≤ 2) && (!decide (V.int (f + (i : Int)) = V.int 0) && ([f + (i : Int), c i] : List Int).all cellB)) = true
        rw [show decide (V.int (f + (i : Int)) = V.int 0) = false from decide_eq_false (fun z => by have := V.int.inj z; omega)]
        simp [cell (f + (i : Int)) (by omega) (by omega), cell (c i) hc.1 (by omega)]
    · show (decide (1 ≤ ((2 : Nat) : Int)) && decide (((2 : Nat) : Int) ≤ 2) && (!decide (V.int (f + 8) = V.int 0) && ([f + 8, ((i - 7 : Nat) : Int)] : List Int).all cellB)) = true
      rw [show decide (V.int (f + 8) = V.int 0) = false from decide_eq_false (fun z => by have := V.int.inj z; omega)]
      simp [cell (f + 8) (by omega) (by omega), cell ((i - 7 : Nat) : Int) (by omega) (by omega)]
  have h2 : apartB (mdL (rowsL f o) (depL f)).rows = true := by
    rw [e]
    refine apart_yes fun i j x y hi hj n z => ?_
    rcases row_at hi with ⟨il, rfl⟩ | ⟨i7, i10, rfl⟩
    · have q := take_head (rowK_ne f o i) z
      rw [rowK_head] at q
      rcases row_at hj with ⟨jl, rfl⟩ | ⟨j7, j10, rfl⟩
      · rw [rowK_head] at q
        have := Option.some.inj q
        omega
      · have := Option.some.inj q
        omega
    · have q := take_head (List.cons_ne_nil _ _) z
      rcases row_at hj with ⟨jl, rfl⟩ | ⟨j7, j10, rfl⟩
      · rw [rowK_head] at q
        have := Option.some.inj q
        omega
      · have z2 : ([f + 8, ((j - 7 : Nat) : Int)] : List Int) = [f + 8, ((i - 7 : Nat) : Int)] := z
        injection z2 with _ z3
        injection z3 with z4 _
        omega
  have h3 : decide (V.int ((((mdL (rowsL f o) (depL f)).d).length : Nat) : Int) = V.int 3) = true := decide_eq_true rfl
  have h4 : ((mdL (rowsL f o) (depL f)).r 4).length = ((mdL (rowsL f o) (depL f)).r 5).length := by cases o <;> rfl
  unfold marksB
  rw [h1, h2, h3, h4, decide_eq_true rfl]
  rfl
end Sx

set_option Elab.async false
set_option linter.all false
set_option maxRecDepth 100000
set_option maxHeartbeats 4000000
namespace Sx
open PySem PySem.Spec PyProof.Rows L2 SxA SxK
theorem upd_at {H : Hp} {p : Addr} (_ : H p = none) (o : HO) : upd H p o p = some o := upd_same
def rLstOf (K : PySem.W.Frag) : List V → Hp → VK → Prop := fun xs H Q => ∃ p ys, xs = [V.ref p] ∧ (SqL K H p ys ∨ SqT K H p ys) ∧ ∀ l, H l = none → Q (.ref l) (upd H l (.lst ys))
theorem call_listK {X : Cx} {K : PySem.W.Frag} (h : X.K = K) : CallR X (.type "list") (rLstOf K) := by
  subst h
  exact call_list_of
/-- the lists that the spoilt shape is made of: all of them new, none of them the draws' -/
structure Sp8 (H H' : Hp) (a Rl Dl : Addr) (L D : List (List Int)) : Prop where
  ex : ∃ ps ds : List Addr, H' Rl = some (.lst (ps.map V.ref)) ∧ H' Dl = some (.lst (ds.map V.ref)) ∧ LsAt H' ps L ∧ LsAt H' ds D ∧ (∀ p ∈ ps, H p = none ∧ p ≠ Rl ∧ p ≠ Dl) ∧ (∀ d ∈ ds, H d = none ∧ d ≠ Rl ∧ d ≠ Dl)
  nR : H Rl = none
  nD : H Dl = none
  ne : Rl ≠ Dl
  dr : Dr H' a
  but : But a H H'
theorem Sp8.step {H H1 H2 : Hp} {a R D : Addr} {oa : HO} {L D' : List (List Int)} (S : Sp8 H H1 a R D L D') (ha : H a = some oa) (B : But a H1 H2) (dr : Dr H2 a) : Sp8 H H2 a R D L D' := by
  obtain ⟨ps, ds, h1, h2, h3, h4, h5, h6⟩ := S.ex
  have na : ∀ {p : Addr}, H p = none → p ≠ a := fun h => (ne_of_none ha h).symm
  exact ⟨⟨ps, ds, B _ _ h1 (na S.nR), B _ _ h2 (na S.nD), h3.but B fun p h => na (h5 p h).1, h4.but B fun p h => na (h6 p h).1, h5, h6⟩, S.nR, S.nD, S.ne, dr, S.but.trans B⟩
theorem Sp8.same {H H1 H2 : Hp} {a R D : Addr} {L D' : List (List Int)} (S : Sp8 H H1 a R D L D') (s : Same H1 H2) : Sp8 H H2 a R D L D' := by
  obtain ⟨ps, ds, h1, h2, h3, h4, h5, h6⟩ := S.ex
  exact ⟨⟨ps, ds, s _ _ h1, s _ _ h2, h3.same s, h4.same s, h5, h6⟩, S.nR, S.nD, S.ne, S.dr.same s, S.but.trans (But.of s)⟩
theorem LsAt.set {H : Hp} {qs : List Addr} {L : List (List Int)} {p : Addr} {l : List Int} {i : Nat} (h : LsAt H qs L) (hp : H p = some (.lst (l.map V.int))) : LsAt H (qs.set i p) (L.set i l) := by
  refine ⟨by rw [List.length_set, List.length_set, h.1], fun j q m e1 e2 => ?_⟩
  by_cases c : i = j
  · subst c
    have il : i < qs.length := by have := (List.getElem?_eq_some_iff.mp e1).1; rwa [List.length_set] at this
    rw [List.getElem?_set_self il] at e1
    rw [List.getElem?_set_self (by rw [← h.1]; exact il)] at e2
    cases e1
    cases e2
    exact hp
  · rw [List.getElem?_set_ne c] at e1 e2
    exact h.2 j q m e1 e2
theorem Sp8.putR {H H1 : Hp} {a R D p : Addr} {oa : HO} {L D' : List (List Int)} {l : List Int} (S : Sp8 H H1 a R D L D') (ha : H a = some oa) (hp : H1 p = some (.lst (l.map V.int))) (p0 : H p = none) (pR : p ≠ R) (pD : p ≠ D) :
    ∃ xs : List V, H1 R = some (.lst xs) ∧ xs.length = L.length ∧ ∀ i, Sp8 H (upd H1 R (.lst (xs.set i (.ref p)))) a R D (L.set i l) D' := by
  obtain ⟨ps, ds, h1, h2, h3, h4, h5, h6⟩ := S.ex
  refine ⟨_, h1, by rw [List.length_map, h3.1], fun i => ⟨⟨ps.set i p, ds, by rw [upd_same, List.map_set], by rw [upd_ne S.ne.symm]; exact h2, (h3.set hp).put fun q hq => ?_, h4.put fun q hq => (h6 q hq).2.1, fun q hq => ?_, h6⟩, S.nR, S.nD, S.ne, S.dr.put (ne_of_none ha S.nR), fun c o e n => by rw [upd_ne (ne_of_none e S.nR)]; exact S.but c o e n⟩⟩
  · rcases List.mem_or_eq_of_mem_set hq with h | h
    · exact (h5 q h).2.1
    · rw [h]; exact pR
  · rcases List.mem_or_eq_of_mem_set hq with h | h
    · exact h5 q h
    · rw [h]; exact ⟨p0, pR, pD⟩
theorem Sp8.putD {H H1 : Hp} {a R D p : Addr} {oa : HO} {L D' : List (List Int)} {l : List Int} (S : Sp8 H H1 a R D L D') (ha : H a = some oa) (hp : H1 p = some (.lst (l.map V.int))) (p0 : H p = none) (pR : p ≠ R) (pD : p ≠ D) :
    ∃ xs : List V, H1 D = some (.lst xs) ∧ xs.length = D'.length ∧ ∀ i, Sp8 H (upd H1 D (.lst (xs.set i (.ref p)))) a R D L (D'.set i l) := by
  obtain ⟨ps, ds, h1, h2, h3, h4, h5, h6⟩ := S.ex
  refine ⟨_, h2, by rw [List.length_map, h4.1], fun i => ⟨⟨ps, ds.set i p, by rw [upd_ne S.ne]; exact h1, by rw [upd_same, List.map_set], h3.put fun q hq => (h5 q hq).2.2, (h4.set hp).put fun q hq => ?_, h5, fun q hq => ?_⟩, S.nR, S.nD, S.ne, S.dr.put (ne_of_none ha S.nD), fun c o e n => by rw [upd_ne (ne_of_none e S.nD)]; exact S.but c o e n⟩⟩
  · rcases List.mem_or_eq_of_mem_set hq with h | h
    · exact (h6 q h).2.2
    · rw [h]; exact pD
  · rcases List.mem_or_eq_of_mem_set hq with h | h
    · exact h6 q h
    · rw [h]; exact ⟨p0, pR, pD⟩
/-- row i is read -/
theorem Sp8.row {K : PySem.W.Frag} {H H1 : Hp} {a R D : Addr} {L D' : List (List Int)} {i : Nat} {l : List Int} (S : Sp8 H H1 a R D L D') (h : L[i]? = some l) : ∃ (xs : List V) (q : Addr), SqL K H1 R xs ∧ atI xs (i : Int) = some (.ref q) ∧ SqL K H1 q (l.map V.int) := by
  obtain ⟨ps, ds, h1, h2, h3, h4, h5, h6⟩ := S.ex
  have il := (List.getElem?_eq_some_iff.mp h).1
  have hp : ps[i]? = some (ps[i]'(by rw [h3.1]; exact il)) := List.getElem?_eq_getElem _
  exact ⟨_, _, SqL.of h1, atI_nat (by rw [List.getElem?_map, hp]; rfl), SqL.of (h3.2 i _ l hp h)⟩
/-- a new list is none of them -/
theorem Sp8.new {H H1 : Hp} {a R D p : Addr} {oa : HO} {L D' : List (List Int)} (S : Sp8 H H1 a R D L D') (ha : H a = some oa) (hp : H1 p = none) : H p = none ∧ p ≠ R ∧ p ≠ D ∧ p ≠ a := by
  obtain ⟨ps, ds, h1, h2, _⟩ := S.ex
  obtain ⟨od, hd⟩ := S.dr.has
  exact ⟨Sx.But.none S.but hd hp, (ne_of_none h1 hp).symm, (ne_of_none h2 hp).symm, (ne_of_none hd hp).symm⟩
theorem ixN_ok {n : Nat} {i : Nat} (h : i < n) : ixN n (i : Int) = some i := by
  unfold ixN
  rw [if_pos (by omega), if_pos (by omega)]
  rfl
theorem putR_fin {H1 Hx : Hp} {a R D p : Addr} {oa : HO} {L D' : List (List Int)} {l : List Int} (S : Sp8 H1 Hx a R D L D') (ha : H1 a = some oa) (hp : Hx p = some (.lst (l.map V.int))) (n : H1 p = none ∧ p ≠ R ∧ p ≠ D ∧ p ≠ a) {ai : Nat} (il : ai < L.length) {C : Hp → Prop}
    (k : ∀ H2, Sp8 H1 H2 a R D (L.set ai l) D' → C H2) : ∃ (r : Addr) (xs : List V) (kk : Int) (j : Nat), V.ref R = .ref r ∧ V.int (ai : Int) = .int kk ∧ Hx r = some (.lst xs) ∧ ixN xs.length kk = some j ∧ C (upd Hx r (.lst (xs.set j (.ref p)))) := by
  obtain ⟨xs, h, hl, f⟩ := S.putR ha hp n.1 n.2.1 n.2.2.1
  exact ⟨R, xs, ai, ai, rfl, rfl, h, by rw [hl]; exact ixN_ok il, k _ (f ai)⟩
theorem putD_fin {H1 Hx : Hp} {a R D p : Addr} {oa : HO} {L D' : List (List Int)} {l : List Int} (S : Sp8 H1 Hx a R D L D') (ha : H1 a = some oa) (hp : Hx p = some (.lst (l.map V.int))) (n : H1 p = none ∧ p ≠ R ∧ p ≠ D ∧ p ≠ a) {ai : Nat} (il : ai < D'.length) {C : Hp → Prop}
    (k : ∀ H2, Sp8 H1 H2 a R D L (D'.set ai l) → C H2) : ∃ (r : Addr) (xs : List V) (kk : Int) (j : Nat), V.ref D = .ref r ∧ V.int (ai : Int) = .int kk ∧ Hx r = some (.lst xs) ∧ ixN xs.length kk = some j ∧ C (upd Hx r (.lst (xs.set j (.ref p)))) := by
  obtain ⟨xs, h, hl, f⟩ := S.putD ha hp n.1 n.2.1 n.2.2.1
  exact ⟨D, xs, ai, ai, rfl, rfl, h, by rw [hl]; exact ixN_ok il, k _ (f ai)⟩
def JS (H1 : Hp) (a x : Addr) (kind f : Int) (o : Option (Nat → Int)) (ai : Nat) (j : Int) (σ : L2.St) (H' : Hp) : Prop :=
  ∃ (R D : Addr) (L D' : List (List Int)) (o4 o7 : Option V), σ = [some (.ref a), some (.ref x), some (.int kind), some (.ref R), o4, some (.ref D), some (.int (ai : Int)), o7] ∧ Sp8 H1 H' a R D L D' ∧ L.length = 7 ∧ D'.length ≤ 3 ∧ (kind < j → marksB (mdL L D') = false) ∧ (j ≤ kind → L = rowsL f o ∧ D' = depL f)
theorem JS.pass {H1 : Hp} {a x : Addr} {kind f : Int} {o : Option (Nat → Int)} {ai : Nat} {j : Int} {σ : L2.St} {H' : Hp} (h : JS H1 a x kind f o ai j σ H') (n : kind ≠ j) : JS H1 a x kind f o ai (j + 1) σ H' := by
  obtain ⟨R, D, L, D', o4, o7, e, S, l1, l2, c1, c2⟩ := h
  exact ⟨R, D, L, D', o4, o7, e, S, l1, l2, fun h => c1 (by omega), fun h => c2 (by omega)⟩
theorem JS.bad {H1 : Hp} {a x R D : Addr} {kind f : Int} {o : Option (Nat → Int)} {ai : Nat} {j : Int} {L D' : List (List Int)} {o4 o7 : Option V} {H' : Hp} (e : kind = j) (S : Sp8 H1 H' a R D L D') (l1 : L.length = 7) (l2 : D'.length ≤ 3) (b : marksB (mdL L D') = false) :
    JS H1 a x kind f o ai (j + 1) [some (.ref a), some (.ref x), some (.int kind), some (.ref R), o4, some (.ref D), some (.int (ai : Int)), o7] H' := ⟨R, D, L, D', o4, o7, rfl, S, l1, l2, fun _ => b, fun h => absurd h (by omega)⟩
theorem mem_rows {L D : List (List Int)} {i : Nat} {l : List Int} (h : L.length = 7) (hi : i < 7) : l ∈ (mdL (L.set i l) D).rows := by
  rw [rows_mdL (by rw [List.length_set]; exact h)]
  refine List.mem_append_left _ ?_
  exact List.mem_of_getElem? (List.getElem?_set_self (by rw [h]; exact hi))
theorem Sp8.tail {H H1 : Hp} {a R D : Addr} {oa : HO} {L D' : List (List Int)} (S : Sp8 H H1 a R D L D') (ha : H a = some oa) : ∃ xs : List V, H1 D = some (.lst xs) ∧ ∀ p, H1 p = none → Sp8 H (upd H1 p (.lst xs.tail)) a R p L D'.tail := by
  obtain ⟨ps, ds, h1, h2, h3, h4, h5, h6⟩ := S.ex
  refine ⟨_, h2, fun p hp => ?_⟩
  obtain ⟨n0, nR, nD, na⟩ := S.new ha hp
  have s1 : Same H1 (upd H1 p (.lst (ds.map V.ref).tail)) := Same.new hp
  have inn : ∀ {qs : List Addr} {M : List (List Int)}, LsAt H1 qs M → ∀ q ∈ qs, q ≠ p := fun {qs M} h q hq e => by
    obtain ⟨i, hi⟩ := List.getElem?_of_mem hq
    have il := (List.getElem?_eq_some_iff.mp hi).1
    have hh := h.2 i q _ hi (List.getElem?_eq_getElem (by rw [← h.1]; exact il))
    rw [e, hp] at hh
    cases hh
  refine ⟨⟨ps, ds.tail, s1 _ _ h1, by rw [upd_same, List.map_tail], h3.same s1, ⟨by rw [List.length_tail, List.length_tail, h4.1], fun i q l e1 e2 => ?_⟩, fun q hq => ⟨(h5 q hq).1, (h5 q hq).2.1, inn h3 q hq⟩, fun q hq => ⟨(h6 q (List.mem_of_mem_tail hq)).1, (h6 q (List.mem_of_mem_tail hq)).2.1, inn h4 q (List.mem_of_mem_tail hq)⟩⟩, S.nR, n0, nR.symm, S.dr.same s1, S.but.trans (But.of s1)⟩
  rw [List.getElem?_tail] at e1 e2
  exact s1 _ _ (h4.2 (i + 1) q l e1 e2)
theorem cut_tail (xs : List V) : cutV xs (some 1) none = xs.tail := by
  have e1 : HT.sIx xs.length 0 (some ((1 : Nat) : Int)) = min 1 xs.length := HT.sIx_nat _ _ _
  have e2 : HT.sIx xs.length xs.length (Option.none) = xs.length := rfl
  unfold cutV
  rw [show (some (1 : Int)) = some ((1 : Nat) : Int) from rfl, e1, e2]
  cases xs with
  | nil => rfl
  | cons y r =>
    rw [List.length_cons, show min 1 (r.length + 1) = 1 by omega]
    show (r).take (r.length + 1 - 1) = r
    rw [Nat.add_sub_cancel, List.take_length]
def badS (kind u : Int) : Int := if kind = 0 then (if u = 0 then 7 else 41) else if kind = 1 then (if u = 0 then 2 else 31) else (if u = 0 then 0 else 51)
def spSpoilt : Sp := fun vs H Q _ => ∃ (a x : Addr) (w h s : Int) (m : Addr) (f : Int) (o : Option (Nat → Int)), vs = [.ref a, .ref x] ∧ Dr H a ∧ off a H x = some (.lst [.int w, .int h, .int s, .ref m]) ∧ LMk (off a H) m (rowsL f o) (depL f) ∧ 10 ≤ f ∧ f ≤ 39 ∧ OkO o ∧ sizesB w h s = true ∧
  ∀ x' w' h' s' m' L' D' H', (sizesB w' h' s' && marksB (mdL L' D')) = false → L'.length = 7 → D'.length ≤ 3 → off a H' x' = some (.lst [.int w', .int h', .int s', .ref m']) → LMk (off a H') m' L' D' → Dr H' a → But a H H' → Q (.ref x') H'
section
variable {P : Program} {w : World} {K : PySem.W.Frag} {mg : Str → Option Value} {base : Heap}
/-- list(row) for each row of a list of lists -/
theorem copies {R : Addr} {qs : List Addr} {L : List (List Int)} {te : TE} {i0 : Nat} {vs : List Nat} {σ : L2.St} {H1 : Hp} {D : Addr} {Qd : Hp → Prop} (hR : H1 R = some (.lst (qs.map V.ref))) (hL : LsAt H1 qs L) (hl : qs.length ≤ 100) (hD : H1 D = none)
    (hw : ∀ v : V, wipe ((wipe σ vs).set i0 (some v)) vs = wipe σ vs)
    (he : ∀ (q : Addr) (l : List Int) (H : Hp) (Q : VK), H q = some (.lst (l.map V.int)) → (∀ p, H p = none → Q (.ref p) (upd H p (.lst (l.map V.int)))) → te ((wipe σ vs).set i0 (some (.ref q))) H Q)
    (hd : ∀ H ps, Same H1 H → H D = some (.lst (ps.map V.ref)) → LsAt H ps L → (∀ p ∈ ps, H1 p = none ∧ p ≠ D) → Qd H) :
    ∃ W : Nat → Nat → Hp → Prop, (∃ m, W 0 m (upd H1 D (.lst []))) ∧ ∀ i m H, W i m H → ((Itl K R).stop i H ∧ Qd H) ∨ ((Itl K R).go i H ∧ ∃ Nx : Hp → Prop, (∀ H', Nx H' → ∃ m', m' < m ∧ W (i + 1) m' H') ∧
      ∀ x H', (Itl K R).yld i H x H' → (gName i0) x (wipe σ vs) H' fun σ2 H2 => wipe σ2 vs = wipe σ vs ∧ tYes σ2 H2 fun b H3 => if b = true then te σ2 H3 fun y H4 => ∃ acc, H4 D = some (.lst acc) ∧ acc.length < sizeLine ∧ Nx (upd H4 D (.lst (acc ++ [y]))) else Nx H3) := by
  have big : 1000 ≤ sizeLine := by decide
  refine lc_list (K := K) (a := R) (xs := qs.map V.ref) (fun i H' => (∃ ps : List Addr, H' D = some (.lst (ps.map V.ref)) ∧ LsAt H' ps (L.take i) ∧ (∀ p ∈ ps, H1 p = none ∧ p ≠ D)) ∧ Same H1 H') ⟨⟨[], upd_same, LsAt.nil _, fun p h => (by cases h)⟩, Same.new hD⟩ (fun i H' _ p => SqL.of (p.2 _ _ hR)) ?_ ?_
  · rintro i v H' hv ⟨⟨ps, hz, hP, hp⟩, s1⟩
    rw [List.getElem?_map] at hv
    obtain ⟨q, hq, rfl⟩ := Option.map_eq_some_iff.mp hv
    have il := (List.getElem?_eq_some_iff.mp hq).1
    have hli : L[i]? = some (L[i]'(by rw [← hL.1]; exact il)) := List.getElem?_eq_getElem _
    generalize L[i]'(by rw [← hL.1]; exact il) = li at hli
    refine ⟨hw _, he q li H' _ (s1 _ _ (hL.2 i q li hq hli)) fun p hp0 => ?_⟩
    have sp : Same H' (upd H' p (.lst (li.map V.int))) := Same.new hp0
    have npD : p ≠ D := (ne_of_none hz hp0).symm
    have pl := hP.1
    rw [List.length_take] at pl
    refine ⟨_, sp _ _ hz, by rw [List.length_map]; omega, ⟨ps ++ [p], by rw [upd_same, List.map_append]; rfl, ?_, fun p' hp' => ?_⟩, fun c o e => by rw [upd_ne (ne_of_none e hD)]; exact sp _ _ (s1 _ _ e)⟩
    · rw [List.take_add_one, hli]
      refine ((hP.same sp).snoc (q := p) upd_same).put fun p' hp' => ?_
      rcases List.mem_append.mp hp' with h | h
      · exact (hp p' h).2
      · rw [List.mem_singleton.mp h]; exact npD
    · rcases List.mem_append.mp hp' with h | h
      · exact hp p' h
      · rw [List.mem_singleton.mp h]; exact ⟨Sx.Same.none s1 _ hp0, npD⟩
  · rintro H' ⟨⟨ps, hz, hP, hp⟩, s1⟩
    rw [List.length_map, hL.1, List.take_length] at hP
    exact hd H' ps s1 hz hP hp
abbrev nsLawSpoilt : List Str := ["draws", "shape", "kind", "rows", "row", "depths", "at", "bad"]
theorem scLawSpoilt : FnScope nsLawSpoilt ["draws", "shape"] (defScope sLawSpoilt) := ⟨rfl, rfl, rfl, by decide +kernel, rfl, by decide +kernel, by decide +kernel⟩
theorem ok_law_spoilt (t : T K mg) : Ok P w K mg base 2 "_law_spoilt" ["draws", "shape"] spSpoilt := by
  refine mkOk t.d_law_spoilt t.g_law_spoilt scLawSpoilt (fun vs H Q E h => ?_) (fun _ _ _ _ _ _ us hl => match us, hl with | [_, _], _ => rfl) fun cdv A outer s H vs Q E hr h => ?_
  · obtain ⟨a, x, w, h, s, m, f, o, rfl, _⟩ := h; rfl
  obtain ⟨a, x, wd, ht, sz, m, f, o, rfl, hD, hx, hM, f1, f2, oo, hsz, k⟩ := h
  have hr1 : Room 1 _ := hr.mono (by decide)
  refine ⟨_, pss_cons (ps_set (i := 2) scLawSpoilt.nd rfl (Or.inl rfl) (pe_ok (ok_law_take t) hr1 rfl (pa_cons (pv 0) (pa_cons pe_int pa_nil))))
    (pss_cons (ps_setLc (i := 3) (own := [("row", 4)]) (g := gName 4) (tt := tYes) (by rfl) scLawSpoilt.nd rfl rfl (sw_true rfl rfl rfl (by decide +kernel)) (pi_list (pe_ix (ix_listK (K := K) rfl) (pe_ix (ix_listK (K := K) rfl) (pv 1) pe_int (fun _ _ => rfl)) pe_int (fun _ _ => rfl))) (blkOk_by (own := [("row", 4)]) (N := nsLawSpoilt) (sc := defScope sLawSpoilt) (by decide +kernel)) (fun _ _ _ _ _ => pg_name (i := 4) scLawSpoilt.nd rfl (Or.inl rfl)) (fun _ _ _ _ _ => pts_nil) (fun _ _ _ _ _ => (pe_callTy (call_listK (K := K) rfl) rfl t.f_list (by decide +kernel) (pa_cons (pv 4) pa_nil))))
    (pss_cons (ps_setLc (i := 5) (own := [("row", 4)]) (g := gName 4) (tt := tYes) (by rfl) scLawSpoilt.nd rfl rfl (sw_true rfl rfl rfl (by decide +kernel)) (pi_list (pe_ix (ix_listK (K := K) rfl) (pe_ix (ix_listK (K := K) rfl) (pv 1) pe_int (fun _ _ => rfl)) pe_int (fun _ _ => rfl))) (blkOk_by (own := [("row", 4)]) (N := nsLawSpoilt) (sc := defScope sLawSpoilt) (by decide +kernel)) (fun _ _ _ _ _ => pg_name (i := 4) scLawSpoilt.nd rfl (Or.inl rfl)) (fun _ _ _ _ _ => pts_nil) (fun _ _ _ _ _ => (pe_callTy (call_listK (K := K) rfl) rfl t.f_list (by decide +kernel) (pa_cons (pv 4) pa_nil))))
    (pss_cons (ps_set (i := 6) scLawSpoilt.nd rfl (Or.inl rfl) (pe_ok (ok_law_take t) hr1 rfl (pa_cons (pv 0) (pa_cons pe_int pa_nil))))
    (pss_cons (ps_if (pt_cmpR op_lt (pv 2) pe_int (nomark _))
      (pss_cons (ps_set (i := 7) scLawSpoilt.nd rfl (Or.inl rfl) (pe_ix (ix_listK (K := K) rfl) (pe_ix (ix_listK (K := K) rfl) (pe_lst (pa_cons (pe_lst (pa_cons pe_int (pa_cons pe_int pa_nil))) (pa_cons (pe_lst (pa_cons pe_int (pa_cons pe_int pa_nil))) (pa_cons (pe_lst (pa_cons pe_int (pa_cons pe_int pa_nil))) pa_nil)))) (pv 2) (fun _ _ => rfl)) (pe_ok (ok_law_take t) hr1 rfl (pa_cons (pv 0) (pa_cons pe_int pa_nil))) (fun _ _ => rfl)))
    (pss_one (ps_ret (pe_op op_cat (pe_op op_cat (pe_slice sl_list (pv 1) po_none (po_some (pv 2))) (pe_lst (pa_cons (pv 7) pa_nil))) (pe_slice sl_list (pv 1) (po_some (pe_op op_add (pv 2) pe_int)) po_none)))))
      pss_nil)
    (C8.pss_cut (ps_if (pt_cmpR op_eq (pv 2) pe_int (nomark _))
      (pss_one (ps_asg (pe_lst pa_nil) (pg_sub (pv 3) (pv 6) set_list)))
      pss_nil)
    (C8.pss_cut (ps_if (pt_cmpR op_eq (pv 2) pe_int (nomark _))
      (pss_one (ps_asg (pe_lst (pa_cons (pe_ix (ix_listK (K := K) rfl) (pe_ix (ix_listK (K := K) rfl) (pv 3) (pv 6) (fun _ _ => rfl)) pe_int (fun _ _ => rfl)) (pa_cons pe_int (pa_cons pe_int pa_nil)))) (pg_sub (pv 3) (pv 6) set_list)))
      pss_nil)
    (C8.pss_cut (ps_if (pt_cmpR op_eq (pv 2) pe_int (nomark _))
      (pss_one (ps_asg (pe_lst (pa_cons pe_int (pa_cons pe_int pa_nil))) (pg_sub (pv 3) (pv 6) set_list)))
      pss_nil)
    (C8.pss_cut (ps_if (pt_cmpR op_eq (pv 2) pe_int (nomark _))
      (pss_one (ps_asg (pe_lst (pa_cons (pe_ix (ix_listK (K := K) rfl) (pe_ix (ix_listK (K := K) rfl) (pv 3) (pv 6) (fun _ _ => rfl)) pe_int (fun _ _ => rfl)) (pa_cons (pe_ix (ix_listK (K := K) rfl) (pe_lst (pa_cons pe_int (pa_cons (pe_un un_neg pe_int) pa_nil))) (pe_ok (ok_law_take t) hr1 rfl (pa_cons (pv 0) (pa_cons pe_int pa_nil))) (fun _ _ => rfl)) pa_nil))) (pg_sub (pv 3) (pv 6) set_list)))
      pss_nil)
    (C8.pss_cut (ps_if (pt_cmpR op_eq (pv 2) pe_int (nomark _))
      (pss_one (ps_asg (pe_callTy (call_listK (K := K) rfl) rfl t.f_list (by decide +kernel) (pa_cons (pe_ix (ix_listK (K := K) rfl) (pv 3) (pe_op op_mod (pe_callTy call_int1 rfl t.f_int (by decide +kernel) (pa_cons (pe_op op_add (pv 6) pe_int) pa_nil)) pe_int) (fun _ _ => rfl)) pa_nil)) (pg_sub (pv 3) (pv 6) set_list)))
      pss_nil)
    (C8.pss_cut (ps_if (pt_cmpR op_eq (pv 2) pe_int (nomark _))
      (pss_cons (ps_asg (pe_lst (pa_cons (pe_ix (ix_listK (K := K) rfl) (pe_ix (ix_listK (K := K) rfl) (pv 3) (pv 6) (fun _ _ => rfl)) pe_int (fun _ _ => rfl)) pa_nil)) (pg_sub (pv 5) (pe_ok (ok_law_take t) hr1 rfl (pa_cons (pv 0) (pa_cons pe_int pa_nil))) set_list))
    (pss_one (ps_asg (pe_lst (pa_cons (pe_ix (ix_listK (K := K) rfl) (pe_ix (ix_listK (K := K) rfl) (pv 3) (pv 6) (fun _ _ => rfl)) pe_int (fun _ _ => rfl)) (pa_cons pe_int pa_nil))) (pg_sub (pv 3) (pv 6) set_list))))
      pss_nil)
    (C8.pss_cut (ps_if (pt_cmpR op_eq (pv 2) pe_int (nomark _))
      (pss_one (ps_set (i := 5) scLawSpoilt.nd rfl (Or.inl rfl) (pe_slice sl_list (pv 5) (po_some pe_int) po_none)))
      pss_nil)
    (C8.pss_cut (ps_if (pt_cmpR op_eq (pv 2) pe_int (nomark _))
      (pss_cons (ps_asg (pe_lst (pa_cons pe_int pa_nil)) (pg_sub (pv 3) pe_int set_list))
    (pss_one (ps_asg (pe_lst (pa_cons pe_int (pa_cons pe_int pa_nil))) (pg_sub (pv 3) pe_int set_list))))
      pss_nil)
    (pss_one (ps_ret (pe_op op_cat (pe_slice sl_list (pv 1) po_none (po_some pe_int)) (pe_lst (pa_cons (pe_lst (pa_cons (pv 3) (pa_cons (pv 5) pa_nil))) pa_nil))))))))))))))))), ?_⟩
  obtain ⟨nxa, hx0⟩ := off_some hx
  obtain ⟨Rl, Dl, ps, ds, hm, hRl, hDl, hP, hDs⟩ := hM.ex
  refine ⟨_, rfl, a, 11, rfl, hD, by decide, fun kind H1 k0 k1 D1 B1 => ?_⟩
  have o1 : Same (off a H) H1 := (off_but B1).trans off_le
  have hx1 := o1 _ _ hx
  have hm1 := o1 _ _ hm
  have hR1 := o1 _ _ hRl
  have hD1 := o1 _ _ hDl
  refine ⟨_, rfl, x, _, _, .ref m, rfl, rfl, SqL.of hx1, atI_nat (j := 3) rfl, m, _, _, .ref Rl, rfl, rfl, SqL.of hm1, atI_nat (j := 0) rfl, Rl, rfl, ⟨_, SqL.of hR1⟩, fun R' hR' => ?_⟩
  refine copies (K := K) hR1 (hP.same o1) (by rw [hP.1, rowsL_len]; decide) hR' (fun _ => rfl) (fun q l Hx Qx hq kq => ⟨_, rfl, q, _, rfl, .inl (SqL.of hq), kq⟩) fun H2 qs s2 hQ hQL hqn => ?_
  have o2 := o1.trans s2
  refine ⟨_, rfl, x, _, _, .ref m, rfl, rfl, SqL.of (o2 _ _ hx), atI_nat (j := 3) rfl, m, _, _, .ref Dl, rfl, rfl, SqL.of (o2 _ _ hm), atI_nat (j := 1) rfl, Dl, rfl, ⟨_, SqL.of (o2 _ _ hDl)⟩, fun D' hD' => ?_⟩
  refine copies (K := K) (o2 _ _ hDl) (hDs.same o2) (by rw [hDs.1, depL_len]; decide) hD' (fun _ => rfl) (fun q l Hx Qx hq kq => ⟨_, rfl, q, _, rfl, .inl (SqL.of hq), kq⟩) fun H3 es s3 hE hEL hen => ?_
  obtain ⟨oa1, ha1⟩ := D1.has
  have neRD : R' ≠ D' := ne_of_none hQ hD'
  have S3 : Sp8 H1 H3 a R' D' (rowsL f o) (depL f) := ⟨⟨qs, es, s3 _ _ hQ, hE, hQL.same s3, hEL, fun p hp => ⟨(hqn p hp).1, (hqn p hp).2, fun e => by
      obtain ⟨i, hi⟩ := List.getElem?_of_mem hp
      have il := (List.getElem?_eq_some_iff.mp hi).1
      have hh := hQL.2 i p _ hi (List.getElem?_eq_getElem (by rw [← hQL.1]; exact il))
      rw [e, hD'] at hh
      cases hh⟩, fun d hd => ⟨Sx.Same.none s2 _ (hen d hd).1, fun e => (by have := (hen d hd).1; rw [e, hQ] at this; cases this), (hen d hd).2⟩⟩, hR', Sx.Same.none s2 _ hD', neRD, (D1.same s2).same s3, But.of (s2.trans s3)⟩
  refine ⟨_, rfl, a, 7, rfl, S3.dr, by decide, fun at_ H4 at0 at1 D4 B4 => ?_⟩
  have S4 := S3.step ha1 B4 D4
  have BH4 : But a H H4 := ((B1.trans (But.of (s2.trans s3))).trans B4)
  have oH4 := off_but BH4
  have hx4 : H4 x = some (.lst [.int wd, .int ht, .int sz, .ref m]) := off_le _ _ (oH4 _ _ hx)
  have big : 1000 ≤ sizeLine := by decide
  refine ⟨_, rfl, _, _, rfl, rfl, _, rfl, ?_⟩
  by_cases c3 : kind < 3
  · rw [decide_eq_true c3]
    refine iteT ⟨(by show 2 ≤ sizeLine; decide), fun b0 hb0 => ⟨(by show 2 ≤ sizeLine; decide), fun b1 hb1 => ⟨(by show 2 ≤ sizeLine; decide), fun b2 hb2 => ⟨(by show 3 ≤ sizeLine; decide), fun bl hbl => ⟨_, rfl, ?_⟩⟩⟩⟩⟩
    have e0 := upd_at hb0 (.lst [V.int 7, V.int 41])
    have sA : Same H4 (upd H4 b0 (.lst [V.int 7, V.int 41])) := Same.new hb0
    generalize upd H4 b0 (.lst [V.int 7, V.int 41]) = G1 at e0 sA hb1 hb2 hbl ⊢
    have e1 := upd_at hb1 (.lst [V.int 2, V.int 31])
    have sB : Same G1 (upd G1 b1 (.lst [V.int 2, V.int 31])) := Same.new hb1
    generalize upd G1 b1 (.lst [V.int 2, V.int 31]) = G2 at e1 sB hb2 hbl ⊢
    have e2 := upd_at hb2 (.lst [V.int 0, V.int 51])
    have sC : Same G2 (upd G2 b2 (.lst [V.int 0, V.int 51])) := Same.new hb2
    generalize upd G2 b2 (.lst [V.int 0, V.int 51]) = G3 at e2 sC hbl ⊢
    have e3 := upd_at hbl (.lst [V.ref b0, V.ref b1, V.ref b2])
    have sD : Same G3 (upd G3 bl (.lst [V.ref b0, V.ref b1, V.ref b2])) := Same.new hbl
    generalize upd G3 bl (.lst [V.ref b0, V.ref b1, V.ref b2]) = G4 at e3 sD ⊢
    have sG : Same H4 G4 := sA.trans (sB.trans (sC.trans sD))
    obtain ⟨bb, v0, v1, hat, hbb, bba, vok⟩ : ∃ (bb : Addr) (v0 v1 : Int), atI [V.ref b0, .ref b1, .ref b2] kind = some (.ref bb) ∧ G4 bb = some (.lst [.int v0, .int v1]) ∧ bb ≠ a ∧ (v0 = badS kind 0 ∧ v1 = badS kind 1) := by
      obtain ⟨od4, hd4⟩ := D4.has
      have n0 : b0 ≠ a := (ne_of_none hd4 hb0).symm
      have n1 : b1 ≠ a := (ne_of_none (sA _ _ hd4) hb1).symm
      have n2 : b2 ≠ a := (ne_of_none (sB _ _ (sA _ _ hd4)) hb2).symm
      have : kind = 0 ∨ kind = 1 ∨ kind = 2 := by omega
      rcases this with rfl | rfl | rfl
      · exact ⟨b0, 7, 41, rfl, sD _ _ (sC _ _ (sB _ _ e0)), n0, rfl, rfl⟩
      · exact ⟨b1, 2, 31, rfl, sD _ _ (sC _ _ e1), n1, rfl, rfl⟩
      · exact ⟨b2, 0, 51, rfl, sD _ _ e2, n2, rfl, rfl⟩
    refine ⟨bl, _, _, .ref bb, rfl, rfl, SqL.of e3, hat, ?_⟩
    refine ⟨_, rfl, a, 2, rfl, D4.same sG, by decide, fun u G5 u0 u1 D5 B5 => ?_⟩
    have hbb5 := B5 _ _ hbb bba
    have hu : u = 0 ∨ u = 1 := by omega
    obtain ⟨bad, hbad, ebad⟩ : ∃ bad : Int, atI [V.int v0, .int v1] u = some (.int bad) ∧ bad = badS kind u := by
      rcases hu with rfl | rfl
      · exact ⟨v0, rfl, vok.1⟩
      · exact ⟨v1, rfl, vok.2⟩
    refine ⟨bb, _, _, .int bad, rfl, rfl, SqL.of hbb5, hbad, ?_⟩
    have BH5 : But a H G5 := (BH4.trans (But.of sG)).trans B5
    have hx5 : G5 x = some (.lst [.int wd, .int ht, .int sz, .ref m]) := off_le _ _ ((off_but BH5) _ _ hx)
    refine ⟨_, rfl, _, rfl, kind, rfl, x, _, rfl, SqL.of hx5, fun F hF => ⟨_, rfl, (by show 1 ≤ sizeLine; decide), fun G hG => ?_⟩⟩
    have cl : ∀ lo hi, (cutV [V.int wd, V.int ht, V.int sz, V.ref m] lo hi).length ≤ 4 := fun lo hi => by
      unfold cutV
      rw [List.length_take, List.length_drop]
      show min _ (4 - _) ≤ 4
      omega
    obtain ⟨w', h', s', ecut, esz⟩ : ∃ w' h' s' : Int, (cutV [V.int wd, V.int ht, V.int sz, V.ref m] none (some kind) ++ [V.int bad]) ++ cutV [V.int wd, V.int ht, V.int sz, V.ref m] (some (kind + 1)) none = [.int w', .int h', .int s', .ref m] ∧ sizesB w' h' s' = false := by
      have : kind = 0 ∨ kind = 1 ∨ kind = 2 := by omega
      rw [ebad]
      rcases this with rfl | rfl | rfl
      · refine ⟨badS 0 u, ht, sz, rfl, ?_⟩
        unfold sizesB
        rcases hu with rfl | rfl
        · rfl
        · rfl
      · refine ⟨wd, badS 1 u, sz, rfl, ?_⟩
        unfold sizesB
        rcases hu with rfl | rfl
        · rw [show (decide ((3 : Int) ≤ badS 1 0) && decide (badS 1 0 ≤ 30)) = false from rfl]; simp
        · rw [show (decide ((3 : Int) ≤ badS 1 1) && decide (badS 1 1 ≤ 30)) = false from rfl]; simp
      · refine ⟨wd, ht, badS 2 u, rfl, ?_⟩
        unfold sizesB
        rcases hu with rfl | rfl
        · rw [show (decide ((1 : Int) ≤ badS 2 0) && decide (badS 2 0 ≤ 50)) = false from rfl]; simp
        · rw [show (decide ((1 : Int) ≤ badS 2 1) && decide (badS 2 1 ≤ 50)) = false from rfl]; simp
    have hF' := upd_at hF (.lst (cutV [V.int wd, V.int ht, V.int sz, V.ref m] none (some kind)))
    have sF : Same G5 (upd G5 F (.lst (cutV [V.int wd, V.int ht, V.int sz, V.ref m] none (some kind)))) := Same.new hF
    generalize upd G5 F (.lst (cutV [V.int wd, V.int ht, V.int sz, V.ref m] none (some kind))) = G6 at hF' sF hG ⊢
    have hG' := upd_at hG (.lst [V.int bad])
    have sG' : Same G6 (upd G6 G (.lst [V.int bad])) := Same.new hG
    generalize upd G6 G (.lst [V.int bad]) = G7 at hG' sG' ⊢
    refine ⟨F, G, _, _, rfl, rfl, sG' _ _ hF', hG', by have := cl none (some kind); show _ + 1 ≤ sizeLine; omega, fun I hI => ?_⟩
    have hI' := upd_at hI (.lst (cutV [V.int wd, V.int ht, V.int sz, V.ref m] none (some kind) ++ [V.int bad]))
    have sI : Same G7 (upd G7 I (.lst (cutV [V.int wd, V.int ht, V.int sz, V.ref m] none (some kind) ++ [V.int bad]))) := Same.new hI
    generalize upd G7 I (.lst (cutV [V.int wd, V.int ht, V.int sz, V.ref m] none (some kind) ++ [V.int bad])) = G8 at hI' sI ⊢
    have s58 := sF.trans (sG'.trans sI)
    refine ⟨_, rfl, _, rfl, _, _, rfl, rfl, kind + 1, rfl, x, _, rfl, SqL.of (s58 _ _ hx5), fun J hJ => ?_⟩
    have sJ : Same G8 (upd G8 J (.lst (cutV [V.int wd, V.int ht, V.int sz, V.ref m] (some (kind + 1)) none))) := Same.new hJ
    refine ⟨I, J, _, _, rfl, rfl, sJ _ _ hI', upd_same, by have c1 := cl none (some kind); have c2 := cl (some (kind + 1)) none; rw [List.length_append]; show _ + 1 + _ ≤ sizeLine; omega, fun X hX => ?_⟩
    have s59 := s58.trans sJ
    have D9 := D5.same s59
    have nXa : X ≠ a := (D9.ne hX).symm
    have sX := s59.trans (Same.new (o := .lst ((cutV [V.int wd, V.int ht, V.int sz, V.ref m] none (some kind) ++ [V.int bad]) ++ cutV [V.int wd, V.int ht, V.int sz, V.ref m] (some (kind + 1)) none)) hX)
    have BX := BH5.trans (But.of sX)
    exact k X w' h' s' m (rowsL f o) (depL f) _ (by rw [esz]; rfl) (rowsL_len f o) (by rw [depL_len]; decide) (by rw [off_ne nXa, upd_same, ecut]) (hM.same (off_but BX)) (D5.same sX) BX
  rw [decide_eq_false c3]
  have ieq : ∀ (x y : Int), decide (V.int x = V.int y) = decide (x = y) := fun x y => decide_eq_decide.mpr ⟨fun e => V.int.inj e, fun e => by rw [e]⟩
  obtain ⟨ai, rfl⟩ : ∃ ai : Nat, at_ = (ai : Int) := ⟨at_.toNat, by omega⟩
  have ai7 : ai < 7 := by omega
  have hrow := rowsL_at (f := f) (o := o) ai7
  have rl := rowsL_len f o
  have dl := depL_len f
  have rk0 : ∀ {k : Nat}, ((rowK f o k).map V.int)[0]? = some (.int (f + (k : Int))) := fun {k} => by cases o <;> rfl
  refine iteF ⟨JS H1 a x kind f o ai 4, ?_, ?_⟩
  · refine ⟨_, rfl, rfl, _, rfl, ?_⟩
    rw [ieq]
    refine ite2 (fun h => ?_) (fun h => JS.pass (j := 3) ⟨R', D', _, _, _, _, rfl, S4, rl, by rw [dl]; decide, fun z => absurd z (by omega), fun _ => ⟨rfl, rfl⟩⟩ fun e => h (decide_eq_true e))
    refine ⟨(by show 0 ≤ sizeLine; decide), fun p hp => ⟨_, rfl, _, rfl, putR_fin (l := []) (S4.same (Same.new hp)) ha1 upd_same (S4.new ha1 hp) (by rw [rl]; exact ai7) fun H5 S5 => ?_⟩⟩
    exact JS.bad (of_decide_eq_true h) S5 (by rw [List.length_set]; exact rl) (by rw [dl]; decide) (marks_no (mem_rows rl ai7) rfl)
  rintro σ5 H5 ⟨R5, D5a, L5, D5', o4, o7, rfl, S5, l5, m5, c51, c52⟩
  refine ⟨JS H1 a x kind f o ai 5, ?_, ?_⟩
  · refine ⟨_, rfl, rfl, _, rfl, ?_⟩
    rw [ieq]
    refine ite2 (fun h => ?_) (fun h => JS.pass (j := 4) ⟨R5, D5a, L5, D5', o4, o7, rfl, S5, l5, m5, c51, c52⟩ fun e => h (decide_eq_true e))
    obtain ⟨rfl, rfl⟩ := c52 (by have := of_decide_eq_true h; omega)
    obtain ⟨xs, q, q1, q2, q3⟩ := S5.row (K := K) hrow
    refine ⟨_, rfl, _, rfl, R5, _, _, _, rfl, rfl, q1, q2, q, _, _, _, rfl, rfl, q3, atI_nat (j := 0) rk0, (by show 3 ≤ sizeLine; decide), fun p hp => ⟨_, rfl, _, rfl, putR_fin (l := [f + (ai : Int), 1, 2]) (S5.same (Same.new hp)) ha1 upd_same (S5.new ha1 hp) (by rw [rl]; exact ai7) fun H6 S6 => ?_⟩⟩
    exact JS.bad (of_decide_eq_true h) S6 (by rw [List.length_set]; exact rl) (by rw [dl]; decide) (marks_no (mem_rows rl ai7) rfl)
  clear c51 c52 S5
  rintro σ5 H5 ⟨R5, D5a, L5, D5', o4, o7, rfl, S5, l5, m5, c51, c52⟩
  refine ⟨JS H1 a x kind f o ai 6, ?_, ?_⟩
  · refine ⟨_, rfl, rfl, _, rfl, ?_⟩
    rw [ieq]
    refine ite2 (fun h => ?_) (fun h => JS.pass (j := 5) ⟨R5, D5a, L5, D5', o4, o7, rfl, S5, l5, m5, c51, c52⟩ fun e => h (decide_eq_true e))
    obtain ⟨rfl, rfl⟩ := c52 (by have := of_decide_eq_true h; omega)
    refine ⟨(by show 2 ≤ sizeLine; decide), fun p hp => ⟨_, rfl, _, rfl, putR_fin (l := [0, 5]) (S5.same (Same.new hp)) ha1 upd_same (S5.new ha1 hp) (by rw [rl]; exact ai7) fun H6 S6 => ?_⟩⟩
    exact JS.bad (of_decide_eq_true h) S6 (by rw [List.length_set]; exact rl) (by rw [dl]; decide) (marks_no (mem_rows rl ai7) (by decide))
  clear c51 c52 S5
  rintro σ5 H5 ⟨R5, D5a, L5, D5', o4, o7, rfl, S5, l5, m5, c51, c52⟩
  refine ⟨JS H1 a x kind f o ai 7, ?_, ?_⟩
  · refine ⟨_, rfl, rfl, _, rfl, ?_⟩
    rw [ieq]
    refine ite2 (fun h => ?_) (fun h => JS.pass (j := 6) ⟨R5, D5a, L5, D5', o4, o7, rfl, S5, l5, m5, c51, c52⟩ fun e => h (decide_eq_true e))
    obtain ⟨rfl, rfl⟩ := c52 (by have := of_decide_eq_true h; omega)
    obtain ⟨xs, q, q1, q2, q3⟩ := S5.row (K := K) hrow
    refine ⟨_, rfl, _, rfl, R5, _, _, _, rfl, rfl, q1, q2, q, _, _, _, rfl, rfl, q3, atI_nat (j := 0) rk0, _, rfl, (by show 2 ≤ sizeLine; decide), fun g hg => ?_⟩
    have sg : Same H5 (upd H5 g (.lst [V.int 64, V.int (-1)])) := Same.new hg
    have ng := (S5.new ha1 hg).2.2.2
    refine ⟨_, rfl, a, 2, rfl, S5.dr.same sg, by decide, fun u H6 u0 u1 D6 B6 => ?_⟩
    have S6 := (S5.same sg).step ha1 B6 D6
    obtain ⟨cc, hcc, ecc⟩ : ∃ cc : Int, atI [V.int 64, .int (-1)] u = some (.int cc) ∧ cellB cc = false := by
      have : u = 0 ∨ u = 1 := by omega
      rcases this with rfl | rfl
      · exact ⟨64, rfl, by decide⟩
      · exact ⟨-1, rfl, by decide⟩
    refine ⟨g, _, _, .int cc, rfl, rfl, SqL.of (B6 _ _ upd_same ng), hcc, (by show 2 ≤ sizeLine; decide), fun p hp => ⟨_, rfl, _, rfl, putR_fin (l := [f + (ai : Int), cc]) (S6.same (Same.new hp)) ha1 upd_same (S6.new ha1 hp) (by rw [rl]; exact ai7) fun H7 S7 => ?_⟩⟩
    refine JS.bad (of_decide_eq_true h) S7 (by rw [List.length_set]; exact rl) (by rw [dl]; decide) (marks_no (mem_rows rl ai7) ?_)
    unfold markB
    rw [show ([f + (ai : Int), cc] : List Int).all cellB = false by simp [ecc]]
    simp
  clear c51 c52 S5
  rintro σ5 H5 ⟨R5, D5a, L5, D5', o4, o7, rfl, S5, l5, m5, c51, c52⟩
  refine ⟨JS H1 a x kind f o ai 8, ?_, ?_⟩
  · refine ⟨_, rfl, rfl, _, rfl, ?_⟩
    rw [ieq]
    refine ite2 (fun h => ?_) (fun h => JS.pass (j := 7) ⟨R5, D5a, L5, D5', o4, o7, rfl, S5, l5, m5, c51, c52⟩ fun e => h (decide_eq_true e))
    obtain ⟨rfl, rfl⟩ := c52 (by have := of_decide_eq_true h; omega)
    have aj7 : (ai + 1) % 7 < 7 := Nat.mod_lt _ (by decide)
    have hrow2 := rowsL_at (f := f) (o := o) aj7
    obtain ⟨xs, q, q1, q2, q3⟩ := S5.row (K := K) hrow2
    have ej : ((ai : Int) + 1) % 7 = (((ai + 1) % 7 : Nat) : Int) := by omega
    rw [← ej] at q2
    refine ⟨_, rfl, _, rfl, _, _, rfl, rfl, .inl ⟨_, rfl, _, _, rfl, rfl, (by show (0 : Int) < 7; decide), R5, _, _, _, rfl, rfl, q1, q2, q, _, rfl, .inl q3, fun p hp => ⟨_, rfl, _, rfl, putR_fin (l := rowK f o ((ai + 1) % 7)) (S5.same (Same.new hp)) ha1 upd_same (S5.new ha1 hp) (by rw [rl]; exact ai7) fun H6 S6 => ?_⟩⟩⟩
    refine JS.bad (of_decide_eq_true h) S6 (by rw [List.length_set]; exact rl) (by rw [dl]; decide) (marks_noA ?_)
    rw [rows_mdL (by rw [List.length_set]; exact rl)]
    have nij : (ai + 1) % 7 ≠ ai := by omega
    refine apart_no (i := ai) (j := (ai + 1) % 7) (x := rowK f o ((ai + 1) % 7)) (y := rowK f o ((ai + 1) % 7)) ?_ ?_ nij (List.take_length)
    · rw [List.getElem?_append_left (by rw [List.length_set, rl]; exact ai7), List.getElem?_set_self (by rw [rl]; exact ai7)]
    · rw [List.getElem?_append_left (by rw [List.length_set, rl]; exact aj7), List.getElem?_set_ne nij.symm]
      exact hrow2
  clear c51 c52 S5
  rintro σ5 H5 ⟨R5, D5a, L5, D5', o4, o7, rfl, S5, l5, m5, c51, c52⟩
  refine ⟨JS H1 a x kind f o ai 9, ?_, ?_⟩
  · refine ⟨_, rfl, rfl, _, rfl, ?_⟩
    rw [ieq]
    refine ite2 (fun h => ?_) (fun h => JS.pass (j := 8) ⟨R5, D5a, L5, D5', o4, o7, rfl, S5, l5, m5, c51, c52⟩ fun e => h (decide_eq_true e))
    obtain ⟨rfl, rfl⟩ := c52 (by have := of_decide_eq_true h; omega)
    obtain ⟨xs, q, q1, q2, q3⟩ := S5.row (K := K) hrow
    refine ⟨_, rfl, _, rfl, R5, _, _, _, rfl, rfl, q1, q2, q, _, _, _, rfl, rfl, q3, atI_nat (j := 0) rk0, (by show 1 ≤ sizeLine; decide), fun p hp => ⟨_, rfl, _, rfl, a, 3, rfl, S5.dr.same (Same.new hp), by decide, fun u H6 u0 u1 D6 B6 => ?_⟩⟩
    have n5 := S5.new ha1 hp
    have S6 := (S5.same (Same.new (o := .lst [V.int (f + (ai : Int))]) hp)).step ha1 B6 D6
    obtain ⟨di, rfl⟩ : ∃ di : Nat, u = (di : Int) := ⟨u.toNat, by omega⟩
    have di3 : di < 3 := by omega
    refine putD_fin (l := [f + (ai : Int)]) S6 ha1 (B6 _ _ upd_same n5.2.2.2) n5 (by rw [dl]; exact di3) fun H7 S7 => ?_
    obtain ⟨xs, q, q1, q2, q3⟩ := S7.row (K := K) hrow
    refine ⟨_, rfl, _, rfl, R5, _, _, _, rfl, rfl, q1, q2, q, _, _, _, rfl, rfl, q3, atI_nat (j := 0) rk0, (by show 2 ≤ sizeLine; decide), fun p2 hp2 => ⟨_, rfl, _, rfl, putR_fin (l := [f + (ai : Int), 9]) (S7.same (Same.new hp2)) ha1 upd_same (S7.new ha1 hp2) (by rw [rl]; exact ai7) fun H8 S8 => ?_⟩⟩
    refine JS.bad (of_decide_eq_true h) S8 (by rw [List.length_set]; exact rl) (by rw [List.length_set, dl]; decide) (marks_noA ?_)
    rw [rows_mdL (by rw [List.length_set]; exact rl)]
    refine apart_no (i := 7 + di) (j := ai) (x := [f + (ai : Int)]) (y := [f + (ai : Int), 9]) ?_ ?_ (by omega) rfl
    · rw [List.getElem?_append_right (by rw [List.length_set, rl]; omega), List.length_set, rl, Nat.add_sub_cancel_left, List.getElem?_set_self (by rw [dl]; exact di3)]
    · rw [List.getElem?_append_left (by rw [List.length_set, rl]; exact ai7), List.getElem?_set_self (by rw [rl]; exact ai7)]
  clear c51 c52 S5
  rintro σ5 H5 ⟨R5, D5a, L5, D5', o4, o7, rfl, S5, l5, m5, c51, c52⟩
  refine ⟨JS H1 a x kind f o ai 10, ?_, ?_⟩
  · refine ⟨_, rfl, rfl, _, rfl, ?_⟩
    rw [ieq]
    refine ite2 (fun h => ?_) (fun h => JS.pass (j := 9) ⟨R5, D5a, L5, D5', o4, o7, rfl, S5, l5, m5, c51, c52⟩ fun e => h (decide_eq_true e))
    obtain ⟨rfl, rfl⟩ := c52 (by have := of_decide_eq_true h; omega)
    obtain ⟨xs, hxs, ft⟩ := S5.tail ha1
    refine ⟨_, rfl, _, rfl, D5a, xs, rfl, SqL.of hxs, fun p hp => ?_⟩
    rw [cut_tail]
    exact JS.bad (of_decide_eq_true h) (ft p hp) rl (by show 2 ≤ 3; decide) (marks_noD (by show 2 ≠ 3; decide))
  clear c51 c52 S5
  rintro σ5 H5 ⟨R5, D5a, L5, D5', o4, o7, rfl, S5, l5, m5, c51, c52⟩
  refine ⟨JS H1 a x kind f o ai 11, ?_, ?_⟩
  · refine ⟨_, rfl, rfl, _, rfl, ?_⟩
    rw [ieq]
    refine ite2 (fun h => ?_) (fun h => JS.pass (j := 10) ⟨R5, D5a, L5, D5', o4, o7, rfl, S5, l5, m5, c51, c52⟩ fun e => h (decide_eq_true e))
    obtain ⟨rfl, rfl⟩ := c52 (by have := of_decide_eq_true h; omega)
    refine ⟨(by show 1 ≤ sizeLine; decide), fun p hp => ⟨_, rfl, putR_fin (l := [50]) (ai := 4) (S5.same (Same.new hp)) ha1 upd_same (S5.new ha1 hp) (by rw [rl]; decide) fun H6 S6 => ?_⟩⟩
    refine ⟨(by show 2 ≤ sizeLine; decide), fun p2 hp2 => ⟨_, rfl, putR_fin (l := [51, 3]) (ai := 5) (S6.same (Same.new hp2)) ha1 upd_same (S6.new ha1 hp2) (by rw [List.length_set, rl]; decide) fun H7 S7 => ?_⟩⟩
    refine JS.bad (of_decide_eq_true h) S7 (by rw [List.length_set, List.length_set]; exact rl) (by rw [dl]; decide) (marks_noL ?_)
    show ((((rowsL f o).set 4 [50]).set 5 [51, 3]).getD 4 []).length ≠ ((((rowsL f o).set 4 [50]).set 5 [51, 3]).getD 5 []).length
    rw [List.getD_eq_getElem?_getD, List.getD_eq_getElem?_getD, List.getElem?_set_ne (by decide), List.getElem?_set_self (by rw [rl]; decide), List.getElem?_set_self (by rw [List.length_set, rl]; decide)]
    decide
  clear c51 c52 S5
  rintro σ5 H5 ⟨R5, D5a, L5, D5', o4, o7, rfl, S5, l5, m5, c51, _⟩
  have bad := c51 (by omega)
  have BH5 : But a H H5 := B1.trans S5.but
  have hx5 : H5 x = some (.lst [.int wd, .int ht, .int sz, .ref m]) := off_le _ _ ((off_but BH5) _ _ hx)
  refine ⟨_, rfl, _, rfl, x, _, rfl, SqL.of hx5, fun F hF => ⟨_, rfl, _, rfl, (by show 2 ≤ sizeLine; decide), fun M hM => ⟨(by show 1 ≤ sizeLine; decide), fun N hN => ?_⟩⟩⟩
  have sF : Same H5 (upd H5 F (.lst (cutV [V.int wd, V.int ht, V.int sz, V.ref m] none (some 3)))) := Same.new hF
  have hF' := upd_at hF (.lst (cutV [V.int wd, V.int ht, V.int sz, V.ref m] none (some 3)))
  generalize upd H5 F (.lst (cutV [V.int wd, V.int ht, V.int sz, V.ref m] none (some 3))) = G1 at sF hF' hM hN ⊢
  have sM : Same G1 (upd G1 M (.lst [V.ref R5, V.ref D5a])) := Same.new hM
  have hM' := upd_at hM (.lst [V.ref R5, V.ref D5a])
  have SM := (S5.same sF).new ha1 hM
  generalize upd G1 M (.lst [V.ref R5, V.ref D5a]) = G2 at sM hM' hN ⊢
  have sN : Same G2 (upd G2 N (.lst [V.ref M])) := Same.new hN
  refine ⟨F, N, _, _, rfl, rfl, sN _ _ (sM _ _ hF'), upd_same, (by show 3 + 1 ≤ sizeLine; decide), fun X hX => ?_⟩
  have sX := ((sF.trans sM).trans sN).trans (Same.new (o := .lst (cutV [V.int wd, V.int ht, V.int sz, V.ref m] none (some 3) ++ [V.ref M])) hX)
  have SX := S5.same sX
  have nXa : X ≠ a := ((S5.same ((sF.trans sM).trans sN)).new ha1 hX).2.2.2
  obtain ⟨ps5, ds5, x1, x2, x3, x4, x5, x6⟩ := SX.ex
  have na : ∀ {p : Addr}, H1 p = none → p ≠ a := fun h => (ne_of_none ha1 h).symm
  refine k X wd ht sz M L5 D5' _ (by rw [bad, Bool.and_false]) l5 m5 (by rw [off_ne nXa, upd_same]; rfl) ⟨R5, D5a, ps5, ds5, by rw [off_ne SM.2.2.2]; exact Same.new hX _ _ (sN _ _ hM'), by rw [off_ne (na S5.nR)]; exact x1, by rw [off_ne (na S5.nD)]; exact x2, ⟨x3.1, fun i q l e1 e2 => by rw [off_ne (na (x5 q (List.mem_of_getElem? e1)).1)]; exact x3.2 i q l e1 e2⟩, ⟨x4.1, fun i q l e1 e2 => by rw [off_ne (na (x6 q (List.mem_of_getElem? e1)).1)]; exact x4.2 i q l e1 e2⟩⟩ SX.dr (B1.trans SX.but)
end
end Sx

set_option Elab.async false
set_option linter.all false
set_option maxRecDepth 100000
set_option maxHeartbeats 2000000
namespace Sx
open PySem PySem.Spec PyProof.Rows L2 SxA SxK
def spBegin : Sp := fun vs H Q _ => ∃ (x : Addr) (w h s : Int) (m : Addr) (L D : List (List Int)) (B : Addr) (b : KB), vs = [.ref x, .ref B] ∧ H x = some (.lst [.int w, .int h, .int s, .ref m]) ∧ LMk H m L D ∧ L.length = 7 ∧ D.length = 3 ∧ (∀ l ∈ L, l.length ≤ 100) ∧ H B = some (.tup b.v) ∧ b.ok ∧
  ∀ q H', Same H H' → H' q = some (.lst ((bmF (mdL L D) b).map V.int)) → Q (.ref q) H'
def spNLine (K : PySem.W.Frag) : Sp := fun vs H Q _ => ∃ (x : Addr) (w h s : Int) (m : Addr) (L D : List (List Int)) (B : Addr) (n : Int) (l : List Int), vs = [.ref x, .ref B] ∧ H x = some (.lst [.int w, .int h, .int s, .ref m]) ∧ LMk H m L D ∧ L.length = 7 ∧ (∀ l ∈ L, l.length ≤ 100) ∧ H B = some (.tup ((n :: l).map V.int)) ∧ l.length ≤ 10 ∧ (∀ k ∈ n :: l, 0 ≤ k ∧ k < 1000) ∧
  ∀ q H', Same H H' → H' q = some (.tup ((L.getD 6 [] ++ labF (n :: l)).map V.int)) → Q (.ref q) H'
theorem LMk.row {K : PySem.W.Frag} {H : Hp} {m : Addr} {L D : List (List Int)} (h : LMk H m L D) : ∃ Rl Dl : Addr, H m = some (.lst [.ref Rl, .ref Dl]) ∧ (∀ (i : Nat) (l : List Int), L[i]? = some l → ∃ (xs : List V) (q : Addr), SqL K H Rl xs ∧ atI xs (i : Int) = some (.ref q) ∧ H q = some (.lst (l.map V.int))) ∧
    ∀ (i : Nat) (l : List Int), D[i]? = some l → ∃ (xs : List V) (q : Addr), SqL K H Dl xs ∧ atI xs (i : Int) = some (.ref q) ∧ H q = some (.lst (l.map V.int)) := by
  obtain ⟨Rl, Dl, ps, ds, h1, h2, h3, h4, h5⟩ := h.ex
  refine ⟨Rl, Dl, h1, fun i l hl => ?_, fun i l hl => ?_⟩
  · have il := (List.getElem?_eq_some_iff.mp hl).1
    have hp : ps[i]? = some (ps[i]'(by rw [h4.1]; exact il)) := List.getElem?_eq_getElem _
    exact ⟨_, _, SqL.of h2, atI_nat (by rw [List.getElem?_map, hp]; rfl), h4.2 i _ l hp hl⟩
  · have il := (List.getElem?_eq_some_iff.mp hl).1
    have hp : ds[i]? = some (ds[i]'(by rw [h5.1]; exact il)) := List.getElem?_eq_getElem _
    exact ⟨_, _, SqL.of h3, atI_nat (by rw [List.getElem?_map, hp]; rfl), h5.2 i _ l hp hl⟩
theorem getD_at {L : List (List Int)} {i : Nat} (h : i < L.length) : L[i]? = some (L.getD i []) := by
  rw [List.getD_eq_getElem?_getD, List.getElem?_eq_getElem h]
  rfl
section
variable {P : Program} {w : World} {K : PySem.W.Frag} {mg : Str → Option Value} {base : Heap}
abbrev nsLawBegin : List Str := ["shape", "block", "marks"]
theorem scLawBegin : FnScope nsLawBegin ["shape", "block"] (defScope sLawBegin) := ⟨rfl, rfl, rfl, by decide +kernel, rfl, by decide +kernel, by decide +kernel⟩
theorem ok_law_begin (t : T K mg) : Ok P w K mg base 2 "_law_begin" ["shape", "block"] spBegin := by
  refine mkOk t.d_law_begin t.g_law_begin scLawBegin (fun vs H Q E h => ?_) (fun _ _ _ _ _ _ us hl => match us, hl with | [_, _], _ => rfl) fun cdv A outer s H vs Q E hr h => ?_
  · obtain ⟨x, w, h, s, m, L, D, B, b, rfl, _⟩ := h; rfl
  obtain ⟨x, wd, ht, sz, m, L, D, B, b, rfl, hx, hM, hl, hd, hl2, hB, hb, k⟩ := h
  have hr1 : Room 1 _ := hr.mono (by decide)
  refine ⟨_, pss_cons (ps_set (i := 2) scLawBegin.nd rfl (Or.inl rfl) (pe_ix (ix_listK (K := K) rfl) (pv 0) pe_int (fun _ _ => rfl)))
    (pss_cons (ps_if (pt_cmpR op_eq (pe_ix (ix_tupK (K := K) rfl) (pv 1) pe_int (fun _ _ => rfl)) pe_str (nomark _))
      (pss_one (ps_ret (pe_ix (ix_listK (K := K) rfl) (pe_ix (ix_listK (K := K) rfl) (pv 2) pe_int (fun _ _ => rfl)) (pe_op op_sub (pe_ix (ix_tupK (K := K) rfl) (pv 1) pe_int (fun _ _ => rfl)) pe_int) (fun _ _ => rfl))))
      pss_nil)
    (pss_cons (ps_if (pt_cmpR op_eq (pe_ix (ix_tupK (K := K) rfl) (pv 1) pe_int (fun _ _ => rfl)) pe_str (nomark _))
      (pss_one (ps_ret (pe_op op_cat (pe_op op_cat (pe_ix (ix_listK (K := K) rfl) (pe_ix (ix_listK (K := K) rfl) (pv 2) pe_int (fun _ _ => rfl)) pe_int (fun _ _ => rfl)) (pe_ok (ok_law_figures t) hr1 rfl (pa_cons (pe_ix (ix_tupK (K := K) rfl) (pv 1) pe_int (fun _ _ => rfl)) pa_nil))) (pe_lst (pa_cons pe_int pa_nil)))))
      pss_nil)
    (pss_one (ps_ret (pe_ix (ix_listK (K := K) rfl) (pe_ix (ix_listK (K := K) rfl) (pv 2) pe_int (fun _ _ => rfl)) (pe_bm PySem.F.plainAttrs_list PySem.F.slot_list_index PySem.F.type_list_index mt_index (pe_lst (pa_cons pe_str (pa_cons pe_str (pa_cons pe_str (pa_cons pe_str pa_nil))))) (pa_cons (pe_ix (ix_tupK (K := K) rfl) (pv 1) pe_int (fun _ _ => rfl)) pa_nil)) (fun _ _ => rfl)))))), ?_⟩
  obtain ⟨Rl, Dl, hm, fr, fd⟩ := LMk.row (K := K) hM
  have sr : Same H H := fun _ _ z => z
  have big : 1000 ≤ sizeLine := by decide
  refine ⟨_, rfl, x, _, _, .ref m, rfl, rfl, SqL.of hx, atI_nat (j := 3) rfl, ?_⟩
  have plain : ∀ (i : Nat), i < 7 → ∃ (xs : List V) (q : Addr), SqL K H Rl xs ∧ atI xs (i : Int) = some (.ref q) ∧ H q = some (.lst ((L.getD i []).map V.int)) := fun i hi => fr i _ (getD_at (by omega))
  cases b with
  | head =>
    refine ⟨_, rfl, B, _, _, _, rfl, rfl, SqT.of hB, rfl, rfl, _, rfl, iteF ⟨_, rfl, B, _, _, _, rfl, rfl, SqT.of hB, rfl, rfl, _, rfl, iteF ?_⟩⟩
    refine ⟨_, rfl, m, _, _, .ref Rl, rfl, rfl, SqL.of hm, atI_nat (j := 0) rfl, (by show 4 ≤ sizeLine; decide), fun g hg => ?_⟩
    have sg : Same H (upd H g (.lst [V.str "head", V.str "par", V.str "", V.str "break"])) := Same.new hg
    obtain ⟨xs, q, q1, q2, q3⟩ := plain 0 (by decide)
    refine ⟨.inl ⟨rfl, _, SqL.of upd_same⟩, _, rfl, B, _, _, _, rfl, rfl, SqT.of (sg _ _ hB), rfl, g, _, _, 0, _, rfl, rfl, SqL.of upd_same, rfl, rfl, rfl, by decide +kernel, fun m' z' h1 h2 => ?_, Rl, _, _, _, rfl, rfl, sg.seq q1, q2, k q _ sg (sg _ _ q3)⟩
    exact absurd h1 (Nat.not_lt_zero _)
  | par =>
    refine ⟨_, rfl, B, _, _, _, rfl, rfl, SqT.of hB, rfl, rfl, _, rfl, iteF ⟨_, rfl, B, _, _, _, rfl, rfl, SqT.of hB, rfl, rfl, _, rfl, iteF ?_⟩⟩
    refine ⟨_, rfl, m, _, _, .ref Rl, rfl, rfl, SqL.of hm, atI_nat (j := 0) rfl, (by show 4 ≤ sizeLine; decide), fun g hg => ?_⟩
    have sg : Same H (upd H g (.lst [V.str "head", V.str "par", V.str "", V.str "break"])) := Same.new hg
    obtain ⟨xs, q, q1, q2, q3⟩ := plain 1 (by decide)
    refine ⟨.inl ⟨rfl, _, SqL.of upd_same⟩, _, rfl, B, _, _, _, rfl, rfl, SqT.of (sg _ _ hB), rfl, g, _, _, 1, _, rfl, rfl, SqL.of upd_same, rfl, rfl, rfl, by decide +kernel, fun m' z' h1 h2 => ?_, Rl, _, _, _, rfl, rfl, sg.seq q1, q2, k q _ sg (sg _ _ q3)⟩
    have : m' = 0 := by omega
    subst this
    cases h2
    decide +kernel
  | item =>
    refine ⟨_, rfl, B, _, _, _, rfl, rfl, SqT.of hB, rfl, rfl, _, rfl, iteT ?_⟩
    obtain ⟨xs, q, q1, q2, q3⟩ := fd 1 _ (getD_at (by omega))
    exact ⟨_, rfl, m, _, _, .ref Dl, rfl, rfl, SqL.of hm, atI_nat (j := 1) rfl, _, rfl, B, _, _, _, rfl, rfl, SqT.of hB, atI_nat (j := 1) rfl, _, _, rfl, rfl, Dl, _, _, _, rfl, rfl, q1, q2, k q H sr q3⟩
  | note n =>
    obtain ⟨n1, n99⟩ := hb
    refine ⟨_, rfl, B, _, _, _, rfl, rfl, SqT.of hB, rfl, rfl, _, rfl, iteF ⟨_, rfl, B, _, _, _, rfl, rfl, SqT.of hB, rfl, rfl, _, rfl, iteT ?_⟩⟩
    obtain ⟨xs, q, q1, q2, q3⟩ := plain 2 (by decide)
    refine ⟨_, rfl, m, _, _, .ref Rl, rfl, rfl, SqL.of hm, atI_nat (j := 0) rfl, Rl, _, _, _, rfl, rfl, q1, q2, ?_⟩
    refine ⟨_, rfl, B, _, _, _, rfl, rfl, SqT.of hB, atI_nat (j := 1) rfl, n, rfl, by omega, by omega, fun p H1 hp s1 hp1 => ?_⟩
    have fl := figF_len (n := n) (by omega) (by omega)
    have l2 := hl2 _ (List.mem_of_getElem? (getD_at (L := L) (i := 2) (by omega)))
    refine ⟨q, p, _, _, rfl, rfl, s1 _ _ q3, hp1, by rw [List.length_map, List.length_map]; omega, fun p2 hp2 => ⟨(by show 1 ≤ sizeLine; decide), fun p3 hp3 => ?_⟩⟩
    refine ⟨p2, p3, _, _, rfl, rfl, Same.new hp3 _ _ upd_same, upd_same, by rw [List.length_append, List.length_map, List.length_map]; show _ + 1 ≤ sizeLine; omega, fun p4 hp4 => ?_⟩
    refine k p4 _ (s1.trans ((Same.new hp2).trans ((Same.new hp3).trans (Same.new hp4)))) ?_
    rw [upd_same]
    show _ = some (HO.lst (((L.getD 2 [] ++ figF n) ++ [0]).map V.int))
    rw [List.map_append, List.map_append]
    rfl
  | brk =>
    refine ⟨_, rfl, B, _, _, _, rfl, rfl, SqT.of hB, rfl, rfl, _, rfl, iteF ⟨_, rfl, B, _, _, _, rfl, rfl, SqT.of hB, rfl, rfl, _, rfl, iteF ?_⟩⟩
    refine ⟨_, rfl, m, _, _, .ref Rl, rfl, rfl, SqL.of hm, atI_nat (j := 0) rfl, (by show 4 ≤ sizeLine; decide), fun g hg => ?_⟩
    have sg : Same H (upd H g (.lst [V.str "head", V.str "par", V.str "", V.str "break"])) := Same.new hg
    obtain ⟨xs, q, q1, q2, q3⟩ := plain 3 (by decide)
    refine ⟨.inl ⟨rfl, _, SqL.of upd_same⟩, _, rfl, B, _, _, _, rfl, rfl, SqT.of (sg _ _ hB), rfl, g, _, _, 3, _, rfl, rfl, SqL.of upd_same, rfl, rfl, rfl, by decide +kernel, fun m' z' h1 h2 => ?_, Rl, _, _, _, rfl, rfl, sg.seq q1, q2, k q _ sg (sg _ _ q3)⟩
    have : m' = 0 ∨ m' = 1 ∨ m' = 2 := by omega
    rcases this with rfl | rfl | rfl <;> cases h2 <;> decide +kernel
abbrev nsLawNumberLine : List Str := ["shape", "label", "row", "number"]
theorem scLawNumberLine : FnScope nsLawNumberLine ["shape", "label"] (defScope sLawNumberLine) := ⟨rfl, rfl, rfl, by decide +kernel, rfl, by decide +kernel, by decide +kernel⟩
theorem ok_law_number_line (t : T K mg) : Ok P w K mg base 2 "_law_number_line" ["shape", "label"] (spNLine K) := by
  refine mkOk t.d_law_number_line t.g_law_number_line scLawNumberLine (fun vs H Q E h => ?_) (fun _ _ _ _ _ _ us hl => match us, hl with | [_, _], _ => rfl) fun cdv A outer s H vs Q E hr h => ?_
  · obtain ⟨x, w, h, s, m, L, D, B, n, l, rfl, _⟩ := h; rfl
  obtain ⟨x, wd, ht, sz, m, L, D, B, n, l, rfl, hx, hM, hl, hl2, hB, hl10, hn, k⟩ := h
  have hr1 : Room 1 _ := hr.mono (by decide)
  refine ⟨_, pss_cons (ps_set (i := 2) scLawNumberLine.nd rfl (Or.inl rfl) (pe_op op_cat (pe_ix (ix_listK (K := K) rfl) (pe_ix (ix_listK (K := K) rfl) (pe_ix (ix_listK (K := K) rfl) (pv 0) pe_int (fun _ _ => rfl)) pe_int (fun _ _ => rfl)) pe_int (fun _ _ => rfl)) (pe_ok (ok_law_figures t) hr1 rfl (pa_cons (pe_ix (ix_tupK (K := K) rfl) (pv 1) pe_int (fun _ _ => rfl)) pa_nil))))
    (pss_cons (ps_for PassesOwn.never rfl (pi_tup (pe_slice (sl_tupAK (K := K) rfl) (pv 1) (po_some pe_int) po_none)) (pg_name (i := 3) scLawNumberLine.nd rfl (Or.inl rfl))
      (pss_one (ps_set (i := 2) scLawNumberLine.nd rfl (Or.inl rfl) (pe_op op_cat (pe_op op_cat (pv 2) (pe_lst (pa_cons pe_int pa_nil))) (pe_ok (ok_law_figures t) hr1 rfl (pa_cons (pv 3) pa_nil))))))
    (pss_one (ps_ret (pe_callTy call_tuple_of rfl t.f_tuple (by decide +kernel) (pa_cons (pv 2) pa_nil))))), ?_⟩
  obtain ⟨Rl, Dl, hm, fr, fd⟩ := LMk.row (K := K) hM
  have big : 1000 ≤ sizeLine := by decide
  have h6 := getD_at (L := L) (i := 6) (by omega)
  obtain ⟨xs, q, q1, q2, q3⟩ := fr 6 _ h6
  have l6 := hl2 _ (List.mem_of_getElem? h6)
  have n0 := hn n List.mem_cons_self
  refine ⟨_, rfl, x, _, _, .ref m, rfl, rfl, SqL.of hx, atI_nat (j := 3) rfl, m, _, _, .ref Rl, rfl, rfl, SqL.of hm, atI_nat (j := 0) rfl, Rl, _, _, _, rfl, rfl, q1, q2, ?_⟩
  refine ⟨_, rfl, B, _, _, _, rfl, rfl, SqT.of hB, atI_nat (j := 0) rfl, n, rfl, n0.1, n0.2, fun p H1 hp s1 hp1 => ?_⟩
  have fl := figF_len n0.1 n0.2
  refine ⟨q, p, _, _, rfl, rfl, s1 _ _ q3, hp1, by rw [List.length_map, List.length_map]; omega, fun R hR => ?_⟩
  have sR := s1.trans (Same.new (o := .lst ((L.getD 6 []).map V.int ++ (figF n).map V.int)) hR)
  have hR1 := upd_same (H := H1) (a := R) (o := .lst ((L.getD 6 []).map V.int ++ (figF n).map V.int))
  generalize upd H1 R (.lst ((L.getD 6 []).map V.int ++ (figF n).map V.int)) = H2 at sR hR1 ⊢
  have hB2 := sR _ _ hB
  refine ⟨_, rfl, 1, rfl, ?_⟩
  unfold tNoPart
  refine slT_from (m := 1) hB2 fun p2 H3 s3 hp2 => ?_
  have hR3 := s3 _ _ hR1
  have s03 := sR.trans s3
  refine ⟨p2, rfl, ⟨_, SqT.of hp2⟩, ?_⟩
  have lab : ∀ i, i ≤ l.length → (labF (n :: l.take i)).length ≤ 44 := fun i hi => by
    have := labF_len (l := n :: l.take i) fun j hj => by
      rcases List.mem_cons.mp hj with h | h
      · rw [h]; exact n0
      · exact hn j (List.mem_cons_of_mem _ (List.mem_of_mem_take h))
    rw [List.length_cons, List.length_take] at this
    omega
  refine for_tup (K := K) (a := p2) (xs := l.map V.int) (fun i σ' H' => (∃ (R' : Addr) (o3 : Option V), σ' = [some (.ref x), some (.ref B), some (.ref R'), o3] ∧ H' R' = some (.lst ((L.getD 6 [] ++ labF (n :: l.take i)).map V.int))) ∧ Same H3 H') ⟨⟨R, _, rfl, ?_⟩, fun _ _ z => z⟩ (fun i σ' H' _ q => SqT.of (q.2 _ _ hp2)) ?_ ?_
  · rw [hR3, List.map_append]
    show some (HO.lst (_ ++ (figF n).map V.int)) = some (HO.lst (_ ++ (figF n ++ []).map V.int))
    rw [List.append_nil]
  · rintro i v σ' H4 hv ⟨⟨R', o3, rfl, hR'⟩, s4⟩
    rw [List.getElem?_map] at hv
    obtain ⟨c, hc, rfl⟩ := Option.map_eq_some_iff.mp hv
    have il := (List.getElem?_eq_some_iff.mp hc).1
    have c0 := hn c (List.mem_cons_of_mem _ (List.mem_of_getElem? hc))
    have lb := lab i (by omega)
    have fc := figF_len c0.1 c0.2
    refine ⟨_, rfl, (by show 1 ≤ sizeLine; decide), fun p3 hp3 => ?_⟩
    have s5 : Same H4 (upd H4 p3 (.lst [V.int 11])) := Same.new hp3
    refine ⟨R', p3, _, _, rfl, rfl, s5 _ _ hR', upd_same, by rw [List.length_map, List.length_append]; show _ + 1 ≤ sizeLine; omega, fun p4 hp4 => ?_⟩
    refine ⟨_, rfl, c, rfl, c0.1, c0.2, fun p5 H6 hp5 s6 h5 => ?_⟩
    have h4 := s6 _ _ (upd_same (H := upd H4 p3 (.lst [V.int 11])) (a := p4) (o := .lst ((L.getD 6 [] ++ labF (n :: l.take i)).map V.int ++ [V.int 11])))
    refine ⟨p4, p5, _, _, rfl, rfl, h4, h5, by rw [List.length_append, List.length_map, List.length_map, List.length_append]; show _ + 1 + _ ≤ sizeLine; omega, fun p6 hp6 => ⟨⟨p6, _, rfl, ?_⟩, ?_⟩⟩
    · rw [upd_same, List.take_add_one, hc]
      have e := labF_snoc (n :: l.take i) c
      rw [if_neg (List.cons_ne_nil _ _)] at e
      show _ = some (HO.lst ((L.getD 6 [] ++ labF ((n :: l.take i) ++ [c])).map V.int))
      rw [e, List.map_append, List.map_append, List.map_append, List.append_assoc, List.append_assoc]
      rfl
    · exact s4.trans (s5.trans ((Same.new hp4).trans (s6.trans (Same.new hp6))))
  · rintro σ' H4 ⟨⟨R', o3, rfl, hR'⟩, s4⟩
    rw [List.length_map, List.take_length] at hR'
    exact ⟨_, rfl, R', _, rfl, .inl ⟨SqL.of hR', fun T hT => k T _ (s03.trans (s4.trans (Same.new hT))) upd_same⟩⟩
end
end Sx

set_option Elab.async false
set_option linter.all false
set_option maxRecDepth 100000
set_option maxHeartbeats 2000000
namespace Sx
open PySem PySem.Spec PyProof.Rows L2 SxA SxK
theorem call_isE2 {X : Cx} {a D : Addr} {oe : Obj} {pn : List (Addr × Obj)} {cls : Value} {d : Option Addr} (C : ExcC X.K D) (hz : Zc cls d oe) (hf : ∃ vs, oe.data = .fields vs) : CallR (X.suite a ((a, oe) :: pn)) (.builtin "isinstance") (fun xs H Q => (cls = .ref D ∧ d = none) ∧ rIsE X.K D a xs H Q) := by
  intro pins s σ H xs us Q I r h
  obtain ⟨⟨rfl, rfl⟩, h⟩ := h
  exact call_isE C hz hf pins s σ H xs us Q I r h
def spRefused : Sp := fun vs H Q _ => ∃ (x : Addr) (w h s : Int) (m : Addr) (L D : List (List Int)), vs = [.ref x] ∧ H x = some (.lst [.int w, .int h, .int s, .ref m]) ∧ LMk H m L D ∧ L.length = 7 ∧ D.length ≤ 100 ∧ (sizesB w h s && marksB (mdL L D)) = false ∧ ∀ H', Same H H' → Q (.bl true) H'
section
variable {P : Program} {w : World} {K : PySem.W.Frag} {mg : Str → Option Value} {base : Heap}
abbrev nsLawRefused : List Str := ["shape", "e"]
theorem scLawRefused : FnScope nsLawRefused ["shape"] (defScope sLawRefused) := ⟨rfl, rfl, rfl, by decide +kernel, rfl, by decide +kernel, by decide +kernel⟩
theorem ok_law_refused (t : T K mg) (kd : KDct K w (He.ga K "MOST_NUMBERS") "item" (.int 3)) (px : PexC K mg "InvalidShape") : Ok P w K mg base 7 "_law_refused" ["shape"] spRefused := by
  refine mkOk t.d_law_refused t.g_law_refused scLawRefused (fun vs H Q E h => ?_) (fun _ _ _ _ _ _ us hl => match us, hl with | [_], _ => rfl) fun cdv A outer s H vs Q E hr h => ?_
  · obtain ⟨x, w, h, s, m, L, D, rfl, _⟩ := h; rfl
  obtain ⟨x, wd, ht, sz, m, L, D, rfl, hx, hM, hl, hd, bad, k⟩ := h
  refine ⟨_, pss_cons (ps_try_first (i := 1) (c := .ref (He.ga K "InvalidShape")) (tb := fun W => tDrop (tCallS (spMadeShape K) (WE W) (tCons (tVar 0) tNil))) (ts := fun a cls d => tRet (tCB (fun xs H Q => (cls = .ref (He.ga K "InvalidShape") ∧ d = none) ∧ rIsE K (He.ga K "InvalidShape") a xs H Q) (tCons (tVar 1) (tCons (tC (.ty "ValueError")) tNil))))
    rfl rfl scLawRefused.nd rfl rfl ⟨rfl, by decide, .inl px.glob⟩
    (fun W pn xe tk _ => pss_one (ps_expr (pe_okX (ok_law_made_shape t kd px) hr rfl tk (by exact (pa_cons (pv 0) pa_nil)))))
    (fun a oe cls d pn hz2 hf => pss_one (ps_ret (pe_callB (id := "isinstance") (call_isE2 px.exC hz2 hf) rfl t.f_isinstance (by decide +kernel) (pa_cons (pv 1) (pa_cons (pe_bltn (v := .ty "ValueError") rfl t.f_ValueError (by decide +kernel) rfl) pa_nil))))))
    (pss_one (ps_ret pe_bl)), ?_⟩
  refine ⟨_, rfl, x, wd, ht, sz, m, L, D, rfl, hx, hM, hl, hd, fun h => (by rw [bad] at h; cases h), fun _ H' s1 => ⟨px.exm, fun a ha => ?_⟩⟩
  exact ⟨_, rfl, ⟨rfl, rfl⟩, _, _, true, rfl, fun u r => ClsV.eq (.ty "ValueError") r, px.kit, k H' s1⟩
end
end Sx

set_option Elab.async false
set_option linter.all false
set_option maxRecDepth 100000
set_option maxHeartbeats 4000000
namespace Sx
open PySem PySem.Spec PyProof.Rows L2 SxA SxK
theorem op_catAK {X : Cx} {K : PySem.W.Frag} (h : X.K = K) : OpR X (binaryOp .Add) (rCatA K) := by
  subst h
  exact op_catA
def Ints (H : Hp) (g : Addr) : Prop := ∃ ns : List Int, H g = some (.lst (ns.map V.int))
theorem refs_ints {ds : List Addr} {ns : List Int} (h : ds.map V.ref = ns.map V.int) (n : ds ≠ []) : False := by
  cases ds with
  | nil => exact n rfl
  | cons d r => cases ns with
    | nil => cases h
    | cons m q => rw [List.map_cons, List.map_cons] at h; injection h with h1 _; cases h1
theorem ShAt.bt {K : PySem.W.Frag} {H H' : Hp} {x dx m dm dp g : Addr} {w h s : Int} {z : Nat → Addr} {dz : List Addr} {M : MD} (S : ShAt K H x dx w h s m dm z dp dz M) (hd : M.d ≠ []) (hg : Ints H g) (B : But g H H') : ShAt K H' x dx w h s m dm z dp dz M := by
  obtain ⟨ns, hg⟩ := hg
  have dn : dz ≠ [] := fun e => hd (by have := S.mks.del.1; rw [e] at this; exact List.length_eq_zero_iff.mp this.symm)
  refine ⟨B _ _ S.ins (ne_of S.ins hg (by intro z; cases z)), B _ _ S.mks.ins (ne_of S.mks.ins hg (by intro z; cases z)), B _ _ S.mks.dep fun e => ?_, ⟨S.mks.del.1, fun i q l a b => B _ _ (S.mks.del.2 i q l a b) (ne_of (S.mks.del.2 i q l a b) hg (by intro z; cases z))⟩, fun j hj => B _ _ (S.mks.el j hj) (ne_of (S.mks.el j hj) hg (by intro z; cases z))⟩
  have := S.mks.dep
  rw [e, hg] at this
  exact refs_ints (HO.lst.inj (Option.some.inj this)).symm dn
section
variable {P : Program} {w : World} {K : PySem.W.Frag} {mg : Str → Option Value} {base : Heap}
theorem eqd_ints {H : Hp} {p q : Addr} {l : List Int} (h : (H p = some (.lst (l.map V.int)) ∧ H q = some (.lst (l.map V.int))) ∨ (H p = some (.tup (l.map V.int)) ∧ H q = some (.tup (l.map V.int)))) (hl : l.length ≤ 100000) (n : Nat) : Eqd (n + 1) H (.ref p) (.ref q) := by
  refine .inr ⟨p, q, _, _, rfl, rfl, h, rfl, by rw [List.length_map]; exact hl, fun i u v e1 e2 => ?_⟩
  rw [e1] at e2
  obtain rfl := Option.some.inj e2
  rw [List.getElem?_map] at e1
  obtain ⟨c, hc, rfl⟩ := Option.map_eq_some_iff.mp e1
  cases n with
  | zero => exact ⟨rfl, rfl⟩
  | succ n => exact .inl ⟨rfl, rfl⟩
/-- tuple(row) for each row of a list of lists -/
theorem tuplesOf {R : Addr} {qs : List Addr} {L : List (List Int)} {te : TE} {i0 : Nat} {vs : List Nat} {σ : L2.St} {H1 : Hp} {D : Addr} {Qd : Hp → Prop} (hR : H1 R = some (.lst (qs.map V.ref))) (hL : LsAt H1 qs L) (hl : qs.length ≤ 100) (hD : H1 D = none)
    (hw : ∀ v : V, wipe ((wipe σ vs).set i0 (some v)) vs = wipe σ vs)
    (he : ∀ (q : Addr) (l : List Int) (H : Hp) (Q : VK), H q = some (.lst (l.map V.int)) → (∀ p H', Same H H' → H' p = some (.tup (l.map V.int)) → Q (.ref p) H') → te ((wipe σ vs).set i0 (some (.ref q))) H Q)
    (hd : ∀ H ps, Same H1 H → H D = some (.lst (ps.map V.ref)) → TupsAt H ps L → Qd H) :
    ∃ W : Nat → Nat → Hp → Prop, (∃ m, W 0 m (upd H1 D (.lst []))) ∧ ∀ i m H, W i m H → ((Itl K R).stop i H ∧ Qd H) ∨ ((Itl K R).go i H ∧ ∃ Nx : Hp → Prop, (∀ H', Nx H' → ∃ m', m' < m ∧ W (i + 1) m' H') ∧
      ∀ x H', (Itl K R).yld i H x H' → (gName i0) x (wipe σ vs) H' fun σ2 H2 => wipe σ2 vs = wipe σ vs ∧ tYes σ2 H2 fun b H3 => if b = true then te σ2 H3 fun y H4 => ∃ acc, H4 D = some (.lst acc) ∧ acc.length < sizeLine ∧ Nx (upd H4 D (.lst (acc ++ [y]))) else Nx H3) := by
  have big : 1000 ≤ sizeLine := by decide
  refine lc_list (K := K) (a := R) (xs := qs.map V.ref) (fun i H' => (∃ ps : List Addr, H' D = some (.lst (ps.map V.ref)) ∧ TupsAt H' ps (L.take i)) ∧ Same H1 H') ⟨⟨[], upd_same, rfl, fun i p l h => by simp at h⟩, Same.new hD⟩ (fun i H' _ p => SqL.of (p.2 _ _ hR)) ?_ ?_
  · rintro i v H' hv ⟨⟨ps, hz, hP⟩, s1⟩
    rw [List.getElem?_map] at hv
    obtain ⟨q, hq, rfl⟩ := Option.map_eq_some_iff.mp hv
    have il := (List.getElem?_eq_some_iff.mp hq).1
    have hli : L[i]? = some (L[i]'(by rw [← hL.1]; exact il)) := List.getElem?_eq_getElem _
    generalize L[i]'(by rw [← hL.1]; exact il) = li at hli
    refine ⟨hw _, he q li H' _ (s1 _ _ (hL.2 i q li hq hli)) fun p H5 s5 h5 => ?_⟩
    have pl := hP.1
    rw [List.length_take] at pl
    refine ⟨_, s5 _ _ hz, by rw [List.length_map]; omega, ⟨ps ++ [p], by rw [upd_same, List.map_append]; rfl, ?_⟩, fun c o e => by rw [upd_ne (ne_of_none e hD)]; exact s5 _ _ (s1 _ _ e)⟩
    have nt : ∀ {c : Addr} {ys : List V}, H5 c = some (.tup ys) → upd H5 D (.lst (ps.map V.ref ++ [V.ref p])) c = some (.tup ys) := fun {c ys} e => by rw [upd_ne (ne_of e (s5 _ _ hz) (by intro z; cases z))]; exact e
    rw [List.take_add_one, hli]
    refine ⟨by rw [List.length_append, List.length_append, hP.1]; rfl, fun j p' l e1 e2 => ?_⟩
    by_cases c : j < ps.length
    · rw [List.getElem?_append_left c] at e1
      rw [List.getElem?_append_left (by rw [← hP.1]; exact c)] at e2
      exact nt (s5 _ _ (hP.2 j p' l e1 e2))
    · rw [List.getElem?_append_right (by omega)] at e1
      rw [List.getElem?_append_right (by rw [← hP.1]; omega), ← hP.1] at e2
      have z : j - ps.length = 0 := by
        have := (List.getElem?_eq_some_iff.mp e1).1
        rw [List.length_singleton] at this
        omega
      rw [z] at e1 e2
      cases e1
      cases e2
      exact nt h5
  · rintro H' ⟨⟨ps, hz, hP⟩, s1⟩
    rw [List.length_map, hL.1, List.take_length] at hP
    exact hd H' ps s1 hz hP
theorem LsAt.app {H : Hp} {qs rs : List Addr} {L M : List (List Int)} (h : LsAt H qs L) (k : LsAt H rs M) : LsAt H (qs ++ rs) (L ++ M) := by
  refine ⟨by rw [List.length_append, List.length_append, h.1, k.1], fun i p m e1 e2 => ?_⟩
  by_cases c : i < qs.length
  · rw [List.getElem?_append_left c] at e1
    rw [List.getElem?_append_left (by rw [← h.1]; exact c)] at e2
    exact h.2 i p m e1 e2
  · rw [List.getElem?_append_right (by omega)] at e1
    rw [List.getElem?_append_right (by rw [← h.1]; omega), ← h.1] at e2
    exact k.2 _ p m e1 e2
theorem bm_len {f : Int} {o : Option (Nat → Int)} {b : KB} (hb : b.ok) : (bmF (mdL (rowsL f o) (depL f)) b).length ≤ 100000 := by
  have r : ∀ k, k < 7 → ((rowsL f o).getD k []).length ≤ 2 := fun k hk => by
    rw [List.getD_eq_getElem?_getD, rowsL_at hk]
    cases o <;> simp [rowK]
  cases b with
  | head => exact Nat.le_trans (r 0 (by decide)) (by decide)
  | par => exact Nat.le_trans (r 1 (by decide)) (by decide)
  | item => show 2 ≤ 100000; decide
  | note n =>
    obtain ⟨n1, n2⟩ := hb
    have h1 := r 2 (by decide)
    have h2 := figF_len (n := n) (by omega) (by omega)
    show ((((rowsL f o).getD 2 []) ++ figF n) ++ [0]).length ≤ 100000
    rw [List.length_append, List.length_append]
    show _ + _ + 1 ≤ 100000
    omega
  | brk => exact Nat.le_trans (r 3 (by decide)) (by decide)
def KbsAt (H : Hp) (bs : List V) (ks : List KB) : Prop := bs.length = ks.length ∧ ∀ (i : Nat) v b, bs[i]? = some v → ks[i]? = some b → ∃ B, v = .ref B ∧ H B = some (.tup b.v)
def spLaw (K : PySem.W.Frag) : Sp := fun vs H Q _ => ∃ (a : Addr) (ns : List Int), vs = [.ref a] ∧ SqL K H a (ns.map V.int) ∧ ns.length ≤ 63 ∧ ∀ H', Q (.bl true) H'
abbrev nsLaw : List Str := ["script", "draws", "shape", "marks", "row", "made", "rows", "told", "turn", "number", "label", "k", "block"]
theorem scLaw : FnScope nsLaw ["script"] (defScope sLaw) := ⟨rfl, rfl, rfl, by decide +kernel, rfl, by decide +kernel, by decide +kernel⟩
theorem mkFnX {x : Str} {st : Stmt} {N ps : List Str} {k : Nat} {sp : Sp} {fd : FuncData} (F : FunD K x x (defArgs st) (defBody st) (defScope st) [] [] (He.ga K x) fd) (S : FnScope N ps (defScope st)) (len : ∀ vs H Q E, sp vs H Q E → vs.length = ps.length)
    (body : ∀ (cdv : Value) (A : Around) (outer : List Env) (s : Shared) (H0 : Hp) (vs : List V) (Q : VK) (E : XK), Room k (A.deeper (envOfC x (defScope st) s.heap.objs.size (He.ga K x) cdv)) → sp vs H0 Q E →
      ∃ t, PSs (cxOf (L2.CX P w) P w K mg base N x (defScope st) (He.ga K x) cdv A outer s H0 E) (defBody st) t ∧ t { nx := fun _ H' => Q .non H', rt := Q } (start N vs) H0) : FnOk P w K mg base (L2.CX P w) (k + 1) (He.ga K x) fd ps sp :=
  F.ok S len body
theorem ok_law (t : T K mg) (kd : KDct K w (He.ga K "MOST_NUMBERS") "item" (.int 3)) (px : PexC K mg "InvalidShape") {fd : FuncData} (F : FunD K "law" "law" (defArgs sLaw) (defBody sLaw) (defScope sLaw) [] [] (He.ga K "law") fd) : FnOk P w K mg base (L2.CX P w) 8 (He.ga K "law") fd ["script"] (spLaw K) := by
  refine mkFnX F scLaw (fun vs H Q E h => ?_) fun cdv A outer s H vs Q E hr h => ?_
  · obtain ⟨a, ns, rfl, _⟩ := h; rfl
  obtain ⟨sc, ns, rfl, hS, hlen, k⟩ := h
  have hr1 : Room 1 _ := hr.mono (by decide)
  have hr2 : Room 2 _ := hr.mono (by decide)
  have hr3 : Room 3 _ := hr.mono (by decide)
  have hr4 : Room 4 _ := hr.mono (by decide)
  have hr5 : Room 5 _ := hr.mono (by decide)
  have hr7 : Room 7 _ := hr.mono (by decide)
  refine ⟨_, pss_cons (ps_set (i := 1) scLaw.nd rfl (Or.inr rfl) (pe_ok (ok_law_draws t) hr1 rfl (pa_cons (pv 0) pa_nil)))
    (pss_cons (ps_set (i := 2) scLaw.nd rfl (Or.inl rfl) (pe_ok (ok_law_shape t) hr3 rfl (pa_cons (pv 1) pa_nil)))
    (pss_cons (ps_set (i := 3) scLaw.nd rfl (Or.inl rfl) (pe_lst (pa_cons (pe_lc (own := [("row", 4)]) (g := gName 4) (tt := tYes) rfl scLaw.nd (pi_list (pe_ix (ix_listK (K := K) rfl) (pe_ix (ix_listK (K := K) rfl) (pv 2) pe_int (fun _ _ => rfl)) pe_int (fun _ _ => rfl))) (blkOk_by (own := [("row", 4)]) (N := nsLaw) (sc := defScope sLaw) (by decide +kernel)) (fun _ _ _ _ _ => pg_name (i := 4) scLaw.nd rfl (Or.inl rfl)) (fun _ _ _ _ _ => pts_nil) (fun _ _ _ _ _ => (pe_callTy (call_listK (K := K) rfl) rfl t.f_list (by decide +kernel) (pa_cons (pv 4) pa_nil)))) (pa_cons (pe_lc (own := [("row", 4)]) (g := gName 4) (tt := tYes) rfl scLaw.nd (pi_list (pe_ix (ix_listK (K := K) rfl) (pe_ix (ix_listK (K := K) rfl) (pv 2) pe_int (fun _ _ => rfl)) pe_int (fun _ _ => rfl))) (blkOk_by (own := [("row", 4)]) (N := nsLaw) (sc := defScope sLaw) (by decide +kernel)) (fun _ _ _ _ _ => pg_name (i := 4) scLaw.nd rfl (Or.inl rfl)) (fun _ _ _ _ _ => pts_nil) (fun _ _ _ _ _ => (pe_callTy (call_listK (K := K) rfl) rfl t.f_list (by decide +kernel) (pa_cons (pv 4) pa_nil)))) pa_nil))))
    (pss_cons (ps_set (i := 5) scLaw.nd rfl (Or.inl rfl) (pe_mkX (met_Shape_init t kd px) passX t.m_Shape t.g_Shape hr5 rfl (pa_cons (pe_ix (ix_listK (K := K) rfl) (pv 2) pe_int (fun _ _ => rfl)) (pa_cons (pe_ix (ix_listK (K := K) rfl) (pv 2) pe_int (fun _ _ => rfl)) (pa_cons (pe_ix (ix_listK (K := K) rfl) (pv 2) pe_int (fun _ _ => rfl)) (pa_cons (pe_ok (ok_law_made_marks t) hr3 rfl (pa_cons (pv 3) pa_nil)) pa_nil))))))
    (pss_cons (ps_set (i := 6) scLaw.nd rfl (Or.inl rfl) (pe_ix (ix_listK (K := K) rfl) (pv 3) pe_int (fun _ _ => rfl)))
    (pss_cons (ps_expr (pe_bm PySem.F.plainAttrs_list PySem.F.slot_list_append PySem.F.type_list_append mt_append (pe_ix (ix_listK (K := K) rfl) (pv 6) pe_int (fun _ _ => rfl)) (pa_cons pe_int pa_nil)))
    (pss_cons (ps_set (i := 7) scLaw.nd rfl (Or.inl rfl) (pe_lst (pa_cons (pe_fld (pe_fld (pv 5) rfl) rfl) (pa_cons (pe_fld (pe_fld (pv 5) rfl) rfl) (pa_cons (pe_fld (pe_fld (pv 5) rfl) rfl) (pa_cons (pe_fld (pe_fld (pv 5) rfl) rfl) (pa_cons (pe_fld (pe_fld (pv 5) rfl) rfl) (pa_cons (pe_fld (pe_fld (pv 5) rfl) rfl) (pa_cons (pe_fld (pe_fld (pv 5) rfl) rfl) pa_nil)))))))))
    (pss_cons (ps_if (pt_not (pt_val (pe_ok (ok_same t 3) hr4 rfl (pa_cons (pe_op op_cat (pv 7) (pe_fld (pe_fld (pv 5) rfl) rfl)) (pa_cons (pe_lc (own := [("row", 4)]) (g := gName 4) (tt := tYes) rfl scLaw.nd (pi_list (pe_op op_cat (pe_ix (ix_listK (K := K) rfl) (pe_ix (ix_listK (K := K) rfl) (pv 2) pe_int (fun _ _ => rfl)) pe_int (fun _ _ => rfl)) (pe_ix (ix_listK (K := K) rfl) (pe_ix (ix_listK (K := K) rfl) (pv 2) pe_int (fun _ _ => rfl)) pe_int (fun _ _ => rfl)))) (blkOk_by (own := [("row", 4)]) (N := nsLaw) (sc := defScope sLaw) (by decide +kernel)) (fun _ _ _ _ _ => pg_name (i := 4) scLaw.nd rfl (Or.inl rfl)) (fun _ _ _ _ _ => pts_nil) (fun _ _ _ _ _ => (pe_callTy (call_tupK (K := K) rfl) rfl t.f_tuple (by decide +kernel) (pa_cons (pv 4) pa_nil)))) pa_nil)))))
      (pss_one (ps_ret pe_bl))
      pss_nil)
    (pss_cons (ps_if (pt_not (pt_val (pe_ok (ok_same t 3) hr4 rfl (pa_cons (pe_lst (pa_cons (pe_fld (pv 5) rfl) (pa_cons (pe_fld (pv 5) rfl) (pa_cons (pe_fld (pv 5) rfl) pa_nil)))) (pa_cons (pe_slice sl_list (pv 2) po_none (po_some pe_int)) pa_nil)))))
      (pss_one (ps_ret pe_bl))
      pss_nil)
    (pss_cons (ps_for (passes_of rfl) rfl (pi_range1 rfl t.f_range (pa_cons pe_int pa_nil)) (pg_name (i := 8) scLaw.nd rfl (Or.inl rfl))
      (pss_one (ps_if (pt_not (pt_val (pe_ok (ok_law_refused t kd px) hr7 rfl (pa_cons (pe_ok (ok_law_spoilt t) hr2 rfl (pa_cons (pv 1) (pa_cons (pv 2) pa_nil))) pa_nil))))
      (pss_one (ps_ret pe_bl))
      pss_nil)))
    (pss_cons (ps_set (i := 9) scLaw.nd rfl (Or.inl rfl) (pe_ix (ix_listK (K := K) rfl) (pe_lst (pa_cons (pe_ok (ok_law_take t) hr1 rfl (pa_cons (pv 1) (pa_cons pe_int pa_nil))) (pa_cons (pe_ok (ok_law_take t) hr1 rfl (pa_cons (pv 1) (pa_cons pe_int pa_nil))) pa_nil))) (pe_ok (ok_law_take t) hr1 rfl (pa_cons (pv 1) (pa_cons pe_int pa_nil))) (fun _ _ => rfl)))
    (pss_cons (ps_set (i := 10) scLaw.nd rfl (Or.inl rfl) (pe_op (op_catAK (K := K) rfl) (pe_callTy (call_tupK (K := K) rfl) rfl t.f_tuple (by decide +kernel) (pa_cons (pe_lc (own := [("k", 11)]) (g := gName 11) (tt := tYes) rfl scLaw.nd (pi_range1 rfl t.f_range (pa_cons (pe_ok (ok_law_take t) hr1 rfl (pa_cons (pv 1) (pa_cons pe_int pa_nil))) pa_nil)) (blkOk_by (own := [("k", 11)]) (N := nsLaw) (sc := defScope sLaw) (by decide +kernel)) (fun _ _ _ _ _ => pg_name (i := 11) scLaw.nd rfl (Or.inl rfl)) (fun _ _ _ _ _ => pts_nil) (fun _ _ _ _ _ => (pe_ok (ok_law_take t) hr1 rfl (pa_cons (pv 1) (pa_cons pe_int pa_nil))))) pa_nil)) (pe_tup (pa_cons (pe_callB (call_max2 rfl) rfl t.f_max boot_max (pa_cons pe_int (pa_cons (pv 9) pa_nil))) pa_nil))))
    (pss_cons (ps_if (pt_not (pt_val (pe_ok (ok_same t 3) hr4 rfl (pa_cons (pe_ok (ok_figures t) hr2 rfl (pa_cons (pv 9) pa_nil)) (pa_cons (pe_ok (ok_law_figures t) hr1 rfl (pa_cons (pv 9) pa_nil)) pa_nil)))))
      (pss_one (ps_ret pe_bl))
      pss_nil)
    (pss_cons (ps_if (pt_not (pt_val (pe_ok (ok_same t 3) hr4 rfl (pa_cons (pe_op (op_catAK (K := K) rfl) (pe_callTy (call_tupK (K := K) rfl) rfl t.f_tuple (by decide +kernel) (pa_cons (pe_ix (ix_listK (K := K) rfl) (pe_ix (ix_listK (K := K) rfl) (pe_ix (ix_listK (K := K) rfl) (pv 2) pe_int (fun _ _ => rfl)) pe_int (fun _ _ => rfl)) pe_int (fun _ _ => rfl)) pa_nil)) (pe_callTy (call_tupK (K := K) rfl) rfl t.f_tuple (by decide +kernel) (pa_cons (pe_ok (ok_label_row t) hr3 rfl (pa_cons (pv 10) pa_nil)) pa_nil))) (pa_cons (pe_ok (ok_law_number_line t) hr2 rfl (pa_cons (pv 2) (pa_cons (pv 10) pa_nil))) pa_nil)))))
      (pss_one (ps_ret pe_bl))
      pss_nil)
    (pss_cons (ps_for (passes_of rfl) rfl (pi_list (pe_lst (pa_cons (pe_tup (pa_cons pe_str (pa_cons pe_str pa_nil))) (pa_cons (pe_tup (pa_cons pe_str (pa_cons pe_str pa_nil))) (pa_cons (pe_tup (pa_cons pe_str (pa_cons pe_int (pa_cons pe_str pa_nil)))) (pa_cons (pe_tup (pa_cons pe_str (pa_cons (pe_op op_add pe_int (pe_ok (ok_law_take t) hr1 rfl (pa_cons (pv 1) (pa_cons pe_int pa_nil)))) (pa_cons pe_str pa_nil)))) (pa_cons (pe_tup (pa_cons pe_str pa_nil)) pa_nil))))))) (pg_name (i := 12) scLaw.nd rfl (Or.inl rfl))
      (pss_one (ps_if (pt_not (pt_val (pe_ok (ok_same t 3) hr4 rfl (pa_cons (pe_ok (ok_block_mark t) hr3 rfl (pa_cons (pv 5) (pa_cons (pv 12) pa_nil))) (pa_cons (pe_callTy (call_tupK (K := K) rfl) rfl t.f_tuple (by decide +kernel) (pa_cons (pe_ok (ok_law_begin t) hr2 rfl (pa_cons (pv 2) (pa_cons (pv 12) pa_nil))) pa_nil)) pa_nil)))))
      (pss_one (ps_ret pe_bl))
      pss_nil)))
    (pss_one (ps_ret pe_bl)))))))))))))))), ?_⟩
  refine ⟨_, rfl, sc, ns, rfl, hS, hlen, fun a H1 ha0 s1 D1 => ?_⟩
  show gName 1 (V.ref a) _ _ _
  refine ⟨_, rfl, a, rfl, D1, fun x wd ht sz m f o H2 hsz f1 f2 oo hx hM D2 B2 => ?_⟩
  have rl := rowsL_len f o
  have dl := depL_len f
  have big : 1000 ≤ sizeLine := by decide
  obtain ⟨nxa, hx2⟩ := off_some hx
  obtain ⟨Rl, Dl, ps, ds, hm, hRl, hDl, hP, hDs⟩ := hM.ex
  have o2 : Same (off a H2) H2 := off_le
  have gm := good_marks f1 f2 oo
  refine ⟨_, rfl, x, _, _, .ref m, rfl, rfl, SqL.of hx2, atI_nat (j := 3) rfl, m, _, _, .ref Rl, rfl, rfl, SqL.of (o2 _ _ hm), atI_nat (j := 0) rfl, Rl, rfl, ⟨_, SqL.of (o2 _ _ hRl)⟩, fun R' hR' => ?_⟩
  refine copies (K := K) (o2 _ _ hRl) (hP.same o2) (by rw [hP.1, rl]; decide) hR' (fun _ => rfl) (fun q l Hx Qx hq kq => ⟨_, rfl, q, _, rfl, .inl (SqL.of hq), kq⟩) fun H3 qs s3 hQ hQL hqn => ?_
  have o3 := o2.trans s3
  refine ⟨_, rfl, x, _, _, .ref m, rfl, rfl, SqL.of (s3 _ _ hx2), atI_nat (j := 3) rfl, m, _, _, .ref Dl, rfl, rfl, SqL.of (o3 _ _ hm), atI_nat (j := 1) rfl, Dl, rfl, ⟨_, SqL.of (o3 _ _ hDl)⟩, fun D' hD' => ?_⟩
  refine copies (K := K) (o3 _ _ hDl) (hDs.same o3) (by rw [hDs.1, dl]; decide) hD' (fun _ => rfl) (fun q l Hx Qx hq kq => ⟨_, rfl, q, _, rfl, .inl (SqL.of hq), kq⟩) fun H4 es s4 hE hEL hen => ?_
  refine ⟨(by show 2 ≤ sizeLine; decide), fun M hM0 => ?_⟩
  have s24 := s3.trans s4
  have sM : Same H4 (upd H4 M (.lst [.ref R', .ref D'])) := Same.new hM0
  have hM' := upd_at hM0 (.lst [V.ref R', V.ref D'])
  generalize upd H4 M (.lst [V.ref R', V.ref D']) = H5 at sM hM' ⊢
  have s25 := s24.trans sM
  have hx5 := s25 _ _ hx2
  have LM5 : LMk H5 M (rowsL f o) (depL f) := ⟨R', D', qs, es, hM', sM _ _ (s4 _ _ hQ), sM _ _ hE, hQL.same (s4.trans sM), hEL.same sM⟩
  -- made
  refine ⟨_, rfl, x, _, _, .int wd, rfl, rfl, SqL.of hx5, atI_nat (j := 0) rfl, _, rfl, x, _, _, .int ht, rfl, rfl, SqL.of hx5, atI_nat (j := 1) rfl, _, rfl, x, _, _, .int sz, rfl, rfl, SqL.of hx5, atI_nat (j := 2) rfl, _, rfl, ?_⟩
  refine ⟨M, _, _, rfl, LM5, rl, by rw [dl]; decide, fun y dy z dp dz H6 s6 ny hK => fun q dq hq hdq neq => ?_⟩
  have s7 : Same H6 (upd (upd H6 dq (.own q)) q (.ins (He.ga K "Shape") dq [])) := Same.put (Same.new hdq) hq
  refine ⟨q, dq, wd, ht, sz, y, dy, z, dp, dz, _, rfl, upd_same, hK.same s7, by rw [hK.del.1]; show 3 ≤ 100; decide, fun ok m' dm' z' dp' dz' H8 S8 B8 _ => ⟨rfl, ?_⟩, fun no => (by rw [hsz, gm] at no; cases no)⟩
  have s58 : Same H5 H8 := fun c o e => B8 _ _ (s7 _ _ (s6 _ _ e)) (ne_of_none (s6 _ _ e) hq)
  have hM8 := s58 _ _ hM'
  have hR8 := s58 _ _ (sM _ _ (s4 _ _ hQ))
  have ql : qs.length = 7 := by rw [hQL.1]; exact rl
  have hq0 : qs[0]? = some (qs[0]'(by omega)) := List.getElem?_eq_getElem _
  generalize qs[0]'(by omega) = q0 at hq0
  have h0 := s58 _ _ (sM _ _ (s4 _ _ (hQL.2 0 q0 _ hq0 (rowsL_at (f := f) (o := o) (by decide)))))
  have q0n : H2 q0 = none := (hqn q0 (List.mem_of_getElem? hq0)).1
  have r0l : (rowK f o 0).length ≤ 2 := by cases o <;> simp [rowK]
  refine ⟨_, rfl, M, _, _, .ref R', rfl, rfl, SqL.of hM8, atI_nat (j := 0) rfl, ?_⟩
  refine ⟨_, rfl, R', _, _, .ref q0, rfl, rfl, SqL.of hR8, atI_nat (j := 0) (by rw [List.getElem?_map, hq0]; rfl), .inl ⟨rfl, _, SqL.of h0⟩, q0, _, _, rfl, rfl, h0, by rw [List.length_map]; omega, ?_⟩
  have B9 : But q0 H8 (upd H8 q0 (.lst ((rowK f o 0).map V.int ++ [V.int 5]))) := fun c o e n => by rw [upd_ne n]; exact e
  have S9 := S8.bt (List.cons_ne_nil _ _) ⟨_, h0⟩ B9
  have s29 : Same H2 (upd H8 q0 (.lst ((rowK f o 0).map V.int ++ [V.int 5]))) := fun c o e => B9 _ _ (s58 _ _ (s25 _ _ e)) (ne_of_none e q0n)
  generalize upd H8 q0 (.lst ((rowK f o 0).map V.int ++ [V.int 5])) = H9 at B9 S9 s29 ⊢
  -- told
  refine ⟨_, rfl, q, _, dq, _, _, rfl, S9.ins, t.c_Shape, t.n_Shape_marks, sk3 _ _ _ _, m', _, dm', _, _, rfl, S9.mks.ins, t.c_Marks, t.n_Marks_head, lk0 _ _, ?_⟩
  refine ⟨_, rfl, q, _, dq, _, _, rfl, S9.ins, t.c_Shape, t.n_Shape_marks, sk3 _ _ _ _, m', _, dm', _, _, rfl, S9.mks.ins, t.c_Marks, t.n_Marks_par, lk1 _ _, ?_⟩
  refine ⟨_, rfl, q, _, dq, _, _, rfl, S9.ins, t.c_Shape, t.n_Shape_marks, sk3 _ _ _ _, m', _, dm', _, _, rfl, S9.mks.ins, t.c_Marks, t.n_Marks_note, lk2 _ _, ?_⟩
  refine ⟨_, rfl, q, _, dq, _, _, rfl, S9.ins, t.c_Shape, t.n_Shape_marks, sk3 _ _ _ _, m', _, dm', _, _, rfl, S9.mks.ins, t.c_Marks, t.n_Marks_stop, lk3 _ _, ?_⟩
  refine ⟨_, rfl, q, _, dq, _, _, rfl, S9.ins, t.c_Shape, t.n_Shape_marks, sk3 _ _ _ _, m', _, dm', _, _, rfl, S9.mks.ins, t.c_Marks, t.n_Marks_on, lk4 _ _, ?_⟩
  refine ⟨_, rfl, q, _, dq, _, _, rfl, S9.ins, t.c_Shape, t.n_Shape_marks, sk3 _ _ _ _, m', _, dm', _, _, rfl, S9.mks.ins, t.c_Marks, t.n_Marks_joined, lk5 _ _, ?_⟩
  refine ⟨_, rfl, q, _, dq, _, _, rfl, S9.ins, t.c_Shape, t.n_Shape_marks, sk3 _ _ _ _, m', _, dm', _, _, rfl, S9.mks.ins, t.c_Marks, t.n_Marks_number, lk6 _ _, (by show 7 ≤ sizeLine; decide), fun TL hTL => ?_⟩
  have sT : Same H9 (upd H9 TL (.lst [V.ref (z' 0), V.ref (z' 1), V.ref (z' 2), V.ref (z' 3), V.ref (z' 4), V.ref (z' 5), V.ref (z' 6)])) := Same.new hTL
  have hT := upd_at hTL (.lst [V.ref (z' 0), V.ref (z' 1), V.ref (z' 2), V.ref (z' 3), V.ref (z' 4), V.ref (z' 5), V.ref (z' 6)])
  generalize upd H9 TL (.lst [V.ref (z' 0), V.ref (z' 1), V.ref (z' 2), V.ref (z' 3), V.ref (z' 4), V.ref (z' 5), V.ref (z' 6)]) = H10 at sT hT ⊢
  have S10 := S9.same sT
  have s210 := s29.trans sT
  have dzl : dz'.length = 3 := S10.mks.del.1
  refine ⟨_, rfl, _, rfl, q, _, dq, _, _, rfl, S10.ins, t.c_Shape, t.n_Shape_marks, sk3 _ _ _ _, m', _, dm', _, _, rfl, S10.mks.ins, t.c_Marks, t.n_Marks_depths, lkd _ _, TL, dp', _, _, rfl, rfl, hT, S10.mks.dep, by rw [List.length_map, dzl]; show 7 + 3 ≤ sizeLine; decide, fun A1 hA1 => ?_⟩
  have sA : Same H10 (upd H10 A1 (.lst ((zrow z' dz').map V.ref))) := Same.new hA1
  have hA := upd_at hA1 (.lst ((zrow z' dz').map V.ref))
  rw [show upd H10 A1 (.lst ([V.ref (z' 0), V.ref (z' 1), V.ref (z' 2), V.ref (z' 3), V.ref (z' 4), V.ref (z' 5), V.ref (z' 6)] ++ dz'.map V.ref)) = upd H10 A1 (.lst ((zrow z' dz').map V.ref)) by unfold zrow; rw [List.map_append]; rfl]
  generalize upd H10 A1 (.lst ((zrow z' dz').map V.ref)) = H11 at sA hA ⊢
  have S11 := S10.same sA
  have s211 := s210.trans sA
  have o11 := o2.trans s211
  refine ⟨_, rfl, x, _, _, .ref m, rfl, rfl, SqL.of (s211 _ _ hx2), atI_nat (j := 3) rfl, m, _, _, .ref Rl, rfl, rfl, SqL.of (o11 _ _ hm), atI_nat (j := 0) rfl, ?_⟩
  refine ⟨_, rfl, x, _, _, .ref m, rfl, rfl, SqL.of (s211 _ _ hx2), atI_nat (j := 3) rfl, m, _, _, .ref Dl, rfl, rfl, SqL.of (o11 _ _ hm), atI_nat (j := 1) rfl, ?_⟩
  have psl : ps.length = 7 := by rw [hP.1]; exact rl
  have dsl : ds.length = 3 := by rw [hDs.1]; exact dl
  refine ⟨Rl, Dl, _, _, rfl, rfl, o11 _ _ hRl, o11 _ _ hDl, by rw [List.length_map, List.length_map, psl, dsl]; decide, fun C hC => ?_⟩
  have sC : Same H11 (upd H11 C (.lst ((ps ++ ds).map V.ref))) := Same.new hC
  have hC' := upd_at hC (.lst ((ps ++ ds).map V.ref))
  rw [show upd H11 C (.lst (ps.map V.ref ++ ds.map V.ref)) = upd H11 C (.lst ((ps ++ ds).map V.ref)) by rw [List.map_append]]
  generalize upd H11 C (.lst ((ps ++ ds).map V.ref)) = H12 at sC hC' ⊢
  refine ⟨C, rfl, ⟨_, SqL.of hC'⟩, fun D9 hD9 => ?_⟩
  have LA : LsAt H12 (ps ++ ds) (rowsL f o ++ depL f) := (hP.same (o11.trans sC)).app (hDs.same (o11.trans sC))
  refine tuplesOf (K := K) hC' LA (by rw [List.length_append, psl, dsl]; decide) hD9 (fun _ => rfl) (fun q l Hx Qx hq kq => ⟨_, rfl, tupOf (.inl hq) kq⟩) fun H13 ts s13 hD3 hTs => ?_
  have S13 := S11.same (sC.trans s13)
  have hA13 := s13 _ _ (sC _ _ hA)
  have s213 := s211.trans (sC.trans s13)
  have M13 := S13.mks.tups
  rw [rows_mdL rl] at M13
  have rowlen : ∀ l ∈ rowsL f o ++ depL f, l.length ≤ 2 := fun l hl => by
    obtain ⟨i, hi⟩ := List.getElem?_of_mem hl
    rcases row_at hi with ⟨_, rfl⟩ | ⟨_, _, rfl⟩
    · cases o <;> simp [rowK]
    · exact Nat.le_refl _
  refine ⟨_, _, rfl, .inr ⟨A1, D9, _, _, rfl, rfl, .inl ⟨hA13, hD3⟩, by rw [List.length_map, List.length_map, M13.1, hTs.1], by rw [List.length_map, M13.1, List.length_append, rl, dl]; decide, fun i u v e1 e2 => ?_⟩, ?_⟩
  · rw [List.getElem?_map] at e1 e2
    obtain ⟨p1, g1, rfl⟩ := Option.map_eq_some_iff.mp e1
    obtain ⟨p2, g2, rfl⟩ := Option.map_eq_some_iff.mp e2
    have il := (List.getElem?_eq_some_iff.mp g2).1
    have hl := List.getElem?_eq_getElem (l := rowsL f o ++ depL f) (i := i) (by rw [← hTs.1]; exact il)
    exact eqd_ints (.inr ⟨M13.2 i p1 _ g1 hl, hTs.2 i p2 _ g2 hl⟩) (by have := rowlen _ (List.mem_of_getElem? hl); omega) 0
  refine ⟨_, rfl, iteF ?_⟩
  -- sizes
  refine ⟨_, rfl, q, _, dq, _, _, rfl, S13.ins, t.c_Shape, t.n_Shape_width, sk0 _ _ _ _, _, rfl, q, _, dq, _, _, rfl, S13.ins, t.c_Shape, t.n_Shape_height, sk1 _ _ _ _, _, rfl, q, _, dq, _, _, rfl, S13.ins, t.c_Shape, t.n_Shape_size, sk2 _ _ _ _, (by show 3 ≤ sizeLine; decide), fun W hW => ?_⟩
  have sW : Same H13 (upd H13 W (.lst [V.int wd, V.int ht, V.int sz])) := Same.new hW
  have hW' := upd_at hW (.lst [V.int wd, V.int ht, V.int sz])
  generalize upd H13 W (.lst [V.int wd, V.int ht, V.int sz]) = H14 at sW hW' ⊢
  have s214 := s213.trans sW
  refine ⟨_, rfl, 3, rfl, x, _, rfl, SqL.of (s214 _ _ hx2), fun V3 hV3 => ⟨_, _, rfl, eqd_ints (l := [wd, ht, sz]) (.inl ⟨Same.new hV3 _ _ hW', upd_same⟩) (by show 3 ≤ 100000; decide) 1, ⟨_, rfl, iteF ?_⟩⟩⟩
  have sV : Same H14 (upd H14 V3 (.lst (cutV [V.int wd, V.int ht, V.int sz, V.ref m] none (some 3)))) := Same.new hV3
  have s215 := s214.trans sV
  have S15 := (S13.same sW).same sV
  generalize upd H14 V3 (.lst (cutV [V.int wd, V.int ht, V.int sz, V.ref m] none (some 3))) = H15 at sV s215 S15 ⊢
  have D15 := D2.same s215
  have B215 : But a H2 H15 := But.of s215
  -- three spoilt shapes
  refine ⟨3, rfl, by decide, by decide, ?_⟩
  refine for_range (lo := 0) (n := ((3 : Int)).toNat) (fun i σ' H' => (∃ o8 : Option V, σ' = [some (.ref sc), some (.ref a), some (.ref x), some (.ref M), none, some (.ref q), some (.ref R'), some (.ref TL), o8, none, none, none, none]) ∧ Dr H' a ∧ But a H15 H') ⟨⟨_, rfl⟩, D15, But.refl _ _⟩ ?_ ?_
  · rintro i σ' H' hi ⟨⟨o8, rfl⟩, D', B'⟩
    have BB := B215.trans B'
    refine ⟨_, rfl, _, rfl, a, x, wd, ht, sz, m, f, o, rfl, D', off_but BB _ _ hx, hM.same (off_but BB), f1, f2, oo, hsz, fun x' w' h' s' m'' L' D'' H'' bad l7 l3 hx' hM'' D3 B3 => ?_⟩
    exact ⟨x', w', h', s', m'', L', D'', rfl, off_le _ _ hx', hM''.same off_le, l7, by omega, bad, fun H3 s3 => ⟨_, rfl, iteF ⟨⟨_, rfl⟩, D3.same s3, (B'.trans B3).trans (But.of s3)⟩⟩⟩
  rintro σ' H16 ⟨⟨o8, rfl⟩, D16, B16⟩
  have B216 := B215.trans B16
  have S16 := S15.bt (List.cons_ne_nil _ _) D15 B16
  -- a number
  refine ⟨_, rfl, a, 10, rfl, D16, by decide, fun n1 G1 p0 p1 E1 C1 => ?_⟩
  refine ⟨_, rfl, a, 1000, rfl, E1, by decide, fun n2 G2 p2 p3 E2 C2 => ⟨(by show 2 ≤ sizeLine; decide), fun N hN => ?_⟩⟩
  have nNa : N ≠ a := (E2.ne hN).symm
  have sN : Same G2 (upd G2 N (.lst [V.int n1, V.int n2])) := Same.new hN
  have hN' := upd_at hN (.lst [V.int n1, V.int n2])
  generalize upd G2 N (.lst [V.int n1, V.int n2]) = G3 at sN hN' ⊢
  refine ⟨_, rfl, a, 2, rfl, E2.same sN, by decide, fun u G4 u0 u1 E4 C4 => ?_⟩
  obtain ⟨number, hnum, num0, num1⟩ : ∃ n : Int, atI [V.int n1, .int n2] u = some (.int n) ∧ 0 ≤ n ∧ n < 1000 := by
    have : u = 0 ∨ u = 1 := by omega
    rcases this with rfl | rfl
    · exact ⟨n1, rfl, p0, by omega⟩
    · exact ⟨n2, rfl, p2, p3⟩
  refine ⟨N, _, _, .int number, rfl, rfl, SqL.of (C4 _ _ hN' nNa), hnum, ?_⟩
  have C16 := ((C1.trans C2).trans (But.of sN)).trans C4
  -- a label
  refine ⟨_, rfl, a, 3, rfl, E4, by decide, fun cnt G5 t0 t1 E5 C5 => ⟨_, rfl, by omega, by omega, fun KL hKL => ?_⟩⟩
  have nKa : a ≠ KL := E5.ne hKL
  refine lc_range (lo := 0) (n := cnt.toNat) (fun i H' => (∃ ks : List Int, H' KL = some (.lst (ks.map V.int)) ∧ ks.length = i ∧ ∀ c ∈ ks, 0 ≤ c ∧ c < 1000) ∧ Dr H' a ∧ But a G5 H') ⟨⟨[], upd_same, rfl, fun c h => (by cases h)⟩, E5.new hKL, But.of (Same.new hKL)⟩ ?_ ?_
  · rintro i H' hi ⟨⟨ks, hk, kl, hks⟩, D', B'⟩
    refine ⟨rfl, _, rfl, a, 12, rfl, D', by decide, fun v H'' v0 v1 D'' B'' => ⟨_, B'' _ _ hk nKa.symm, by rw [List.length_map]; omega, ⟨ks ++ [v], by rw [upd_same, List.map_append]; rfl, by rw [List.length_append, kl]; rfl, fun c hc => ?_⟩, D''.put nKa, fun c o' e n => by rw [upd_ne (ne_of_none e hKL)]; exact B'' _ _ (B' c o' e n) n⟩⟩
    rcases List.mem_append.mp hc with h | h
    · exact hks c h
    · rw [List.mem_singleton.mp h]; omega
  rintro G6 ⟨⟨ks, hks, kl, hk0⟩, E6, C6⟩
  refine tupOf (L := ks) (.inl hks) fun T1 G7 s7' hT1 => ?_
  obtain ⟨mx, hmx⟩ : ∃ mx : Int, (if number > 1 then number else 1) = mx := ⟨_, rfl⟩
  have mx0 : 0 ≤ mx ∧ mx < 1000 := by rw [← hmx]; split <;> omega
  refine ⟨_, rfl, 1, number, rfl, (by show 1 ≤ sizeLine; decide), fun T2 hT2 => ?_⟩
  have e2 : (if number > 1 then number else 1) = mx := hmx
  refine catT (K := K) (Same.new hT2 _ _ hT1) upd_same (by rw [List.length_map, kl]; show _ + 1 ≤ sizeLine; omega) fun TB G8 s8 hTB => ?_
  rw [e2] at hTB
  have hTB' : G8 TB = some (.tup ((ks ++ [mx]).map V.int)) := by rw [hTB, List.map_append]; rfl
  obtain ⟨ln, ll, ell⟩ : ∃ ln ll, ks ++ [mx] = ln :: ll := by
    cases ks with
    | nil => exact ⟨_, _, rfl⟩
    | cons c r => exact ⟨_, _, rfl⟩
  have hl0 : ∀ c ∈ ks ++ [mx], 0 ≤ c ∧ c < 1000 := fun c hc => by
    rcases List.mem_append.mp hc with h | h
    · exact hk0 c h
    · rw [List.mem_singleton.mp h]; exact mx0
  have hll : (ks ++ [mx]).length ≤ 4 := by rw [List.length_append, kl]; show _ + 1 ≤ 4; omega
  rw [ell] at hTB' hl0 hll
  have s68 : Same G6 G8 := s7'.trans ((Same.new hT2).trans s8)
  have C168 := ((C16.trans C5).trans C6).trans (But.of s68)
  have E8 := E6.same s68
  have S8' := S16.bt (List.cons_ne_nil _ _) D16 C168
  have BB8 := B216.trans C168
  -- figures
  refine ⟨_, rfl, number, rfl, num0, num1, fun p9 G9 n9 s9 h9 => ?_⟩
  refine ⟨_, rfl, number, rfl, num0, num1, fun p10 G10 n10 s10 h10 => ⟨_, _, rfl, eqd_ints (.inl ⟨s10 _ _ h9, h10⟩) (by have := figF_len num0 num1; omega) 1, ⟨_, rfl, iteF ?_⟩⟩⟩
  have s810 := s9.trans s10
  have BB10 := BB8.trans (But.of s810)
  have hx10 := off_le _ _ (off_but BB10 _ _ hx)
  have LM10 : LMk G10 m (rowsL f o) (depL f) := (hM.same (off_but BB10)).same off_le
  have hTB10 := s810 _ _ hTB'
  have S10' := S8'.same s810
  have r6 := rowsL_at (f := f) (o := o) (k := 6) (by decide)
  have rlen : ∀ l ∈ rowsL f o, l.length ≤ 100 := fun l hl => Nat.le_trans (rowlen l (List.mem_append_left _ hl)) (by decide)
  have lb := labF_len (l := ln :: ll) hl0
  -- the line of a number
  obtain ⟨Rl2, Dl2, hm2, fr, _⟩ := LMk.row (K := K) LM10
  obtain ⟨xs6, q6, y1, y2, y3⟩ := fr 6 _ r6
  refine ⟨_, rfl, x, _, _, .ref m, rfl, rfl, SqL.of hx10, atI_nat (j := 3) rfl, m, _, _, .ref Rl2, rfl, rfl, SqL.of hm2, atI_nat (j := 0) rfl, Rl2, _, _, .ref q6, rfl, rfl, y1, y2, ?_⟩
  refine tupOf (L := rowK f o 6) (.inl y3) fun T6 G11 s11 hT6 => ?_
  refine ⟨_, rfl, TB, ln :: ll, rfl, s11 _ _ hTB10, by omega, hl0, fun p12 G12 n12 s12 h12 => ?_⟩
  refine tupOf (L := labF (ln :: ll)) (.inl h12) fun T13 G13 s13' hT13 => ?_
  have l6 : (rowK f o 6).length ≤ 2 := by cases o <;> simp [rowK]
  refine catT (K := K) (s13' _ _ (s12 _ _ hT6)) hT13 (by rw [List.length_map, List.length_map]; omega) fun T14 G14 s14 hT14 => ?_
  have s1014 := s11.trans (s12.trans (s13'.trans s14))
  refine ⟨_, rfl, _, rfl, x, wd, ht, sz, m, rowsL f o, depL f, TB, ln, ll, rfl, s1014 _ _ hx10, LM10.same s1014, rl, rlen, s1014 _ _ hTB10, by rw [List.length_cons] at hll; omega, hl0, fun q15 G15 s15 h15 => ?_⟩
  refine ⟨_, _, rfl, eqd_ints (l := rowK f o 6 ++ labF (ln :: ll)) (.inr ⟨by rw [List.map_append]; exact s15 _ _ hT14, ?_⟩) (by rw [List.length_append]; omega) 1, ⟨_, rfl, iteF ?_⟩⟩
  · rw [h15, List.getD_eq_getElem?_getD, r6]
    rfl
  have s1015 := s1014.trans s15
  have BB15 := BB10.trans (But.of s1015)
  have S15' := S10'.same s1015
  have E15 := (E8.same s810).same s1015
  -- blocks
  refine ⟨(by show 2 ≤ sizeLine; decide), fun b0 hb0 => ⟨(by show 2 ≤ sizeLine; decide), fun b1 hb1 => ⟨(by show 3 ≤ sizeLine; decide), fun b2 hb2 => ?_⟩⟩⟩
  have e0 := upd_at hb0 (.tup KB.head.v)
  have t0' : Same G15 (upd G15 b0 (.tup KB.head.v)) := Same.new hb0
  rw [show upd G15 b0 (.tup [V.str "head", V.str "a"]) = upd G15 b0 (.tup KB.head.v) from rfl] at hb1 hb2 ⊢
  generalize upd G15 b0 (.tup KB.head.v) = J1 at e0 t0' hb1 hb2 ⊢
  have e1 := upd_at hb1 (.tup KB.par.v)
  have t1' : Same J1 (upd J1 b1 (.tup KB.par.v)) := Same.new hb1
  rw [show upd J1 b1 (.tup [V.str "par", V.str "a"]) = upd J1 b1 (.tup KB.par.v) from rfl] at hb2 ⊢
  generalize upd J1 b1 (.tup KB.par.v) = J2 at e1 t1' hb2 ⊢
  have e2' := upd_at hb2 (.tup KB.item.v)
  have t2' : Same J2 (upd J2 b2 (.tup KB.item.v)) := Same.new hb2
  rw [show upd J2 b2 (.tup [V.str "item", V.int 2, V.str "a"]) = upd J2 b2 (.tup KB.item.v) from rfl]
  generalize upd J2 b2 (.tup KB.item.v) = J3 at e2' t2' ⊢
  have u03 := t0'.trans (t1'.trans t2')
  refine ⟨_, rfl, a, 99, rfl, E15.same u03, by decide, fun nv G16 w0 w1 E16 C16' => ⟨_, _, rfl, rfl, ?_⟩⟩
  refine ⟨(by show 3 ≤ sizeLine; decide), fun b3 hb3 => ⟨(by show 1 ≤ sizeLine; decide), fun b4 hb4 => ⟨(by show 5 ≤ sizeLine; decide), fun BL hBL => ?_⟩⟩⟩
  have tn : ∀ {b : Addr} {ys : List V} {G : Hp}, Dr G a → G b = some (.tup ys) → b ≠ a := fun {b ys G} d e => by
    obtain ⟨zs, hz⟩ := d
    exact ne_of e hz (by intro z; cases z)
  have d3 := E15.same u03
  have e3 := upd_at hb3 (.tup (KB.note (1 + nv)).v)
  have t3' : Same G16 (upd G16 b3 (.tup (KB.note (1 + nv)).v)) := Same.new hb3
  rw [show upd G16 b3 (.tup [V.str "note", V.int (1 + nv), V.str "a"]) = upd G16 b3 (.tup (KB.note (1 + nv)).v) from rfl] at hb4 hBL ⊢
  generalize upd G16 b3 (.tup (KB.note (1 + nv)).v) = J4 at e3 t3' hb4 hBL ⊢
  have e4 := upd_at hb4 (.tup KB.brk.v)
  have t4' : Same J4 (upd J4 b4 (.tup KB.brk.v)) := Same.new hb4
  rw [show upd J4 b4 (.tup [V.str "break"]) = upd J4 b4 (.tup KB.brk.v) from rfl] at hBL ⊢
  generalize upd J4 b4 (.tup KB.brk.v) = J5 at e4 t4' hBL ⊢
  have e5 := upd_at hBL (.lst [V.ref b0, V.ref b1, V.ref b2, V.ref b3, V.ref b4])
  have t5' : Same J5 (upd J5 BL (.lst [V.ref b0, V.ref b1, V.ref b2, V.ref b3, V.ref b4])) := Same.new hBL
  generalize upd J5 BL (.lst [V.ref b0, V.ref b1, V.ref b2, V.ref b3, V.ref b4]) = J6 at e5 t5' ⊢
  have u36 := t3'.trans (t4'.trans t5')
  have f0 := u36 _ _ (C16' _ _ (t2' _ _ (t1' _ _ e0)) (tn d3 (t2' _ _ (t1' _ _ e0))))
  have f1' := u36 _ _ (C16' _ _ (t2' _ _ e1) (tn d3 (t2' _ _ e1)))
  have f2' := u36 _ _ (C16' _ _ e2' (tn d3 e2'))
  have f3 := t5' _ _ (t4' _ _ e3)
  have f4 := t5' _ _ e4
  have KA : KbsAt J6 [V.ref b0, V.ref b1, V.ref b2, V.ref b3, V.ref b4] [.head, .par, .item, .note (1 + nv), .brk] := ⟨rfl, fun i v b a1 a2 => by
    match i, a1, a2 with
    | 0, a1, a2 => cases a1; cases a2; exact ⟨_, rfl, f0⟩
    | 1, a1, a2 => cases a1; cases a2; exact ⟨_, rfl, f1'⟩
    | 2, a1, a2 => cases a1; cases a2; exact ⟨_, rfl, f2'⟩
    | 3, a1, a2 => cases a1; cases a2; exact ⟨_, rfl, f3⟩
    | 4, a1, a2 => cases a1; cases a2; exact ⟨_, rfl, f4⟩
    | i + 5, a1, a2 => simp at a1⟩
  have KO : ∀ b ∈ ([.head, .par, .item, .note (1 + nv), .brk] : List KB), b.ok := fun b hb => by
    simp only [List.mem_cons, List.not_mem_nil, or_false] at hb
    rcases hb with rfl | rfl | rfl | rfl | rfl
    · exact True.intro
    · exact True.intro
    · exact True.intro
    · exact ⟨by omega, by omega⟩
    · exact True.intro
  have BBJ : But a H2 J6 := ((BB15.trans (But.of u03)).trans C16').trans (But.of u36)
  have SJ := ((S15'.same u03).bt (List.cons_ne_nil _ _) d3 C16').same u36
  have hxJ := off_le _ _ (off_but BBJ _ _ hx)
  have LMJ : LMk J6 m (rowsL f o) (depL f) := (hM.same (off_but BBJ)).same off_le
  generalize [V.ref b0, V.ref b1, V.ref b2, V.ref b3, V.ref b4] = bl at e5 KA
  generalize ([.head, .par, .item, .note (1 + nv), .brk] : List KB) = kl' at KA KO
  have r2 := rowsL_at (f := f) (o := o) (k := 2) (by decide)
  refine ⟨BL, rfl, ⟨_, SqL.of e5⟩, ?_⟩
  refine for_list (K := K) (a := BL) (xs := bl) (fun i σ' H' => (∃ o12 : Option V, σ' = [some (.ref sc), some (.ref a), some (.ref x), some (.ref M), none, some (.ref q), some (.ref R'), some (.ref TL), o8, some (.int number), some (.ref TB), none, o12]) ∧ Same J6 H') ⟨⟨_, rfl⟩, fun _ _ z => z⟩ (fun i σ' H' _ p => SqL.of (p.2 _ _ e5)) ?_ ?_
  · rintro i v σ' H' hv ⟨⟨o12, rfl⟩, sJ⟩
    have il := (List.getElem?_eq_some_iff.mp hv).1
    have hki : kl'[i]? = some (kl'[i]'(by rw [← KA.1]; exact il)) := List.getElem?_eq_getElem _
    generalize kl'[i]'(by rw [← KA.1]; exact il) = kb at hki
    obtain ⟨B, rfl, hB⟩ := KA.2 i v kb hv hki
    have kok := KO kb (List.mem_of_getElem? hki)
    refine ⟨_, rfl, _, rfl, q, dq, wd, ht, sz, m', dm', z', dp', dz', _, B, kb, rfl, SJ.same sJ, rfl, sJ _ _ hB, kok, ⟨?_, ?_⟩, fun r1 H1' s1' h1' => ?_⟩
    · show (rowsL f o).getD 2 [] ≠ []
      rw [List.getD_eq_getElem?_getD, r2]
      exact rowK_ne f o 2
    · show ((rowsL f o).getD 2 []).length ≤ 100
      rw [List.getD_eq_getElem?_getD, r2]
      exact rlen _ (List.mem_of_getElem? r2)
    have sJ1 := sJ.trans s1'
    refine ⟨_, rfl, _, rfl, x, wd, ht, sz, m, rowsL f o, depL f, B, kb, rfl, sJ1 _ _ hxJ, LMJ.same sJ1, rl, dl, rlen, sJ1 _ _ hB, kok, fun r2' H2' s2' h2' => ?_⟩
    refine tupOf (L := bmF (mdL (rowsL f o) (depL f)) kb) (.inl h2') fun r3' H3' s3' h3' => ?_
    exact ⟨_, _, rfl, eqd_ints (.inr ⟨s3' _ _ (s2' _ _ h1'), h3'⟩) (bm_len kok) 1, ⟨_, rfl, iteF ⟨⟨_, rfl⟩, sJ1.trans (s2'.trans s3')⟩⟩⟩
  · rintro σ' H' ⟨⟨o12, rfl⟩, sJ⟩
    exact k H'
end
end Sx

set_option Elab.async false
set_option linter.all false
set_option maxRecDepth 100000
set_option maxHeartbeats 0
namespace Sx
open PySem PySem.Spec PyProof.Rows L2 SxK
theorem FnOk.cx {P : Program} {w : World} {K : PySem.W.Frag} {mg : Str → Option Value} {base : Heap} {CX CX' : CXT} {k : Nat} {f : Addr} {fd : FuncData} {ps : List Str} {sp : Sp} (h : ∀ o H s E e s', CX o H s E e s' → CX' o H s E e s')
    (F : FnOk P w K mg base CX k f fd ps sp) : FnOk P w K mg base CX' k f fd ps sp :=
  ⟨F.len, fun A outer s H args us vs Q E hr he hb hv hs => codeAny_mono (F.run A outer s H args us vs Q E hr he hb hv hs) fun r s' hq => by
    cases r with
    | error e => exact h _ _ _ _ _ _ hq
    | ok f =>
      cases f with
      | ret u => exact hq
      | next => exact hq
      | brk => exact hq
      | cont => exact hq⟩
theorem facts {P : Program} {w : World} {K : PySem.W.Frag} {h : Heap} {mg : Str → Option Value} {f : Addr} (X : K.In h) (G : h.Ns mainGlobals mg) (hfa : mg ("law" : Str) = some (.ref f)) (c : SxK.SaysXU fa fn xs ts us ys w K) :
    ∃ fd : FuncData, (∀ (s : Shared) (v : Value), BindsTo s fd ⟨[v], []⟩ [("script", v)]) ∧ ∀ base : Heap, K.In base → base.Ns mainGlobals mg → FnOk P w K mg base (L2.CX P w) 8 f fd ["script"] (spLaw K) := by
  have t : T K mg := ⟨c.x, h, X, G⟩
  have kd := c.tab 0 (t := ("MOST_NUMBERS", [("item", .int 3), ("note", .int 99)])) rfl (x := "item") (d := .int 3) List.mem_cons_self
  have px := c.pex 0 (x := "InvalidShape") rfl X G
  obtain ⟨fd, F⟩ := t.d_law
  have e := hfa.symm.trans t.g_law
  cases e
  have b := FunD.bindsA (ps := ["script"]) F fun _ _ _ _ _ _ us hl => match us, hl with | [_], _ => rfl
  exact ⟨fd, fun s v => b s [v] rfl, fun base _ _ => ok_law t kd px F⟩
end Sx
open PySem PySem.W PySem.Calls PyProof.Rows
set_option maxRecDepth 100000 in
set_option maxHeartbeats 0 in
theorem PySem.Challenge.cw_sixdot_k30_shapes_and_marks_holds : PySem.Challenge.rw_sixdot_k30_shapes_and_marks.Holds := by
  w_on; o_law
  refine HandSHeadRun.head_any (r := OpenLaw.row PySem.Challenge.rw_sixdot_k30_shapes_and_marks) (q := view (OpenLaw.row PySem.Challenge.rw_sixdot_k30_shapes_and_marks).prog [42]) (H := Sx.hk) (ob := Sx.ob) (M := 4000) (loose := Sx.loose) (d := HandSHeadRun.topDef (OpenLaw.row PySem.Challenge.rw_sixdot_k30_shapes_and_marks).prog 42) (kwd := []) Sx.ob_eq
    (by kernel_rfl) (fun s => by kernel_rfl) Sx.run (by kernel_rfl) (by kernel_rfl) (by kernel_rfl) (by rfl) (by first | assumption | decide +kernel) (by decide +kernel) ⟨rfl, rfl, rfl, rfl, rfl, by decide +kernel⟩ ?hw ?hc
  case hw => w_witness2
  case hc =>
    refine L2.walk_ofE (l := PySem.Challenge.rw_sixdot_k30_shapes_and_marks) (n := 63) (k := 8) (x := "script") (CX := fun o H s E e s' => ∃ w, L2.CX (PySem.Challenge.rw_sixdot_k30_shapes_and_marks).prog w o H s E e s') rfl (by decide) (by kernel_rfl) ⟨rfl, by decide, by decide⟩ ?F ?C
    case C => exact fun H s e s' ⟨_, _, _, _, _, _, _, _, _, _, _, _, _, z⟩ => z
    intro w mg fa h Y G hmg0
    obtain ⟨K, KX, c⟩ := Y
    have hmg : mg ("law" : PySem.Str) = some (.ref fa) := by
      have e : (HandSHeadRun.topDef (OpenLaw.row PySem.Challenge.rw_sixdot_k30_shapes_and_marks).prog 42).name = ("law" : PySem.Str) := by kernel_rfl
      rw [← e]
      exact hmg0
    obtain ⟨fd, hb, hF⟩ := Sx.facts (P := (PySem.Challenge.rw_sixdot_k30_shapes_and_marks).prog) (w := w) KX G hmg c
    exact ⟨K, fd, Sx.spLaw K, KX, hb, fun H a ns hl _ hS => ⟨a, ns, rfl, hS, hl, fun _ => rfl⟩, fun base h1 h2 => Sx.FnOk.cx (fun _ _ _ _ _ _ z => ⟨w, z⟩) (hF base h1 h2)⟩
