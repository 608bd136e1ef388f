import PyProof.Rows.All
import Wide.All
import OpenK.AllK
import Wide.FinOn
import PyProof.StrWalks
import PyProof.Draws
import KE.KExcSuper
import HandS.ForMost
import HandS.Exc
import HandS.ExcInit
import HandS.ExcField
import HandS.ExcOwn
import HandS.FStr
import HandS.Defaults
import KE.KStateDown
import HandS.MakeKwOnly
import HandS.Head0
import HandS.Head1
import HandS.Head2
import HandS.HeadEnd
import HandS.HeadHook1
import HandS.HeadHook2
import HandS.HeadHook3
import HandS.WrittenGet
import HandS.ExcIs
import Wide.Once
import PyProof.Rows.SetFrom
import KE.KRevIter
import HandS.Rev
import HandS.RevTup
import HandS.Style
import HandS.Flow
import HandS.WideBits
import HandS.Codes
import HandS.IsInst
import HandS.ForDict
import HandS.More
import HandS.Zip
import HandS.RevRange
import HandS.TupAny
import HandS.Text
import PyProof.JoinWalk
import HandS.StrMore
import HandS.Call
import HandS.Comp
import HandS.Dict
import HandS.Deep
import PyProof.StrLawsFirst
import HandS.TryOnly
import HandS.Conv
import HandS.Walk
import HandS.WordsExc
import HandS.SortInts
import PySem.Challenge.RW_sixdot_k50_whole_presses_press_each_shee
set_option Elab.async false
set_option linter.all false
set_option maxRecDepth 100000
set_option maxHeartbeats 4000000
/-! rules that the layer lacks: enumerate over a text; two except clauses of which the first one has a name; super().__init__ of an own exception -/
namespace SxK
open PySem PySem.Spec PyProof.Rows L2
abbrev sgn (c : Nat) : Str := ⟨#[c]⟩
/-! ### for i, c in enumerate(text) -/
def Ise (z : Str) : It :=
  ⟨fun i _ => i < z.cps.size, fun i H v H' => ∃ T c, v = .ref T ∧ H T = none ∧ H' = upd H T (.tup [.int (i : Nat), .str (sgn c)]) ∧ z.cps[i]? = some c, fun i _ => z.cps.size ≤ i⟩
theorem drawsT {P : Program} {w : World} {A : Around} (hh : A.handled = none) (it : Addr) (z : Str) (t : Tok) : Draws P w A it [it] z.cps.size (SignAt z) (fun i h => h.IsStrIter it (strIterType z) z t i) := by
  unfold strIterType
  cases z.cps.all (· < 128)
  · exact Draws.strWide hh it z t
  · exact Draws.strAscii hh it z t
theorem turn_enumT {P : Program} {w : World} {K : PySem.W.Frag} {elts : List Expr} {kk : Nat} {tpos : Pos} (z : Str) (t : Tok) (e it : Addr) :
    Turn P w K (.Tuple elts kk tpos) (Ise z) [e, it] e (fun i h => (∃ old, IsEnum h e it ((i : Nat) : Int) old) ∧ h.IsStrIter it (strIterType z) z t i ∧ e ≠ it ∧ i ≤ z.cps.size) where
  mem := List.mem_cons_self
  obj := fun i h st b hb => by
    obtain ⟨⟨old, he⟩, ⟨o, ho, hcl, hdt⟩, _, _⟩ := st
    rcases List.mem_cons.mp hb with q | q
    · subst q; exact ⟨_, he, fun v n => nomatch n⟩
    · rw [List.mem_singleton.mp q]; exact ⟨o, ho, fun v n => by rw [hdt] at n; cases n⟩
  keep := fun i h h' st k => by
    obtain ⟨⟨old, he⟩, ⟨o, ho, r⟩, hne, hle⟩ := st
    exact ⟨⟨old, k e List.mem_cons_self _ he⟩, ⟨o, k it (List.mem_cons_of_mem _ List.mem_cons_self) o ho, r⟩, hne, hle⟩
  item := by
    intro X hP hw hK hc i pins s σ H E I hf st hg
    subst hP hw hK
    obtain ⟨⟨old, he⟩, hit, hne, hle⟩ := st
    have el : e < s.heap.objs.size := Heap.lt_size he
    have il : it < s.heap.objs.size := by
      obtain ⟨_, q, _⟩ := id hit
      exact Heap.lt_size q
    have D : Draws X.prog X.w X.A.in1 it [it] z.cps.size (SignAt z) (fun i h => h.IsStrIter it (strIterType z) z t i) := drawsT (A := X.A.in1) (show X.A.in1.handled = none from I.ok.hd hc) it z t
    refine wpAny_pyNext_enum_itemD D he hit hg hne (fun q => hne (List.mem_singleton.mp q)) fun x h' tk hx ho hit' hT hsz hk => ?_
    obtain ⟨c, u, hcz, rfl⟩ := hx
    refine ⟨_, rfl, wpAny_letOwnedTupleGo_enum (s := { s with heap := h', toks := tk + 1 }) ho fun h2 he2 sb => ?_⟩
    have hT2 : h2.get? s.heap.objs.size = some { cls := .type "tuple", data := .seq #[.int i tk, .str ⟨#[c]⟩ u] } := (sb.2 _ (Nat.ne_of_gt el)).trans hT
    have nw : ObjOk X.prog X.w (upd H s.heap.objs.size (.tup [.int (i : Nat), .str (sgn c)])) h2 s.heap.objs.size (.tup [.int (i : Nat), .str (sgn c)]) :=
      ⟨(by show 2 ≤ sizeLine; decide), [.int i tk, .str ⟨#[c]⟩ u], .cons ⟨_, rfl⟩ (.cons ⟨_, rfl⟩ .nil), ⟨_, hT2, rfl, _, rfl⟩⟩
    have I1 : Inv X pins σ (upd H s.heap.objs.size (.tup [.int (i : Nat), .str (sgn c)])) { s with heap := h2, toks := tk + 1 } :=
      I.turnedNew (ch := [e, it]) (fun b ob hb q => by
        have b1 : b ≠ e := fun n => hb (by rw [n]; exact List.mem_cons_self)
        have b2 : b ≠ it := fun n => hb (by rw [n]; exact List.mem_cons_of_mem _ List.mem_cons_self)
        exact (sb.2 b b1).trans (hk b ob b1 b2 q)) hf (Nat.le_refl _) nw
    have e1 : ((i + 1 : Nat) : Int) = (i : Int) + 1 := by omega
    refine ⟨.ref s.heap.objs.size, _, I1, rfl, ⟨_, c, rfl, I.hok.fresh (Nat.le_refl _), rfl, hcz⟩, ⟨⟨_, by rw [e1]; exact he2⟩, ?_, hne, Nat.succ_le_of_lt hg⟩, fun b hb => ?_⟩
    · obtain ⟨o, ho2, r⟩ := hit'
      exact ⟨o, (sb.2 it (Ne.symm hne)).trans ho2, r⟩
    · have lt : b < s.heap.objs.size := by
        rcases List.mem_cons.mp hb with q | q
        · rw [q]; exact el
        · rw [List.mem_singleton.mp q]; exact il
      rw [upd_ne (Nat.ne_of_lt lt)]
      exact (hf b hb).1
  done := by
    intro X hP hw hK hc i pins s σ H E I hf st hg
    subst hP hw hK
    obtain ⟨⟨old, he⟩, hit, hne, hle⟩ := st
    have D : Draws X.prog X.w X.A.in1 it [it] z.cps.size (SignAt z) (fun i h => h.IsStrIter it (strIterType z) z t i) := drawsT (A := X.A.in1) (show X.A.in1.handled = none from I.ok.hd hc) it z t
    obtain ⟨f0, f1, f2, f3, f4, f5⟩ := hf it (List.mem_cons_of_mem _ List.mem_cons_self)
    have ei : i = z.cps.size := Nat.le_antisymm hle hg
    subst ei
    exact wpAny_pyNext_enum_endD D he hit fun h' eb => ⟨rfl, I.turned (t' := s.toks) (fun b o hb q => eb b o hb q) f0 f1 f3 f4 f5⟩
  self := fun A i s Q E st h => by
    obtain ⟨⟨_, he⟩, _⟩ := st
    exact wpAny_pyIter_enum he h
def iEnumT (ta : TA) : TI := fun σ H R => ta σ H fun vs H1 => ∃ z : Str, vs = [.str z] ∧ R (Ise z) H1
theorem pi_enumT {X : Cx} {e : Expr} {ta : TA} {p pos tpos : Pos} {elts : List Expr} {kk : Nat} (hg : Gl X "enumerate") (hm : X.mg "enumerate" = none) (ha : PA X [e] ta) (hs : starEach [e] X.env = [(false, eval e X.env)] := by rfl) :
    PI X (.Tuple elts kk tpos) (.Call (.Name "enumerate" p) [e] [] pos) (iEnumT ta) := by
  refine ⟨fun pins s σ H R I h => ?_⟩
  refine Call_ (ld_blt I hg hm boot_enumerate (PyProof.Rows.callWith_type1 (thn (ha.run pos pins s σ H _ I h) fun us s1 ⟨vs, H1, I1, r1, z, ez, q⟩ => ?_) hs rfl))
  subst ez
  cases r1 with
  | cons r rr =>
    cases rr
    obtain ⟨t, rfl⟩ := r
    have gt : ∀ b, b ∈ [s1.heap.objs.size + 1, s1.heap.objs.size] → s1.heap.objs.size ≤ b := fun b hb => by
      rcases List.mem_cons.mp hb with n | n
      · rw [n]; exact Nat.le_add_right _ _
      · rw [List.mem_singleton.mp n]; exact Nat.le_refl _
    refine call_enumerate_str fun h' he hit hsz hk => wpAny_pyIter_enum he ?_
    exact ⟨s1.heap.objs.size + 1, [s1.heap.objs.size + 1, s1.heap.objs.size], _, _, H1, rfl, I1.kept (t' := s1.toks) hk, turn_enumT z t (s1.heap.objs.size + 1) s1.heap.objs.size,
      ⟨⟨.none, he⟩, hit, Nat.succ_ne_self _, Nat.zero_le _⟩, fun b hb => I1.fpOk (gt b hb) (I1.hok.fresh (gt b hb)), q⟩
theorem for_enumT {z : Str} {g : TG} {tb : TS} {D : Ends} {σ : L2.St} {H : Hp} (Pv : Nat → L2.St → Hp → Prop) (h0 : Pv 0 σ H)
    (hs : ∀ (i c : Nat) (T : Addr) (σ : L2.St) (H : Hp), z.cps.toList[i]? = some c → Pv i σ H → H T = none → g (.ref T) σ (upd H T (.tup [.int (i : Nat), .str (sgn c)])) fun σ2 H2 => tb { D with nx := Pv (i + 1), ct := Pv (i + 1), bk := D.nx } σ2 H2)
    (hd : ∀ σ H, Pv z.cps.toList.length σ H → D.nx σ H) :
    ∃ W : Nat → Nat → L2.St → Hp → Prop, (∃ m, W 0 m σ H) ∧ ∀ i m σ H, W i m σ H → ((Ise z).stop i H ∧ D.nx σ H) ∨ ((Ise z).go i H ∧ ∃ N : L2.St → Hp → Prop, (∀ σ' H', N σ' H' → ∃ m', m' < m ∧ W (i + 1) m' σ' H') ∧
      ∀ v H', (Ise z).yld i H v H' → g v σ H' fun σ2 H2 => tb { D with nx := N, ct := N, bk := D.nx } σ2 H2) := by
  have hsz : z.cps.size = z.cps.toList.length := by simp
  refine ⟨fun i m σ H => m = z.cps.toList.length - i ∧ i ≤ z.cps.toList.length ∧ Pv i σ H, ⟨z.cps.toList.length, rfl, Nat.zero_le _, h0⟩, ?_⟩
  rintro i m σ H ⟨rfl, hi, p⟩
  by_cases lt : i < z.cps.toList.length
  · refine .inr ⟨by show i < z.cps.size; omega, Pv (i + 1), fun σ' H' q => ⟨z.cps.toList.length - (i + 1), by omega, rfl, lt, q⟩, ?_⟩
    rintro v H' ⟨T, c, rfl, hT, rfl, hc⟩
    exact hs i c T σ _ (by rw [Array.getElem?_toList]; exact hc) p hT
  · have e : i = z.cps.toList.length := by omega
    subst e
    exact .inl ⟨by show z.cps.size ≤ z.cps.toList.length; omega, hd σ H p⟩
end SxK

set_option Elab.async false
set_option linter.all false
set_option maxRecDepth 100000
set_option maxHeartbeats 4000000
namespace SxK
open PySem PySem.Spec PyProof.Rows L2
/-! ### try with clauses of which the first one, with a name, takes every exception that is due -/
/-- the ends behind a suite whose name in slot i goes -/
def dropAt (i : Nat) (D : Ends) : Ends := { nx := fun σ' H' => D.nx (σ'.set i none) H', rt := D.rt, bk := fun σ' H' => D.bk (σ'.set i none) H', ct := fun σ' H' => D.ct (σ'.set i none) H' }
def wFirst (K : PySem.W.Frag) (c : Value) (i : Nat) (ts : Addr → Value → Option Addr → TS) (D : Ends) : WX := fun cls d σ H =>
  PySem.W.exmOne K cls c = some true ∧ ∀ a, H a = none → ts a cls d (dropAt i D) (σ.set i (some (.ref a))) H
section
variable {X : Cx} {x n : Str} {c : Value} {i : Nat} {body suite : List Stmt} {b₀ : Stmt} {np pos pos' : Pos} {more : List ExceptHandler} {tb : WX → TS} {ts : Addr → Value → Option Addr → TS}
theorem ps_try_first (st : X.stack = X.env :: X.outer) (fr : X.env.frame = some X.env.locals) (nd : X.N.Nodup) (ni : X.N[i]? = some n) (nl : X.env.kindOf n = some .local) (nc : Names X x c)
    (tryB : ∀ (W : WX) (pn : List (Addr × Obj)) (xe : Value → Shared → Prop), Takes (X.tr pn xe) W → PassesOwn (model X.prog X.w) X.A X.env xe → PSs (X.tr pn xe) body (tb W))
    (suiteB : ∀ (a : Addr) (oe : Obj) (cls : Value) (d : Option Addr) (pn : List (Addr × Obj)), Zc cls d oe → (∃ vs, oe.data = .fields vs) → PSs (X.suite a ((a, oe) :: pn)) (b₀ :: suite) (ts a cls d)) :
    PS X (.Try body (.ExceptHandler (some (.Name x np)) (some n) (b₀ :: suite) pos' :: more) [] [] pos) (fun D σ H => tb (wFirst X.K c i ts D) D σ H) := by
  refine ⟨fun pins s σ H D I h => ?_⟩
  have okX := I.ok
  have afr : X.A.frames = some (X.env :: X.outer) := by rw [okX.frames, st]
  refine wpAny_Try_except (wpAny_mono ((tryB (wFirst X.K c i ts D) (X.pn ++ pins) _ (fun u s2 y => ?_) PassesOwn.looking).run [] s σ H D (I.toTry _) h) (fun f s1 q => ?_) (fun e s1 q => q))
  · obtain ⟨a, B, sJ, pins2, τ, G, cls, d, rfl, J0, inB, upS, air, free, osJ, gnJ, mt, wish⟩ := y
    have J : Inv X pins τ G sJ := J0.ofTry okX
    have air2 : Sky B (X.env :: X.outer) a (Zc cls d) X.env.locals s2.heap := by rw [← st]; exact air
    show wpAny (model X.prog X.w) X.A (noteFrame (.ref a) X.env) _ _ _
    refine Sky.land Zc.steady afr fr air2 fun hL flL upL => ?_
    have JL : Inv X pins τ G { s2 with heap := hL } := J.landed inB flL.1 (upS.trans upL) osJ gnJ
    obtain ⟨oL, vL, eL, zL, dL⟩ := flL.there
    have off : a ∉ frs (X.env :: X.outer) := fun hm => by
      obtain ⟨_, o', e', hnf⟩ := flL.2.2.1.mem hm
      rw [eL] at e'
      cases e'
      exact hnf _ dL
    have aL : a ≠ X.env.locals := fun z => off (List.mem_filterMap.mpr ⟨X.env, List.mem_cons_self, by rw [fr, z]⟩)
    have aF : a ∉ X.fs := fun hm => by
      obtain ⟨e, he, q⟩ := List.mem_filterMap.mp hm
      exact off (List.mem_filterMap.mpr ⟨e, List.mem_cons_of_mem _ he, q⟩)
    have SL := JL.suite eL dL free aL aF
    refine wpAny_handleBy_cons (codeAny_handlers_test ?_) (fun q => by cases q)
    have tyL : PySem.W.Looks (model X.prog X.w) hL (typeOf (.ref a)) cls := fun A Q E s k q => wpAny_typeOf_ref (k _ _ eL) (by rw [zL.1]; exact q)
    have mtL := PySem.W.exm_one (M := model X.prog X.w) JL.kIn tyL mt
    have named : ∀ {Q : Value → Shared → Prop} {E : Value → Shared → Prop}, Q c { s2 with heap := hL } → wpAny (model X.prog X.w) (X.A.mark (some (.ref a))) (eval (.Name x np) X.env) Q E { s2 with heap := hL } := fun {Q E} q => by
      rcases nc with ⟨g1, g2, m1 | ⟨m1, m2, m3⟩⟩
      · exact ld_glob (X := X.suite a ((a, oL) :: (X.pn ++ pins))) SL g1 m1 q g2
      · exact ld_blt (X := X.suite a ((a, oL) :: (X.pn ++ pins))) SL g1 m1 m2 q m3 g2
    refine named (mtL.here (codeAny_handlers_suite_as (HandSPX.lands_againZ flL fun hR flR upR => ?_)))
    have JR : Inv X pins τ G { s2 with heap := hR } := J.landed inB flR.1 ((upS.trans upL).trans upR) osJ gnJ
    obtain ⟨oR, vR, eR, zR, dR⟩ := flR.there
    refine store_ok (X := X.suite a ((a, oR) :: (X.pn ++ pins))) (v := .ref a) (JR.suite eR dR free aL aF) nd ni (.inl nl) rfl (fun s5 S5 => ?_) (.inr nl)
    refine wpAny_mono ((suiteB a oR cls d (X.pn ++ pins) zR ⟨_, dR⟩).run [] s5 _ G _ S5 (wish a free)) (fun f s6 q => ?_) (fun _ _ z => z.elim)
    have goes : ∀ {ρ : L2.St} {F : Hp} {Q : Shared → Prop}, Inv (X.suite a ((a, oR) :: (X.pn ++ pins))) [] ρ F s6 → (∀ s7, Inv X pins (ρ.set i none) F s7 → Q s7) →
        wpAny (model X.prog X.w) X.A (do bindName X.env n .none; unbindBehindTheSuite X.env n pos') (fun _ s7 => Q s7) X.xe s6 := fun {ρ F Q} Sx hq => gone_ok (Sx.unsuite okX) nd ni nl hq
    cases f with
    | ret u =>
      obtain ⟨v, ρ, F, Sx, rv, q⟩ := q
      exact goes Sx fun s7 J7 => ⟨_, _, _, J7, rv, q⟩
    | next =>
      obtain ⟨ρ, F, Sx, q⟩ := q
      exact goes Sx fun s7 J7 => ⟨_, _, J7, q⟩
    | brk =>
      obtain ⟨ρ, F, Sx, q⟩ := q
      exact goes Sx fun s7 J7 => ⟨_, _, J7, q⟩
    | cont =>
      obtain ⟨ρ, F, Sx, q⟩ := q
      exact goes Sx fun s7 J7 => ⟨_, _, J7, q⟩
  · cases f with
    | ret u =>
      obtain ⟨v, τ, G, J, rv, q⟩ := q
      exact ⟨v, τ, G, J.ofTry okX, rv, q⟩
    | next =>
      obtain ⟨τ, G, J, q⟩ := q
      exact wpAny_execs_nil ⟨τ, G, J.ofTry okX, q⟩
    | brk =>
      obtain ⟨τ, G, J, q⟩ := q
      exact ⟨τ, G, J.ofTry okX, q⟩
    | cont =>
      obtain ⟨τ, G, J, q⟩ := q
      exact ⟨τ, G, J.ofTry okX, q⟩
end
end SxK

set_option Elab.async false
set_option linter.all false
set_option maxRecDepth 100000
set_option maxHeartbeats 4000000
namespace SxK
open PySem PySem.Spec PyProof.Rows L2 PySem.Calls
/-! ### an __init__ whose first statement is super().__init__(e), the base's one ValueError's -/
structure SupC (P : Program) (K : PySem.W.Frag) (mg : Str → Option Value) (C fI cc cda : Addr) (nm q : Str) (params : Arguments) (body : List Stmt) (scope : Scope) (fd : FuncData) : Prop where
  ex : OexC K C
  fn : ∃ oc od kV doc pm an ct osl, fd = PySem.W.ksFn nm q params body scope .none kV doc pm an (.ref cda) ct cc ∧ K.lookup fI = some ⟨oc, od, .func fd, osl⟩
  cod : PySem.W.codeIn K (.ref cda) q = true
  file : ∃ cl cd vs sl tf file, K.lookup cda = some ⟨cl, cd, .fields vs, sl⟩ ∧ vs[2]? = some (.str file tf) ∧ ((P.main.file : Str) == file) = true
  cell : ∃ cl cd sl, K.lookup cc = some ⟨cl, cd, .cell (some (.ref C)), sl⟩
  opq : PySem.W.nsIn K cStatics "thirdparty.any" = some none
  ini : PySem.W.ks_superIn K C C "__init__" = some (some (.builtin "ValueError.__init__"))
  sub : PySem.W.mroIn K C (.ref C) = some true
  isB : PySem.W.subIn K (.ref C) (.type "ValueError") = some true
  sup : mg "super" = none
  top : (P.main.scope.names.lookup ("super" : Str)).isSome = false
  iC : PySem.W.findIn K (.ref C) "__init__" = some (some (.ref fI))
  tI : PySem.W.typeIn K (.ref fI) = some (.type "function")
section
variable {X : Cx} {pins : List (Addr × Obj)} {σ : L2.St} {H : Hp} {s : Shared} {a C u : Addr} {us : List Value} {Q : Value → Shared → Prop} {E : Value → Shared → Prop}
/-- the bound ValueError.__init__ is called: nothing of it is told -/
theorem mw_call (T : OexC X.K C) (I : Inv X pins σ H s) (e : H a = some (exo a C none)) (hu : s.heap.get? u = some (PySem.W.kxs_mw "ValueError.__init__" a)) (hl : us.length ≤ sizeLine) (h : ∀ s', Inv X pins σ H s' → Q .none s') :
    wpAny (model X.prog X.w) X.A (call (.ref u) us) Q E s := by
  obtain ⟨nm, q, N, bs, bm, sn, sub, ab, col, dd, k0, k1, k2, k3, k5, hC, hbm⟩ := T.cls
  obtain ⟨t1, ho⟩ := exo_at I.hok e
  obtain ⟨hp, g, d, t, os⟩ := s
  have FB := F.excBase_ValueError
  have mt : (Value.type "method-wrapper" == Value.type "method" || Value.type "method-wrapper" == Value.type "builtin_function_or_method" || Value.type "method-wrapper" == Value.type "method-wrapper") = true := by decide
  refine wpAny_call (codeAny_of_tree ?_); show wpAny _ X.A.in1 (callAny (.ref u) ⟨us, []⟩) _ _ _
  simp only [callAny]; refine wpAny_bind (wpAny_load hu ?_)
  simp only [PySem.W.kxs_mw, mt, if_true]
  refine PySem.W.KFB.if_so (by decide) (wpAny_bind (PySem.W.check_bound_init FB.toExcCallFacts (I.kIn _ _ hC) ho rfl (wpAny_bind (wpAny_pure (wpAny_pure ?_)))))
  refine ⟨plainId_quiet FB.init.plain _, codeAny_builtin FB.initEntry (PySem.W.exc_init_tree (cls := .ref C) (t0 := t1) (dv := none) (c2 := .none) (c3 := .none) (b4 := .bool false) ho hl fun h' k hx _ => ?_)⟩
  have J := I.write (t' := t) (x := a) (e := a) (o := exo a C none) (by rw [e]; exact True.intro) (.inl rfl) k ⟨_, hx⟩ (exo_ok hx)
  have eu : upd H a (exo a C none) = H := funext fun b => by
    by_cases hb : b = a
    · rw [hb, upd_same, e]
    · exact upd_ne hb
  rw [eu] at J
  exact h _ J
end
end SxK

set_option Elab.async false
set_option linter.all false
set_option maxRecDepth 100000
set_option maxHeartbeats 4000000
namespace SxK
open PySem PySem.Spec PyProof.Rows L2 PySem.Calls
/-- the context of such an __init__ -/
def cxSup (CX : CXT) (P : Program) (w : World) (K : PySem.W.Frag) (mg : Str → Option Value) (base : Heap) (N : List Str) (q : Str) (scope : Scope) (f cda cc : Addr) (A : Around) (outer : List Env) (s : Shared) (H : Hp) (E : XK) : Cx :=
  { prog := P, w := w, K := K, mg := mg, base := base, A := A.deeper (PySem.W.ksEnv q scope s.heap.objs.size f (.ref cda) cc), N := N, s_0 := s, H_0 := H, env := PySem.W.ksEnv q scope s.heap.objs.size f (.ref cda) cc, outer := outer,
    stack := PySem.W.ksEnv q scope s.heap.objs.size f (.ref cda) cc :: outer, ex := [], calm := true, fn := fun x => !(x == ("__class__" : Str)), pn := [],
    xe := fun e s' => wpAny (model P w) (A.deeper (PySem.W.ksEnv q scope s.heap.objs.size f (.ref cda) cc)) (leaving (PySem.W.ksEnv q scope s.heap.objs.size f (.ref cda) cc) e) (fun _ s'' => CX outer H s E e s'') (fun e' s'' => CX outer H s E e' s'') s' }
structure ScSup (scope : Scope) (ps : List Str) : Prop where
  kind : scope.kind = .function
  co : scope.isCoroutine = false
  gen : scope.isGenerator = false
  nd : ps.Nodup
  par : ∀ x ∈ ps, scope.names.lookup x = some .local
  nocell : ∀ y ∈ scope.names, y.2 ≠ .cell
  fre : ∀ y ∈ scope.names, y.2 = .free → y.1 = ("__class__" : Str)
  ks : scope.names.lookup ("super" : Str) = some .globalImplicit
  kc : scope.names.lookup ("__class__" : Str) = some .free
section
variable {CX : CXT} {P : Program} {w : World} {K : PySem.W.Frag} {mg : Str → Option Value} {base : Heap} {N ps : List Str} {q nm : Str} {scope : Scope} {C fI cda cc a : Addr} {A : Around} {outer : List Env} {s0 s : Shared} {H0 H : Hp} {E : XK}
  {params : Arguments} {body body2 : List Stmt} {fd : FuncData} {σ : L2.St} {p0 p1 p2 p3 p4 : Pos} {arg : Expr} {t : TA} {G : Hp → Prop} {m : Str → Option Value} {ar : Arg} {pl : Sem Bool}
theorem sup_first (S : SupC P K mg C fI cc cda nm q params body scope fd) (Z : ScSup scope ps) (hp : (params.posonlyargs ++ params.args).head? = some ar) (hpa : ar.arg ∈ ps)
    (I : Inv (cxSup CX P w K mg base N q scope fI cda cc A outer s0 H0 E) [] σ H s) (hns : s.heap.Ns s0.heap.objs.size m) (hv : m ar.arg = some (.ref a)) (e : H a = some (exo a C none))
    (ha : PA (cxSup CX P w K mg base N q scope fI cda cc A outer s0 H0 E) [arg] t)
    (hq : t σ H fun vs H1 => vs.length ≤ 1000 ∧ H1 a = some (exo a C none) ∧ G H1)
    (hs : starEach [arg] (PySem.W.ksEnv q scope s0.heap.objs.size fI (.ref cda) cc) = (false, eval arg (PySem.W.ksEnv q scope s0.heap.objs.size fI (.ref cda) cc)) :: starEach [] (PySem.W.ksEnv q scope s0.heap.objs.size fI (.ref cda) cc) := by rfl)
    (hi : interactive (PySem.W.ksEnv q scope s0.heap.objs.size fI (.ref cda) cc) = false := by rfl)
    (hsw : swapsWith (.Call (.Attribute (.Call (.Name "super" p0) [] [] p1) "__init__" p2) [arg] [] p3) none p4.line (PySem.W.ksEnv q scope s0.heap.objs.size fI (.ref cda) cc) = pure false := by rfl)
    (hev : eval (.Call (.Attribute (.Call (.Name "super" p0) [] [] p1) "__init__" p2) [arg] [] p3) (PySem.W.ksEnv q scope s0.heap.objs.size fI (.ref cda) cc) = (do
      let ov ← attributeBase (.Call (.Name "super" p0) [] [] p1) "__init__" (PySem.W.ksEnv q scope s0.heap.objs.size fI (.ref cda) cc) (eval (.Call (.Name "super" p0) [] [] p1) (PySem.W.ksEnv q scope s0.heap.objs.size fI (.ref cda) cc))
      standAt p2.atName
      let (f, first) ← holding [ov] (getMethod ov "__init__" pl)
      callWith p3 f first (backTo p3 (starEach [arg] (PySem.W.ksEnv q scope s0.heap.objs.size fI (.ref cda) cc))) []) := by rfl) :
    PySem.wpAt (model P w) (A.deeper (PySem.W.ksEnv q scope s0.heap.objs.size fI (.ref cda) cc)) (.func body2 (PySem.W.ksEnv q scope s0.heap.objs.size fI (.ref cda) cc))
      (exec (.Expr (.Call (.Attribute (.Call (.Name "super" p0) [] [] p1) "__init__" p2) [arg] [] p3) p4) (PySem.W.ksEnv q scope s0.heap.objs.size fI (.ref cda) cc))
      (fun f s' => f = .next ∧ ∃ H1, Inv (cxSup CX P w K mg base N q scope fI cda cc A outer s0 H0 E) [] σ H1 s' ∧ H1 a = some (exo a C none) ∧ G H1) (cxSup CX P w K mg base N q scope fI cda cc A outer s0 H0 E).xe s := by
  obtain ⟨oc, od, kV, doc, pm, an, ct, osl, efd, hf⟩ := S.fn
  subst efd
  obtain ⟨cl, cd, vs, sl, tf, file, hcode, hvs, hfile⟩ := S.file
  obtain ⟨cl2, cd2, sl2, hcell⟩ := S.cell
  obtain ⟨cn, cq, cN, bs, bm, sn, sub, ab, col, dd, k0, k1, k2, k3, k5, hC, hbm⟩ := S.ex.cls
  obtain ⟨t1, hx⟩ := exo_at I.hok e
  obtain ⟨mb, hb1, hb2⟩ := I.mod.blt
  have KI : K.In s.heap := I.kIn
  have hcd : PySem.W.clsIn K C = some { name := cn, bases := bs, mro := .ref C :: bm, ns := cN, qualname := cq, hasDict := true, slotNames := sn, subclasses := sub, abstract := ab, collection := col, hasDel := false } := by
    unfold PySem.W.clsIn
    rw [hC]
  have hax : a ≠ C := fun z => by
    have h1 := KI _ _ hC
    rw [← z, hx] at h1
    cases h1
  have hm : PySem.W.alongIn K "__init__" (((Value.ref C :: bm).dropWhile (· != .ref C)).drop 1) = some (some (.builtin "ValueError.__init__")) := by
    have h1 := S.ini
    unfold PySem.W.ks_superIn at h1
    rw [hcd] at h1
    exact h1
  refine ks_wpAt_Expr_any (ks_wpAt_MethodCall (ks_wpAt_super_base (env := PySem.W.ksEnv q scope s0.heap.objs.size fI (.ref cda) cc) Z.ks Z.kc (by decide) rfl (KI _ _ hf) rfl hp rfl (KI _ _ hcode) rfl hvs hfile S.top ?_) hev) hi hsw
  refine PySem.W.ks_loadName_global Z.kind Z.ks (loadGlobal_builtin (env := PySem.W.ksEnv q scope s0.heap.objs.size fI (.ref cda) cc) (I.mod.glob.keeps I.bk) S.sup (hb1.keeps I.bk) ((hb2 _ (by decide)).trans (by decide +kernel)) ⟨rfl, ?_⟩)
  refine wpAny_loadName_free Z.kind Z.kc (by rfl) ⟨_, KI _ _ hcell, rfl⟩ (wpAny_loadName_local Z.kind (Z.par _ hpa) hns hv ?_)
  obtain ⟨hh, g, d, tk, os⟩ := s
  refine ks_wpAny_isType_cls (KI _ _ hC) rfl ⟨rfl, ?_⟩
  refine ks_wpAny_call_super (KI _ _ hC) rfl hx rfl (fun c z => by cases z) (PySem.W.looks_mroIn KI S.sub) fun h1 e1 kp1 => ?_
  have K1 : K.In h1 := KI.keeps kp1
  have lx : PySem.W.Looks (model P w) h1 (isInstance (.ref a) (.type "ValueError")) true :=
    PySem.W.Looks.andThen (a := Value.ref C) (fun A Q E s k q => wpAny_typeOf_ref (k _ _ (kp1 _ _ hx)) q) (PySem.W.looks_subIn K1 S.isB)
  refine PySem.W.kxs_getMethod PySem.W.kxs_ValueError e1 (PySem.W.looks_opaque K1 S.opq) (l₀ := .ref C :: bm) ((PySem.W.looks_clsIn K1 hcd).andThen .now) rfl K1 hm lx hax (by decide) ?_
  have kp2 : ∀ b o, hh.get? b = some o → (h1.push (PySem.W.kxs_mw "ValueError.__init__" a)).get? b = some o := fun b o z => Heap.get?_push_of_some _ (kp1 _ _ z)
  have hu : (h1.push (PySem.W.kxs_mw "ValueError.__init__" a)).get? h1.objs.size = some (PySem.W.kxs_mw "ValueError.__init__" a) := Heap.get?_push_size _ rfl
  have I2 : Inv (cxSup CX P w K mg base N q scope fI cda cc A outer s0 H0 E) [] σ H ⟨h1.push (PySem.W.kxs_mw "ValueError.__init__" a), g, d, tk + 1, os⟩ := I.kept (t' := tk + 1) kp2
  have hle : hh.objs.size ≤ h1.objs.size := Nat.le_of_lt (Heap.lt_size e1)
  have I3 : Inv (cxSup CX P w K mg base N q scope fI cda cc A outer s0 H0 E) [(h1.objs.size, PySem.W.kxs_mw "ValueError.__init__" a)] σ H ⟨h1.push (PySem.W.kxs_mw "ValueError.__init__" a), g, d, tk + 1, os⟩ := I2.pins_of fun p hpp => by
    rw [List.mem_singleton.mp hpp]
    exact ⟨hu, I.hok.fresh hle, Nat.ne_of_gt (Nat.lt_of_lt_of_le I.lt hle), I.nofs hle, fun v z => by cases z⟩
  have run := ha.run p3 _ _ σ H _ I3 hq
  show wpAny _ _ (callWith p3 (.ref h1.objs.size) [] (backTo p3 (starEach [arg] (PySem.W.ksEnv q scope s0.heap.objs.size fI (.ref cda) cc))) []) _ _ _
  have run2 : wpAny (model P w) (A.deeper (PySem.W.ksEnv q scope s0.heap.objs.size fI (.ref cda) cc)) (spliced (backTo p3 (starEach [arg] (PySem.W.ksEnv q scope s0.heap.objs.size fI (.ref cda) cc)))) _ _ _ := run
  rw [hs] at run2 ⊢
  refine PySem.W.kxs_callWith (i := "ValueError.__init__") (x := a) rfl (evalArgs_plain (thn run2 fun us s4 h4 => ?_))
  obtain ⟨vs4, H4, I4, r4, l4, e4, q4⟩ := h4
  have hu4 := (I4.pin _ (List.mem_append_right _ List.mem_cons_self)).1
  refine ⟨hu4, mw_call (X := cxSup CX P w K mg base N q scope fI cda cc A outer s0 H0 E) S.ex I4 e4 hu4 (by rw [List.nil_append, ← r4.length, sizeLine_eq]; omega) fun s5 J5 => ?_⟩
  exact ⟨rfl, H4, J5.pins_of (pins' := []) (fun p hpp => absurd hpp (List.not_mem_nil)), e4, q4⟩
end
end SxK

set_option Elab.async false
set_option linter.all false
set_option maxRecDepth 100000
set_option maxHeartbeats 4000000
namespace SxK
open PySem PySem.Spec PyProof.Rows L2 PySem.Calls
theorem look_rev : ∀ (ps : List Str) (us : List Value) (i : Nat) (x : Str) (u : Value), ps.Nodup → ps[i]? = some x → us[i]? = some u → (ps.zip us).reverse.lookup x = some u
  | [], _, _, _, _, _, h, _ => by simp at h
  | _ :: _, [], _, _, _, _, _, h => by simp at h
  | p :: ps, v :: us, i, x, u, nd, h1, h2 => by
    obtain ⟨n1, n2⟩ := List.nodup_cons.mp nd
    rw [List.zip_cons_cons, List.reverse_cons, List.lookup_append]
    cases i with
    | zero =>
      have e1 : p = x := by simpa using h1
      have e2 : v = u := by simpa using h2
      subst e1 e2
      have e3 : (ps.zip us).reverse.lookup p = none := by
        rw [List.lookup_eq_none_iff]
        intro q hq
        have h3 := (List.of_mem_zip (List.mem_reverse.mp hq : (q.1, q.2) ∈ ps.zip us)).1
        have h4 : p ≠ q.1 := fun z => n1 (by rw [z]; exact h3)
        simpa using h4
      rw [e3]
      simp [List.lookup]
    | succ i => rw [look_rev ps us i x u n2 (by simpa using h1) (by simpa using h2)]; rfl
section
variable {CX : CXT} {P : Program} {w : World} {K : PySem.W.Frag} {mg : Str → Option Value} {base : Heap} {ps : List Str} {q nm : Str} {scope : Scope} {C fI cda cc : Addr}
  {params : Arguments} {rest : List Stmt} {fd : FuncData} {p0 p1 p2 p3 p4 : Pos} {arg : Expr} {ar : Arg} {pl : Sem Bool} {sp : Sp} {k : Nat}
theorem sup_start {body : List Stmt} {A : Around} {outer : List Env} {s : Shared} {H : Hp} {E : XK} {us : List Value} {vs : List V} {h0 : Heap} {tk : Nat} (S : SupC P K mg C fI cc cda nm q params body scope fd) (Z : ScSup scope ps)
    (hd : A.handled = none) (e0 : Env0 P w K mg base A outer s H) (hl : vs.length = ps.length) (r : Vals vs us) (hns : h0.Ns s.heap.objs.size (fun x => (ps.zip us).reverse.lookup x)) (hk : ∀ b o, s.heap.get? b = some o → h0.get? b = some o) :
    Inv (cxSup CX P w K mg base ps q scope fI cda cc A outer s H E) [] (start ps vs) H { s with heap := h0, toks := tk } := by
  obtain ⟨cl2, cd2, sl2, hcell⟩ := S.cell
  have hc0 := e0.bs _ _ (e0.mod.kin _ _ hcell)
  have none_in : ∀ b : Addr, b ∉ (cxSup CX P w K mg base ps q scope fI cda cc A outer s H E).ex := fun b z => absurd (show b ∈ ([] : List Addr) from z) List.not_mem_nil
  have cells : ∀ y c, (cxSup CX P w K mg base ps q scope fI cda cc A outer s H E).env.cells.lookup y = some c → y = ("__class__" : Str) ∧ c = cc := fun y c z => by
    have z1 : List.lookup y [(("__class__" : Str), cc)] = some c := z
    by_cases hy : y = ("__class__" : Str)
    · subst hy
      have z2 : List.lookup ("__class__" : Str) [(("__class__" : Str), cc)] = some cc := by simp [List.lookup]
      rw [z2] at z1
      exact ⟨rfl, (Option.some.inj z1).symm⟩
    · have q1 : (y == ("__class__" : Str)) = false := by simpa using hy
      simp [List.lookup, q1] at z1
  have upto : ∀ i v, (start ps vs)[i]? = some (some v) → vs[i]? = some v := fun i v z => by
    unfold L2.start at z
    rw [hl, Nat.sub_self, List.replicate_zero, List.append_nil, List.getElem?_map] at z
    cases n : vs[i]? with
    | none => rw [n] at z; cases z
    | some a => rw [n] at z; cases z; rfl
  refine ⟨⟨e0.mod, Z.kind, rfl, rfl, Nat.le_refl _, fun y z c h1 h2 => by rw [(cells _ _ h1).1, (cells _ _ h2).1], fun y hy => ?_, fun y c h1 h2 => ?_, fun _ => hd, Around.frames_deeper e0.frames, .inr ⟨rfl, rfl⟩, fun b z => absurd z (none_in b), e0.bs, e0.bsz, fun b _ _ => none_in b,
      fun b z => absurd z (none_in b), e0.funs, e0.frf⟩, rfl, e0.bare, Un.kept hk, ⟨_, hns, fun i y v h1 h2 h3 => ?_⟩, fun y c h => ?_, e0.hok.fresh (Nat.le_refl _), fun y c h => ?_, fun p hp => absurd (show p ∈ ([] : List (Addr × Obj)) from hp) List.not_mem_nil, e0.hok.kept hk, ?_⟩
  · have hy' : scope.names.lookup y = some .cell ∨ scope.names.lookup y = some .free := hy
    rcases hy' with z | z
    · exact absurd rfl (Z.nocell _ (PySem.mem_of_lookup z))
    · have e1 := Z.fre _ (PySem.mem_of_lookup z) rfl
      have e2 : y = ("__class__" : Str) := e1
      subst e2
      exact ⟨cc, by show List.lookup ("__class__" : Str) [(("__class__" : Str), cc)] = some cc; simp [List.lookup]⟩
  · have h1' : (!(y == ("__class__" : Str))) = true := h1
    rw [(cells _ _ h2).1] at h1'
    simp at h1'
  · obtain ⟨u, hu, rv⟩ := r.get (upto i v h2)
    exact ⟨u, rv, .inl ⟨Z.par y (List.mem_of_getElem? h1), look_rev ps us i y u Z.nd h1 hu⟩⟩
  · rw [(cells _ _ h).2]
    exact ⟨_, _, hk _ _ hc0.1, rfl⟩
  · rw [(cells _ _ h).2]
    exact hc0.2
  · unfold L2.start
    show _ = ps.length
    rw [List.length_append, List.length_map, List.length_replicate]
    omega
theorem fn_sup (S : SupC P K mg C fI cc cda nm q params (.Expr (.Call (.Attribute (.Call (.Name "super" p0) [] [] p1) "__init__" p2) [arg] [] p3) p4 :: rest) scope fd) (Z : ScSup scope ps)
    (hp : (params.posonlyargs ++ params.args).head? = some ar) (hps : ps[0]? = some ar.arg) (len : ∀ vs H Q E, sp vs H Q E → vs.length = ps.length)
    (body : ∀ (A : Around) (outer : List Env) (s : Shared) (H : Hp) (vs : List V) (Q : VK) (E : XK), Room k (A.deeper (PySem.W.ksEnv q scope s.heap.objs.size fI (.ref cda) cc)) → sp vs H Q E →
      ∃ (t : TA) (t2 : TS) (a : Addr) (vr : List V), PA (cxSup CX P w K mg base ps q scope fI cda cc A outer s H E) [arg] t ∧ PSs (cxSup CX P w K mg base ps q scope fI cda cc A outer s H E) rest t2 ∧ vs = .ref a :: vr ∧ H a = some (exo a C none) ∧
        t (start ps vs) H fun us H1 => us.length ≤ 1000 ∧ H1 a = some (exo a C none) ∧ t2 { nx := fun _ H' => Q .non H', rt := Q } (start ps vs) H1)
    (hs : ∀ L, starEach [arg] (PySem.W.ksEnv q scope L fI (.ref cda) cc) = (false, eval arg (PySem.W.ksEnv q scope L fI (.ref cda) cc)) :: starEach [] (PySem.W.ksEnv q scope L fI (.ref cda) cc))
    (hi : ∀ L, interactive (PySem.W.ksEnv q scope L fI (.ref cda) cc) = false)
    (hsw : ∀ L, swapsWith (.Call (.Attribute (.Call (.Name "super" p0) [] [] p1) "__init__" p2) [arg] [] p3) none p4.line (PySem.W.ksEnv q scope L fI (.ref cda) cc) = pure false)
    (hev : ∀ L, eval (.Call (.Attribute (.Call (.Name "super" p0) [] [] p1) "__init__" p2) [arg] [] p3) (PySem.W.ksEnv q scope L fI (.ref cda) cc) = (do
      let ov ← attributeBase (.Call (.Name "super" p0) [] [] p1) "__init__" (PySem.W.ksEnv q scope L fI (.ref cda) cc) (eval (.Call (.Name "super" p0) [] [] p1) (PySem.W.ksEnv q scope L fI (.ref cda) cc))
      standAt p2.atName
      let (f, first) ← holding [ov] (getMethod ov "__init__" pl)
      callWith p3 f first (backTo p3 (starEach [arg] (PySem.W.ksEnv q scope L fI (.ref cda) cc))) [])) : FnOk P w K mg base CX (k + 1) fI fd ps sp := by
  refine ⟨len, fun A outer s H args us vs Q E hr e0 hb r hsp => ?_⟩
  have hl := len _ _ _ _ hsp
  obtain ⟨t, t2, a, vr, ha, hr2, evs, he, hq⟩ := body A outer s H vs Q E (hr.deeper _) hsp
  have KX : K.In s.heap := e0.mod.kin.keeps fun b o e => (e0.bs b o e).1
  have lim : s.heap.NoLimit := e0.mod.nolimit.keeps fun b o e => (e0.bs b o e).1
  obtain ⟨u0, hu0, ru0⟩ := r.get (i := 0) (x := V.ref a) (by rw [evs]; rfl)
  obtain rfl : u0 = Value.ref a := ru0
  obtain ⟨oc, od, kV, doc, pm, an, ct, osl, efd, hf⟩ := id S.fn
  refine ks_codeAny_call_defAt (fd := fd) (body := .Expr (.Call (.Attribute (.Call (.Name "super" p0) [] [] p1) "__init__" p2) [arg] [] p3) p4 :: rest) (binds := ps.zip us) hr.depth (KX _ _ hf) rfl lim
    (by rw [efd]; exact PySem.W.codeRec_of KX S.cod) (by rw [efd]) hb (by rw [efd]; exact Z.nocell) (by rw [efd]; exact fun y hy => Z.par _ (List.of_mem_zip (show (y.1, y.2) ∈ ps.zip us from hy)).1) (fun h0 hns hk => ?_) (by rw [efd]; exact Z.co) (by rw [efd]; exact Z.gen) (by rw [efd]; exact Z.kind)
  have I : Inv (cxSup CX P w K mg base ps q scope fI cda cc A outer s H E) [] (start ps vs) H { s with heap := h0, toks := s.toks + (ps.zip us).length } := sup_start S Z hr.hd e0 hl r hns hk
  have ee : callEnv fd s.heap.objs.size fI = PySem.W.ksEnv q scope s.heap.objs.size fI (.ref cda) cc := by rw [efd]; rfl
  rw [ee]
  refine ks_wpAt_execs_cons (ks_wpAt_mono (sup_first S Z hp (List.mem_of_getElem? hps) I hns (look_rev ps us 0 _ _ Z.nd hps hu0) he ha hq (hs _) (hi _) (hsw _) (hev _)) (fun f s1 h1 => ?_) fun e s1 h1 => h1)
  obtain ⟨rfl, H1, I1, e1, q1⟩ := h1
  refine wpAt_of_wpAny (wpAny_mono (hr2.run [] s1 (start ps vs) H1 _ I1 q1) (fun fl s2 h2 => ?_) fun e s2 h2 => h2)
  cases fl with
  | ret u =>
    obtain ⟨v, σ', H', J, rv, z⟩ := h2
    exact ⟨v, H', J.os, J.bare, J.base, J.hok, rv, z⟩
  | next =>
    obtain ⟨σ', H', J, z⟩ := h2
    exact ⟨V.non, H', J.os, J.bare, J.base, J.hok, rfl, z⟩
  | brk => obtain ⟨_, _, _, z⟩ := h2; exact z.elim
  | cont => obtain ⟨_, _, _, z⟩ := h2; exact z.elim
end
end SxK

set_option Elab.async false
set_option linter.all false
set_option maxRecDepth 100000
set_option maxHeartbeats 2000000
namespace SxK
open PySem PySem.Spec PyProof.Rows L2
/-! ### facts of own exceptions, read at the head -/
def oexB (K : PySem.W.Frag) (C : Addr) : Bool := match K.lookup C with
  | some ⟨.type "type", _, .cls cd, sl⟩ => (match cd.mro, sl.toList with
    | .ref C' :: bm, [_, _, _, _, some (.builtin n), _] => decide (C' = C) && (decide (n = "ValueError.__new__") && (!cd.hasDel && (cd.hasDict && PySem.HandSPX.refsVE bm)))
    | _, _ => false)
  | _ => false
theorem oexB_ok {K : PySem.W.Frag} {C : Addr} (h : oexB K C = true) :
    ∃ nm q N bs bm sn sub ab col dd k0 k1 k2 k3 k5, K.lookup C = some (excClassObj nm q C N bs bm true sn sub ab col dd k0 k1 k2 k3 k5 "ValueError.__new__") ∧ PySem.HandSPX.refsVE bm = true := by
  unfold oexB at h
  split at h
  · rename_i dd cd sl ho
    split at h
    · rename_i C' bm k0 k1 k2 k3 n k5 hm hs
      obtain ⟨nm, bs, mro, ns, qn, hd, sn, sb, ab, col, del⟩ := cd
      obtain ⟨l⟩ := sl
      have hs' : l = [k0, k1, k2, k3, some (.builtin n), k5] := hs
      have hm' : mro = .ref C' :: bm := hm
      subst hs' hm'
      obtain ⟨h1, h⟩ := Bool.and_eq_true_iff.mp h
      obtain ⟨h2, h⟩ := Bool.and_eq_true_iff.mp h
      obtain ⟨h3, h⟩ := Bool.and_eq_true_iff.mp h
      obtain ⟨h4, h5⟩ := Bool.and_eq_true_iff.mp h
      have h1' := of_decide_eq_true h1
      have h2' := of_decide_eq_true h2
      have h3' : del = false := by simpa using h3
      have h4' : hd = true := h4
      subst h1' h2' h3' h4'
      exact ⟨_, _, _, _, _, _, _, _, _, _, _, _, _, _, _, ho, h5⟩
    · cases h
  · cases h
abbrev FnS : Type := Option (Str × Str × Arguments × FuncBody × Scope × Addr × Addr)
/-- one such class: its name, its __init__ -/
structure SupD where
  cls : Str
  qual : Str
  params : Arguments
  body : List Stmt
  scope : Scope
  file : Str
  ats : List Str
  no : List Str
def SupD.I (K : PySem.W.Frag) (d : SupD) : Addr := He.ma K (He.ga K d.cls) "__init__"
def SupD.obs (K : PySem.W.Frag) (d : SupD) : FnS := match K.lookup (d.I K) with
  | some ⟨_, _, .func fd, _⟩ => some (fd.name, fd.qualname, fd.params, fd.body, fd.scope, fd.globals, fd.builtins)
  | _ => none
def SupD.val (d : SupD) : FnS := some ("__init__", d.qual, d.params, .stmts d.body, d.scope, mainGlobals, builtinsNs)
def SupD.fnB (K : PySem.W.Frag) (d : SupD) : Bool := match K.lookup (d.I K) with
  | some ⟨_, _, .func fd, _⟩ => (match fd.defaults, fd.code, fd.closure with
    | .none, .ref cda, [(n, cc)] => decide (n = "__class__") && (PySem.W.codeIn K (.ref cda) d.qual && ((match K.lookup cda with
        | some ⟨_, _, .fields vs, _⟩ => (match vs[2]? with
          | some (Value.str f _) => decide (f = d.file)
          | _ => false)
        | _ => false) && (match K.lookup cc with
        | some ⟨_, _, .cell (some (.ref D)), _⟩ => decide (D = He.ga K d.cls)
        | _ => false)))
    | _, _, _ => false)
  | _ => false
def SupD.ok (K : PySem.W.Frag) (d : SupD) : Bool :=
  oexB K (He.ga K d.cls) && (xfB K (He.ga K d.cls) && (d.fnB K && (He.eqO (PySem.W.findIn K (.ref (He.ga K d.cls)) "__setattr__") (some (some (.builtin "object.__setattr__"))) && (
  decide (PySem.W.subIn K (.ref (He.ga K d.cls)) (.type "BaseException") = some true) && (decide (PySem.W.typeIn K (.ref (He.ga K d.cls)) = some (.type "type")) && (PySem.W.keepIn K (.ref (He.ga K d.cls)) && (
  He.eqO (PySem.W.nsIn K cStatics "thirdparty.any") (some none) && (He.eqO (PySem.W.ks_superIn K (He.ga K d.cls) (He.ga K d.cls) "__init__") (some (some (.builtin "ValueError.__init__"))) && (
  decide (PySem.W.mroIn K (He.ga K d.cls) (.ref (He.ga K d.cls)) = some true) && (decide (PySem.W.subIn K (.ref (He.ga K d.cls)) (.type "ValueError") = some true) && (He.eqO (PySem.W.nsIn K mainGlobals "super") (some none) && (
  He.eqO (PySem.W.findIn K (.ref (He.ga K d.cls)) "__init__") (some (some (.ref (d.I K)))) && (decide (PySem.W.typeIn K (.ref (d.I K)) = some (.type "function")) && (He.eqO (PySem.W.nsIn K mainGlobals d.cls) (some (some (.ref (He.ga K d.cls)))) && (
  decide (PySem.W.exmOne K (.ref (He.ga K d.cls)) (.ref (He.ga K d.cls)) = some true) &&
  ((d.no.all fun c => decide (PySem.W.exmOne K (.ref (He.ga K d.cls)) (.ref (He.ga K c)) = some false)) && d.ats.all fun f => He.eqO (PySem.W.findIn K (.ref (He.ga K d.cls)) f) (some none)))))))))))))))))
/-- what is known of such a class -/
structure ErrC (P : Program) (K : PySem.W.Frag) (mg : Str → Option Value) (d : SupD) : Prop where
  sup : ∃ cc cda fd, SupC P K mg (He.ga K d.cls) (d.I K) cc cda "__init__" d.qual d.params d.body d.scope fd
  xf : XfC K (He.ga K d.cls)
  glob : mg d.cls = some (.ref (He.ga K d.cls))
  exm : PySem.W.exmOne K (.ref (He.ga K d.cls)) (.ref (He.ga K d.cls)) = some true
  ats : ∀ f ∈ d.ats, PySem.W.findIn K (.ref (He.ga K d.cls)) f = some none
  no : ∀ c ∈ d.no, PySem.W.exmOne K (.ref (He.ga K d.cls)) (.ref (He.ga K c)) = some false
theorem SupD.err {P : Program} {K : PySem.W.Frag} {mg : Str → Option Value} {d : SupD} {h : Heap} (X : K.In h) (G : h.Ns mainGlobals mg) (e : d.obs K = d.val) (c : d.ok K = true) (hfile : P.main.file = d.file)
    (htop : (P.main.scope.names.lookup ("super" : Str)).isSome = false) : ErrC P K mg d := by
  unfold SupD.ok at c
  obtain ⟨c1, c⟩ := He.ba c
  obtain ⟨c2, c⟩ := He.ba c
  obtain ⟨c3, c⟩ := He.ba c
  obtain ⟨c4, c⟩ := He.ba c
  obtain ⟨c5, c⟩ := He.ba c
  obtain ⟨c6, c⟩ := He.ba c
  obtain ⟨c7, c⟩ := He.ba c
  obtain ⟨c8, c⟩ := He.ba c
  obtain ⟨c9, c⟩ := He.ba c
  obtain ⟨c10, c⟩ := He.ba c
  obtain ⟨c11, c⟩ := He.ba c
  obtain ⟨c12, c⟩ := He.ba c
  obtain ⟨c13, c⟩ := He.ba c
  obtain ⟨c14, c⟩ := He.ba c
  obtain ⟨c15, c⟩ := He.ba c
  obtain ⟨c16, c⟩ := He.ba c
  obtain ⟨c18, c17⟩ := He.ba c
  refine ⟨?_, xfB_ok c2, PySem.W.mg_of X G (He.eqO_ok c15), of_decide_eq_true c16, fun f hf => He.eqO_ok (List.all_eq_true.mp c17 f hf), fun c hc => of_decide_eq_true (List.all_eq_true.mp c18 c hc)⟩
  have ex : OexC K (He.ga K d.cls) := ⟨oexB_ok c1, He.eqO_ok c4, of_decide_eq_true c5, of_decide_eq_true c6, c7⟩
  unfold SupD.fnB at c3
  unfold SupD.obs at e
  split at c3
  · rename_i o1 o2 fd o3 ho
    rw [ho] at e
    split at c3
    · rename_i cda n cc e1 e2 e3
      obtain ⟨d1, c3⟩ := He.ba c3
      obtain ⟨d2, c3⟩ := He.ba c3
      obtain ⟨d3, d4⟩ := He.ba c3
      obtain ⟨n1, n2, n3, n4, n5, n6, n7, n8, n9, n10, n11, n12, n13, n14, n15⟩ := fd
      have e4 : (some (n1, n2, n3, n4, n5, n6, n15) : FnS) = (some ("__init__", d.qual, d.params, .stmts d.body, d.scope, mainGlobals, builtinsNs) : FnS) := e
      simp only [Option.some.injEq, Prod.mk.injEq] at e4
      obtain ⟨h1, h2, h3, h4, h5, h6, h7⟩ := e4
      have e1' : n8 = .none := e1
      have e2' : n13 = .ref cda := e2
      have e3' : n7 = [(n, cc)] := e3
      have d1' := of_decide_eq_true d1
      subst h1 h2 h3 h4 h5 h6 h7 e1' e2' e3' d1'
      refine ⟨cc, cda, _, ex, ⟨_, _, _, _, _, _, _, _, rfl, ho⟩, d2, ?_, ?_, He.eqO_ok c8, He.eqO_ok c9, of_decide_eq_true c10, of_decide_eq_true c11, PySem.W.mg_none_of X G (He.eqO_ok c12), htop, He.eqO_ok c13, of_decide_eq_true c14⟩
      · split at d3
        · rename_i a1 a2 vs a3 ha
          split at d3
          · rename_i f t hv
            exact ⟨_, _, _, _, t, f, ha, hv, by rw [hfile, of_decide_eq_true d3]; simp⟩
          · cases d3
        · cases d3
      · split at d4
        · rename_i a1 a2 D a3 ha
          have eD := of_decide_eq_true d4
          subst eD
          exact ⟨_, _, _, ha⟩
        · cases d4
    · cases c3
  · cases c3
/-! ### the Hook with such classes -/
abbrev AlX : Type := He.AlD × (Bool × List FnS)
def obsX (fa : List He.Fa) (fn : List He.DefD) (xs : List SupD) (K : PySem.W.Frag) : AlX := (He.obsD fa fn K, xs.all fun d => d.ok K, xs.map fun d => d.obs K)
def valX (fn : List He.DefD) (xs : List SupD) : AlX := (He.valD fn, true, xs.map SupD.val)
def SaysX (fa : List He.Fa) (fn : List He.DefD) (xs : List SupD) (K : PySem.W.Frag) : Prop := obsX fa fn xs K = valX fn xs
def obsXG (n : Nat) (fa : List He.Fa) (fn : List He.DefD) (xs : List SupD) (g : Addr → Option Obj) : AlX := obsX fa fn xs (He.frG g (He.asD g n ++ [cStatics]))
def hookX (n : Nat) (fa : List He.Fa) (fn : List He.DefD) (xs : List SupD) : PySem.W.Hook where
  α := AlX
  obs := fun s => obsXG n fa fn xs s.heap.get?
  val := fun _ => valX fn xs
  says := fun _ h => ∃ K : PySem.W.Frag, K.In h ∧ SaysX fa fn xs K
  of := fun _ _ e => ⟨_, He.frG_in, e⟩
  keeps := fun _ _ _ ⟨K, hK, c⟩ k => ⟨K, PySem.W.Frag.In.keeps hK k, c⟩
theorem obsXG_eq {n : Nat} {fa : List He.Fa} {fn : List He.DefD} {xs : List SupD} {g : Addr → Option Obj} {s : Shared} (h : ∀ a, g a = s.heap.get? a) : obsXG n fa fn xs g = (hookX n fa fn xs).obs s := by
  have e : g = s.heap.get? := funext h
  rw [e] <;> rfl
section
variable {fa : List He.Fa} {fn : List He.DefD} {xs : List SupD} {K : PySem.W.Frag}
theorem SaysX.d (c : SaysX fa fn xs K) : He.SaysD fa fn K := congrArg (fun z : AlX => z.1) c
theorem SaysX.sup (c : SaysX fa fn xs K) (i : Nat) {d : SupD} (h : xs[i]? = some d := by rfl) : d.obs K = d.val ∧ d.ok K = true := by
  have c1 : (xs.all fun d => d.ok K) = true := congrArg (fun z : AlX => z.2.1) c
  have c2 : xs.map (fun d => d.obs K) = xs.map SupD.val := congrArg (fun z : AlX => z.2.2) c
  have e2 : (xs.map fun d => d.obs K)[i]? = (xs.map SupD.val)[i]? := by rw [c2]
  rw [List.getElem?_map, List.getElem?_map, h] at e2
  exact ⟨Option.some.inj e2, List.all_eq_true.mp c1 d (List.mem_of_getElem? h)⟩
end
end SxK

set_option Elab.async false
set_option linter.all false
set_option maxRecDepth 100000
set_option maxHeartbeats 2000000
namespace SxK
open PySem PySem.Spec PyProof.Rows L2
/-! ### the Hook with dicts and tuples of the top, and with own exceptions without an own __init__ -/
abbrev TabK : Type := Str × List (Str × He.Dv)
abbrev TupK : Type := Str × List He.Dv
/-- an own exception class without an own __init__ -/
def pexB (K : PySem.W.Frag) (x : Str) : Bool :=
  PySem.W.excIn K (He.ga K x) He.veBase "ValueError.__new__" && (PySem.W.keepIn K (.ref (He.ga K x)) && (decide (PySem.W.subIn K (.ref (He.ga K x)) (.type "BaseException") = some true) && (decide (PySem.W.typeIn K (.ref (He.ga K x)) = some (.type "type")) && (
  decide (PySem.W.exmOne K (.ref (He.ga K x)) (.ref (He.ga K x)) = some true) && (He.eqO (PySem.W.nsIn K mainGlobals x) (some (some (.ref (He.ga K x)))) && (
  He.eqO (PySem.W.findIn K (.ref (He.ga K x)) "__getattribute__") (some (some (.builtin "BaseException.__getattribute__"))) && (He.eqO (PySem.W.findIn K (.ref (He.ga K x)) "__getattr__") (some none) && (
  PySem.W.hasDictIn K (He.ga K x) && (He.eqO (PySem.W.findIn K (.ref (He.ga K x)) "__class__") (some (some (.builtin "object.__class__"))) && (He.eqO (PySem.W.specialIn K (.builtin "object.__class__") "__get__") (some (some (.builtin "getset_descriptor.__get__"))) && (
  decide (PySem.W.takesIn K (.builtin "object.__class__") = some true) && (decide (PySem.W.mroIn K (He.ga K x) (.type "object") = some true) && decide (PySem.W.kitOne K (.ref (He.ga K x)) (.type "ValueError") = some true)))))))))))))
structure PexC (K : PySem.W.Frag) (mg : Str → Option Value) (x : Str) : Prop where
  exc : PySem.W.excIn K (He.ga K x) He.veBase "ValueError.__new__" = true
  keep : PySem.W.keepIn K (.ref (He.ga K x)) = true
  sub : PySem.W.subIn K (.ref (He.ga K x)) (.type "BaseException") = some true
  ty : PySem.W.typeIn K (.ref (He.ga K x)) = some (.type "type")
  exm : PySem.W.exmOne K (.ref (He.ga K x)) (.ref (He.ga K x)) = some true
  glob : mg x = some (.ref (He.ga K x))
  exC : ExcC K (He.ga K x)
  kit : PySem.W.kitOne K (.ref (He.ga K x)) (.type "ValueError") = some true
theorem pexB_ok {K : PySem.W.Frag} {mg : Str → Option Value} {x : Str} {h : Heap} (X : K.In h) (G : h.Ns mainGlobals mg) (c : pexB K x = true) : PexC K mg x := by
  unfold pexB at c
  obtain ⟨c1, c⟩ := He.ba c
  obtain ⟨c2, c⟩ := He.ba c
  obtain ⟨c3, c⟩ := He.ba c
  obtain ⟨c4, c⟩ := He.ba c
  obtain ⟨c5, c⟩ := He.ba c
  obtain ⟨c6, c⟩ := He.ba c
  obtain ⟨c7, c⟩ := He.ba c
  obtain ⟨c8, c⟩ := He.ba c
  obtain ⟨c9, c⟩ := He.ba c
  obtain ⟨c10, c⟩ := He.ba c
  obtain ⟨c11, c⟩ := He.ba c
  obtain ⟨c12, c⟩ := He.ba c
  obtain ⟨c13, c14⟩ := He.ba c
  exact ⟨c1, c2, of_decide_eq_true c3, of_decide_eq_true c4, of_decide_eq_true c5, PySem.W.mg_of X G (He.eqO_ok c6), ⟨He.eqO_ok c7, He.eqO_ok c8, of_decide_eq_true c3, c9, He.eqO_ok c10, He.eqO_ok c11, of_decide_eq_true c12, of_decide_eq_true c13⟩, of_decide_eq_true c14⟩
abbrev AlXU : Type := AlX × ((Bool × Bool × Bool) × List (Option (List (Option (Str × Int)))))
def obsXU (fa : List He.Fa) (fn : List He.DefD) (xs : List SupD) (ts : List TabK) (us : List TupK) (ys : List Str) (K : PySem.W.Frag) : AlXU :=
  (obsX fa fn xs K, (ts.all (fun t => He.valsB K (He.ga K t.1) t.2), us.all (fun t => He.tupB K t.1 t.2), ys.all fun x => pexB K x), ts.map fun t => He.dicW K (He.ga K t.1))
def valXU (fn : List He.DefD) (xs : List SupD) (ts : List TabK) (w : World) : AlXU := (valX fn xs, (true, true, true), ts.map fun t => some (He.keysIn w.params (t.2.map (·.1))))
def SaysXU (fa : List He.Fa) (fn : List He.DefD) (xs : List SupD) (ts : List TabK) (us : List TupK) (ys : List Str) (w : World) (K : PySem.W.Frag) : Prop := obsXU fa fn xs ts us ys K = valXU fn xs ts w
def obsXUG (n : Nat) (fa : List He.Fa) (fn : List He.DefD) (xs : List SupD) (ts : List TabK) (us : List TupK) (ys : List Str) (g : Addr → Option Obj) : AlXU := obsXU fa fn xs ts us ys (He.frG g (He.asD g n ++ [cStatics]))
def hookXU (n : Nat) (fa : List He.Fa) (fn : List He.DefD) (xs : List SupD) (ts : List TabK) (us : List TupK) (ys : List Str) : PySem.W.Hook where
  α := AlXU
  obs := fun s => obsXUG n fa fn xs ts us ys s.heap.get?
  val := fun w => valXU fn xs ts w
  says := fun w h => ∃ K : PySem.W.Frag, K.In h ∧ SaysXU fa fn xs ts us ys w K
  of := fun _ _ e => ⟨_, He.frG_in, e⟩
  keeps := fun _ _ _ ⟨K, hK, c⟩ k => ⟨K, PySem.W.Frag.In.keeps hK k, c⟩
theorem obsXUG_eq {n : Nat} {fa : List He.Fa} {fn : List He.DefD} {xs : List SupD} {ts : List TabK} {us : List TupK} {ys : List Str} {g : Addr → Option Obj} {s : Shared} (h : ∀ a, g a = s.heap.get? a) : obsXUG n fa fn xs ts us ys g = (hookXU n fa fn xs ts us ys).obs s := by
  have e : g = s.heap.get? := funext h
  rw [e] <;> rfl
/-- z is a key of the written dict at a: b -/
def KIn (K : PySem.W.Frag) (w : World) (a : Addr) (z : Str) (b : Bool) : Prop := ∃ es n r, K.lookup a = some ⟨.type "dict", none, .dict es n, #[]⟩ ∧ PySem.W.KeysLit w.params es.toList ∧ (a == sysModules) = false ∧ PySem.W.nsIn K a z = some r ∧ r.isSome = b
theorem low_of {K : PySem.W.Frag} {a : Addr} {l : List (Option (Str × Int))} (h : He.dicW K a = some l) : (a == sysModules) = false := by
  unfold He.dicW at h
  split at h
  · split at h
    · rename_i hb
      obtain ⟨_, hb⟩ := He.ba hb
      obtain ⟨_, hb⟩ := He.ba hb
      simpa using hb
    · cases h
  · cases h
theorem entries_of {K : PySem.W.Frag} {a : Addr} {l : List (Option (Str × Int))} (h : He.dicW K a = some l) : ∃ oc od es n sl, K.lookup a = some ⟨oc, od, .dict es n, sl⟩ ∧ es.toList.map He.keyOf = l := by
  unfold He.dicW at h
  split at h
  · rename_i c es n sl hl
    split at h
    · exact ⟨_, _, es, n, sl, hl, Option.some.inj h⟩
    · cases h
  · cases h
theorem miss_of {K : PySem.W.Frag} {w : World} {a : Addr} {ks : List Str} {z : Str} (h : He.dicW K a = some (He.keysIn w.params ks)) (hz : z ∉ ks) : PySem.W.nsIn K a z = some none := by
  obtain ⟨oc, od, es, n, sl, hl, he⟩ := entries_of h
  have key : ∀ e ∈ es.toList, ∃ k t, e.key = .str k t ∧ k ∈ ks := fun e hm => by
    have : He.keyOf e ∈ He.keysIn w.params ks := by rw [← he]; exact List.mem_map.mpr ⟨e, hm, rfl⟩
    obtain ⟨k, hk, ek⟩ := List.mem_map.mp this
    unfold He.keyOf at ek
    split at ek
    · rename_i x t q
      have e2 := Option.some.inj ek
      exact ⟨x, t, q, by rw [← (Prod.mk.inj e2).1]; exact hk⟩
    · cases ek
  unfold PySem.W.nsIn
  rw [hl]
  dsimp only
  have f1 : es.toList.find? (fun e => e.key.isStr z) = none := by
    rw [List.find?_eq_none]
    intro e hm q
    obtain ⟨k, t, ek, hk⟩ := key e hm
    rw [ek] at q
    have : k = z := by simpa [Value.isStr] using q
    exact hz (by rw [← this]; exact hk)
  have f2 : es.toList.any (fun e => e.refKey) = false := by
    rw [List.any_eq_false]
    intro e hm q
    obtain ⟨k, t, ek, hk⟩ := key e hm
    simp [DictEntry.refKey, ek] at q
  rw [f1, f2]
  rfl
def rInKD (K : PySem.W.Frag) (w : World) : R2 := fun x y H Q => ∃ (p : Addr) (z : Str) (b : Bool), x = .str z ∧ y = .ref p ∧ KIn K w p z b ∧ Q (.bl b) H
theorem op_inKD {X : Cx} {K : PySem.W.Frag} {w : World} (hK : X.K = K) (hw : X.w = w) : OpR X (compareOp .In) (rInKD K w) := by
  subst hK
  subst hw
  intro pins s σ H x y v u Q I rx ry h
  obtain ⟨p, z, b, rfl, rfl, ⟨es, n, r, hl, hk, lo, e, eb⟩, q⟩ := h
  obtain ⟨t, rfl⟩ := (show ∃ t, v = Value.str z t from rx)
  obtain rfl : u = Value.ref p := ry
  have hm := PySem.W.mapOf_K (prog := X.prog) (w := X.w) I.kIn hl hk
  refine wpAny_in_of (strKind_is X.prog X.w z t) lo hm ?_
  rw [PySem.W.find_K hl e, eb]
  exact ⟨.bl b, H, I.tok _, rfl, q⟩
section
variable {fa : List He.Fa} {fn : List He.DefD} {xs : List SupD} {ts : List TabK} {us : List TupK} {ys : List Str} {w : World} {K : PySem.W.Frag}
theorem SaysXU.x (c : SaysXU fa fn xs ts us ys w K) : SaysX fa fn xs K := congrArg (fun z : AlXU => z.1) c
theorem SaysXU.dic (c : SaysXU fa fn xs ts us ys w K) (i : Nat) {t : TabK} (h : ts[i]? = some t) : He.dicW K (He.ga K t.1) = some (He.keysIn w.params (t.2.map (·.1))) := by
  have e : ts.map (fun t => He.dicW K (He.ga K t.1)) = ts.map fun t => some (He.keysIn w.params (t.2.map (·.1))) := congrArg (fun z : AlXU => z.2.2) c
  have e2 : (ts.map (fun t => He.dicW K (He.ga K t.1)))[i]? = (ts.map fun t => some (He.keysIn w.params (t.2.map (·.1))))[i]? := by rw [e]
  rw [List.getElem?_map, List.getElem?_map, h] at e2
  exact Option.some.inj e2
theorem SaysXU.val (c : SaysXU fa fn xs ts us ys w K) (i : Nat) {t : TabK} (h : ts[i]? = some t) : He.valsB K (He.ga K t.1) t.2 = true := by
  have e1 : ts.all (fun t => He.valsB K (He.ga K t.1) t.2) = true := congrArg (fun z : AlXU => z.2.1.1) c
  exact List.all_eq_true.mp e1 t (List.mem_of_getElem? h)
theorem SaysXU.tab (c : SaysXU fa fn xs ts us ys w K) (i : Nat) {t : TabK} (h : ts[i]? = some t) {x : Str} {d : He.Dv} (hx : (x, d) ∈ t.2) : KDct K w (He.ga K t.1) x (d.v K) := by
  obtain ⟨es, n, k⟩ := He.dicW_ok (c.dic i h)
  obtain ⟨u, q1, q2⟩ := He.valsB_ok (c.val i h) hx
  exact ⟨es, n, u, k.at_, k.lit, q1, q2⟩
theorem SaysXU.has (c : SaysXU fa fn xs ts us ys w K) (i : Nat) {t : TabK} (h : ts[i]? = some t) (z : Str) : KIn K w (He.ga K t.1) z (decide (z ∈ t.2.map (·.1))) := by
  obtain ⟨es, n, k⟩ := He.dicW_ok (c.dic i h)
  by_cases q : z ∈ t.2.map (·.1)
  · obtain ⟨⟨x, d⟩, hm, rfl⟩ := List.mem_map.mp q
    obtain ⟨u, q1, _⟩ := He.valsB_ok (c.val i h) hm
    exact ⟨es, n, some u, k.at_, k.lit, low_of (c.dic i h), q1, by rw [decide_eq_true q]; rfl⟩
  · exact ⟨es, n, none, k.at_, k.lit, low_of (c.dic i h), miss_of (c.dic i h) q, by rw [decide_eq_false q]; rfl⟩
theorem SaysXU.tup (c : SaysXU fa fn xs ts us ys w K) (i : Nat) {t : TupK} (h : us[i]? = some t) (H : Hp) : SqT K H (He.ga K t.1) (t.2.map (He.Dv.v K)) := by
  have e1 : us.all (fun t => He.tupB K t.1 t.2) = true := congrArg (fun z : AlXU => z.2.1.2.1) c
  exact He.tupB_ok (List.all_eq_true.mp e1 t (List.mem_of_getElem? h)) H
theorem SaysXU.pex (c : SaysXU fa fn xs ts us ys w K) (i : Nat) {x : Str} (h : ys[i]? = some x) {hp : Heap} {mg : Str → Option Value} (X : K.In hp) (G : hp.Ns mainGlobals mg) : PexC K mg x := by
  have e1 : (ys.all fun x => pexB K x) = true := congrArg (fun z : AlXU => z.2.1.2.2) c
  exact pexB_ok X G (List.all_eq_true.mp e1 x (List.mem_of_getElem? h))
end
/-! ### X() -/
theorem raises_of {X : Cx} {mg : Str → Option Value} {x : Str} (c : PexC X.K mg x) : Raises X (.ref (He.ga X.K x)) := fun _ _ hK => ⟨PySem.W.looks_subIn hK c.sub, PySem.W.looks_typeIn hK c.ty⟩
theorem pmk_own0 {X : Cx} {x : Str} {p pos : Pos} (c : PexC X.K X.mg x) (hg : Gl X x) (hdb : (x == ("__debug__" : Str)) = false := by decide) : PMk X (.Call (.Name x p) [] [] pos) (fun _ H Q => Q (.ref (He.ga X.K x)) none H) := by
  intro pins s σ H Q I h
  refine wpAny_Call_Name_kw (ld_glob I hg c.glob ?_ hdb)
  refine PySem.W.callWith_K0 I.kIn c.keep ?_
  show wpAny _ _ (call (.ref (He.ga X.K x)) []) _ _ _
  obtain ⟨bm, N, nm, qn, bs, hdct, sn, sub, ab, col, dd, k0, k1, k2, k3, k5, mN, hC, hN, hni, T⟩ := exc_obj I.kIn c.exc
  refine wpAny_call_exc_subT PySem.F.excBase_ValueError T hC hN hni (fun h' e hm => ?_) (Nat.zero_le _)
  exact mk_of I hm (raises_of c) h (I.hok.gone hm.new)
end SxK

set_option Elab.async false
set_option linter.all false
set_option maxRecDepth 100000
set_option maxHeartbeats 0
namespace Sx
open PySem PySem.Spec PyProof.Rows L2
/-! ### the text by places -/
def top (i : Nat) : Stmt := PySem.Challenge.pw_sixdot_k50_whole_presses_press_each_shee.main.body.getD i (.Pass ⟨0, 0, 0, 0⟩)
abbrev sStrangeSheetInit : Stmt := inClass (top 6) 0
abbrev sNotMissingInit : Stmt := inClass (top 7) 0
abbrev sHeapInit : Stmt := inClass (top 11) 0
abbrev sHeapDrop : Stmt := inClass (top 11) 1
abbrev sHeapFall : Stmt := inClass (top 11) 2
abbrev sHeapSheets : Stmt := inClass (top 11) 3
abbrev sHeapDropped : Stmt := inClass (top 11) 4
abbrev sPressInit : Stmt := inClass (top 14) 0
abbrev sPressStep : Stmt := inClass (top 14) 1
abbrev sPressJam : Stmt := inClass (top 14) 2
abbrev sPressJournal : Stmt := inClass (top 14) 3
abbrev sPressInside : Stmt := inClass (top 14) 4
abbrev sNumberWord : Stmt := top 3
abbrev sNoteOf : Stmt := top 12
abbrev sNotedIn : Stmt := top 13
abbrev sMissing : Stmt := top 16
abbrev sFilled : Stmt := top 17
abbrev sLawMix : Stmt := top 19
abbrev sLawNumbers : Stmt := top 20
abbrev sLawTake : Stmt := top 21
abbrev sLawDue : Stmt := top 22
abbrev sLawInside : Stmt := top 23
abbrev sLawLines : Stmt := top 24
abbrev sLawRefused : Stmt := top 25
abbrev sLawDeed : Stmt := top 26
abbrev sLaw : Stmt := top 27
/-! ### the head: facts by names, the run -/
def dHeapInit : He.DefD := ⟨("Heap", some "__init__"), "__init__", "Heap.__init__", defArgs sHeapInit, defBody sHeapInit, defScope sHeapInit, [], []⟩
def dHeapDrop : He.DefD := ⟨("Heap", some "drop"), "drop", "Heap.drop", defArgs sHeapDrop, defBody sHeapDrop, defScope sHeapDrop, [], []⟩
def dHeapFall : He.DefD := ⟨("Heap", some "fall"), "fall", "Heap.fall", defArgs sHeapFall, defBody sHeapFall, defScope sHeapFall, [], []⟩
def dHeapSheets : He.DefD := ⟨("Heap", some "sheets"), "sheets", "Heap.sheets", defArgs sHeapSheets, defBody sHeapSheets, defScope sHeapSheets, [], []⟩
def dHeapDropped : He.DefD := ⟨("Heap", some "dropped"), "dropped", "Heap.dropped", defArgs sHeapDropped, defBody sHeapDropped, defScope sHeapDropped, [], []⟩
def dPressInit : He.DefD := ⟨("Press", some "__init__"), "__init__", "Press.__init__", defArgs sPressInit, defBody sPressInit, defScope sPressInit, [], [("journal", .str "")]⟩
def dPressStep : He.DefD := ⟨("Press", some "step"), "step", "Press.step", defArgs sPressStep, defBody sPressStep, defScope sPressStep, [], []⟩
def dPressJam : He.DefD := ⟨("Press", some "jam"), "jam", "Press.jam", defArgs sPressJam, defBody sPressJam, defScope sPressJam, [], []⟩
def dPressJournal : He.DefD := ⟨("Press", some "journal"), "journal", "Press.journal", defArgs sPressJournal, defBody sPressJournal, defScope sPressJournal, [], []⟩
def dPressInside : He.DefD := ⟨("Press", some "inside"), "inside", "Press.inside", defArgs sPressInside, defBody sPressInside, defScope sPressInside, [], []⟩
def dNumberWord : He.DefD := ⟨("number_word", none), "number_word", "number_word", defArgs sNumberWord, defBody sNumberWord, defScope sNumberWord, [], []⟩
def dNoteOf : He.DefD := ⟨("note_of", none), "note_of", "note_of", defArgs sNoteOf, defBody sNoteOf, defScope sNoteOf, [], []⟩
def dNotedIn : He.DefD := ⟨("noted_in", none), "noted_in", "noted_in", defArgs sNotedIn, defBody sNotedIn, defScope sNotedIn, [], []⟩
def dMissing : He.DefD := ⟨("missing", none), "missing", "missing", defArgs sMissing, defBody sMissing, defScope sMissing, [], []⟩
def dFilled : He.DefD := ⟨("filled", none), "filled", "filled", defArgs sFilled, defBody sFilled, defScope sFilled, [], []⟩
def dLawMix : He.DefD := ⟨("_law_mix", none), "_law_mix", "_law_mix", defArgs sLawMix, defBody sLawMix, defScope sLawMix, [], []⟩
def dLawNumbers : He.DefD := ⟨("_law_numbers", none), "_law_numbers", "_law_numbers", defArgs sLawNumbers, defBody sLawNumbers, defScope sLawNumbers, [], []⟩
def dLawTake : He.DefD := ⟨("_law_take", none), "_law_take", "_law_take", defArgs sLawTake, defBody sLawTake, defScope sLawTake, [], []⟩
def dLawDue : He.DefD := ⟨("_law_due", none), "_law_due", "_law_due", defArgs sLawDue, defBody sLawDue, defScope sLawDue, [], []⟩
def dLawInside : He.DefD := ⟨("_law_inside", none), "_law_inside", "_law_inside", defArgs sLawInside, defBody sLawInside, defScope sLawInside, [], []⟩
def dLawLines : He.DefD := ⟨("_law_lines", none), "_law_lines", "_law_lines", defArgs sLawLines, defBody sLawLines, defScope sLawLines, [], []⟩
def dLawRefused : He.DefD := ⟨("_law_refused", none), "_law_refused", "_law_refused", defArgs sLawRefused, defBody sLawRefused, defScope sLawRefused, [], []⟩
def dLawDeed : He.DefD := ⟨("_law_deed", none), "_law_deed", "_law_deed", defArgs sLawDeed, defBody sLawDeed, defScope sLawDeed, [], []⟩
def dLaw : He.DefD := ⟨("law", none), "law", "law", defArgs sLaw, defBody sLaw, defScope sLaw, [], []⟩
def xStrangeSheet : SxK.SupD := ⟨"StrangeSheet", "StrangeSheet.__init__", defArgs sStrangeSheetInit, defBody sStrangeSheetInit, defScope sStrangeSheetInit, "/claim/cut.py", ["place"], ["NotMissing", "InvalidJournal"]⟩
def xNotMissing : SxK.SupD := ⟨"NotMissing", "NotMissing.__init__", defArgs sNotMissingInit, defBody sNotMissingInit, defScope sNotMissingInit, "/claim/cut.py", ["number"], ["StrangeSheet", "InvalidJournal"]⟩
def xs : List SxK.SupD := [xStrangeSheet, xNotMissing]
def fn : List He.DefD := [dHeapInit, dHeapDrop, dHeapFall, dHeapSheets, dHeapDropped, dPressInit, dPressStep, dPressJam, dPressJournal, dPressInside, dNumberWord, dNoteOf, dNotedIn, dMissing, dFilled, dLawMix, dLawNumbers, dLawTake, dLawDue, dLawInside, dLawLines, dLawRefused, dLawDeed, dLaw]
def fa : List He.Fa := [.glo "number_word", .glo "note_of", .glo "noted_in", .glo "missing", .glo "filled", .glo "_law_mix", .glo "_law_numbers", .glo "_law_take", .glo "_law_due", .glo "_law_inside", .glo "_law_lines", .glo "_law_refused", .glo "_law_deed", .glo "law", .free "ValueError", .free "abs", .free "divmod", .free "enumerate", .free "int", .free "len", .free "list", .free "range", .free "reversed", .free "sorted", .free "str", .free "super", .int "PART_DIGITS" 64, .int "PART" 10000000000000000000000000000000000000000000000000000000000000000, .glo "IN_PRESS", .glo "SixdotError", .glo "StrangeSheet", .glo "NotMissing", .glo "InvalidJournal", .glo "Heap", .cls "Heap", .mkr "Heap", .meth "Heap" "drop", .meth "Heap" "fall", .meth "Heap" "sheets", .meth "Heap" "dropped", .noat "Heap" "_lying", .noat "Heap" "_counter", .glo "Press", .cls "Press", .mkr "Press", .meth "Press" "step", .meth "Press" "jam", .meth "Press" "journal", .meth "Press" "inside", .noat "Press" "_wanted", .noat "Press" "_heap", .noat "Press" "_noted", .noat "Press" "_done"]
def loose0 : List Str := ["PART_DIGITS", "PART", "number_word", "SixdotError", "StrangeSheet", "NotMissing", "InvalidJournal", "IN_PRESS", "Heap", "note_of", "noted_in", "Press", "missing", "filled", "_law_mix", "_law_numbers", "_law_take", "_law_due", "_law_inside", "_law_lines", "_law_refused", "_law_deed"]
abbrev loose : List Str := loose0
abbrev R : PySem.W.OpenRow := PySem.W.OpenLaw.row PySem.Challenge.rw_sixdot_k50_whole_presses_press_each_shee
def ts : List SxK.TabK := []
def us : List SxK.TupK := [("IN_PRESS", [.str "feed", .str "front", .str "turn", .str "back"])]
def ys : List Str := ["InvalidJournal"]
abbrev hk : PySem.W.Hook := SxK.hookXU 5 fa fn xs ts us ys
def ob (s : PySem.W.SharedT) : SxK.AlXU := SxK.obsXUG 5 fa fn xs ts us ys (HandSHeadRun.getT s)
theorem ob_eq (s : PySem.W.SharedT) : ob s = hk.obs s.abs := SxK.obsXUG_eq (HandSHeadRun.getT_eq s)
abbrev RP (w : World) : Prop := HandSHeadRun.RunEq R (PySem.W.view R.prog [27]) hk ob 4000 loose w
theorem runF (w : World) : RP (w.withFollow "special-get-raises" false) := by
  intro os
  kernel_rfl
theorem runT (w : World) : RP (w.withFollow "special-get-raises" true) := by
  intro os
  kernel_rfl
theorem run (w : World) : RP w := PySem.W.byRow2 "special-get-raises" (P := RP) runF runT w
end Sx

set_option Elab.async false
set_option linter.all false
set_option maxRecDepth 100000
set_option maxHeartbeats 4000000
/-! rules that the layer lacks: len(set(text)), text * int, list(reversed(list)) -/
namespace SxA
open PySem PySem.Spec PyProof.Rows L2

/-! ### the different signs of a text, in the order in which they come -/
def stepD (acc : List Nat) (c : Nat) : List Nat := if c ∈ acc then acc else acc ++ [c]
def firsts (l : List Nat) : List Nat := l.foldl stepD []
theorem firsts_snoc (l : List Nat) (c : Nat) : firsts (l ++ [c]) = stepD (firsts l) c := by
  unfold firsts; rw [List.foldl_append]; rfl
theorem mem_step (acc : List Nat) (c k : Nat) : k ∈ stepD acc c ↔ k ∈ acc ∨ k = c := by
  unfold stepD
  by_cases h : c ∈ acc
  · rw [if_pos h]
    exact ⟨Or.inl, fun q => q.elim id fun e => by rw [e]; exact h⟩
  · rw [if_neg h, List.mem_append, List.mem_singleton]
theorem mem_fold : ∀ (l acc : List Nat) (k : Nat), k ∈ l.foldl stepD acc ↔ k ∈ acc ∨ k ∈ l
  | [], acc, k => by simp
  | c :: l, acc, k => by
    rw [List.foldl_cons, mem_fold l, mem_step, List.mem_cons]
    constructor
    · rintro ((h | h) | h)
      · exact .inl h
      · exact .inr (.inl h)
      · exact .inr (.inr h)
    · rintro (h | h | h)
      · exact .inl (.inl h)
      · exact .inl (.inr h)
      · exact .inr h
theorem mem_firsts (l : List Nat) (k : Nat) : k ∈ firsts l ↔ k ∈ l := by
  unfold firsts; rw [mem_fold]; simp
theorem firsts_take {l : List Nat} {i c : Nat} (h : l[i]? = some c) : firsts (l.take (i + 1)) = stepD (firsts (l.take i)) c := by
  rw [List.take_add_one, h]; exact firsts_snoc _ _
theorem firsts_count : ∀ (l : List Nat) (i : Nat), i ≤ l.length → (firsts (l.take i)).length ≤ i ∧ ((firsts (l.take i)).length = i ↔ (l.take i).Nodup)
  | l, 0, _ => by simp [firsts]
  | l, i + 1, hi => by
    have hc : l[i]? = some l[i] := List.getElem?_eq_getElem hi
    obtain ⟨a, b⟩ := firsts_count l i (by omega)
    rw [firsts_take hc]
    have et : l.take (i + 1) = l.take i ++ [l[i]] := by rw [List.take_add_one, hc]; rfl
    unfold stepD
    by_cases hm : l[i] ∈ firsts (l.take i)
    · rw [if_pos hm]
      refine ⟨by omega, fun q => by omega, fun nd => ?_⟩
      rw [et, List.nodup_append] at nd
      exact absurd rfl (nd.2.2 _ ((mem_firsts _ _).mp hm) _ (List.mem_singleton.mpr rfl))
    · rw [if_neg hm, List.length_append, List.length_singleton]
      refine ⟨by omega, ?_⟩
      rw [et, List.nodup_append]
      constructor
      · intro q
        refine ⟨b.mp (by omega), by simp, fun x hx y hy e => hm ?_⟩
        rw [List.mem_singleton] at hy
        rw [← hy, ← e]
        exact (mem_firsts _ _).mpr hx
      · intro q
        have := b.mpr q.1
        omega
/-- len(set(text)) -/
def kinds (z : Str) : Nat := (firsts z.cps.toList).length
theorem kinds_eq (z : Str) : kinds z = z.length ↔ z.cps.toList.Nodup := by
  have h := firsts_count z.cps.toList z.cps.toList.length (Nat.le_refl _)
  rw [List.take_length] at h
  have e : z.length = z.cps.toList.length := by simp [Str.length]
  unfold kinds
  rw [e]
  exact h.2
theorem kinds_le (z : Str) : kinds z ≤ z.length := by
  have h := firsts_count z.cps.toList z.cps.toList.length (Nat.le_refl _)
  rw [List.take_length] at h
  have e : z.length = z.cps.toList.length := by simp [Str.length]
  unfold kinds
  rw [e]
  exact h.1

/-! ### set(text) on the machine -/
abbrev sg (c : Nat) : Str := ⟨#[c]⟩
theorem sg_inj {a b : Nat} (h : sg a = sg b) : a = b := by
  have e : (#[a] : Array Nat) = #[b] := congrArg Str.cps h
  simpa using e
def hasD (l : List Nat) (k : Str) : Bool := l.any fun c => decide (k = sg c)
theorem hasD_sg (l : List Nat) (c : Nat) : hasD l (sg c) = decide (c ∈ l) := by
  unfold hasD
  by_cases h : c ∈ l
  · rw [decide_eq_true h]
    exact List.any_eq_true.mpr ⟨c, h, decide_eq_true rfl⟩
  · rw [decide_eq_false h]
    refine Bool.eq_false_iff.mpr fun q => ?_
    obtain ⟨d, hd, e⟩ := List.any_eq_true.mp q
    rw [sg_inj (of_decide_eq_true e)] at h
    exact h hd
theorem hasD_step (l : List Nat) (c : Nat) (k : Str) : hasD (stepD l c) k = (hasD l k || decide (k = sg c)) := by
  unfold stepD
  by_cases h : c ∈ l
  · rw [if_pos h]
    by_cases e : k = sg c
    · rw [e, hasD_sg, decide_eq_true h]
      rfl
    · rw [decide_eq_false e, Bool.or_false]
  · rw [if_neg h]
    unfold hasD
    rw [List.any_append]
    simp
theorem len_step (l : List Nat) (c : Nat) : (stepD l c).length = if hasD l (sg c) = true then l.length else l.length + 1 := by
  rw [hasD_sg]
  unfold stepD
  by_cases h : c ∈ l
  · rw [if_pos h, if_pos (decide_eq_true h)]
  · rw [if_neg h, if_neg (by rw [decide_eq_false h]; exact Bool.false_ne_true), List.length_append, List.length_singleton]
section
variable {prog : Program} {w : World} {A : Around} {E : Value → Shared → Prop}
/-- the set at S holds the signs l -/
def SetS (prog : Program) (w : World) (h : Heap) (S : Addr) (l : List Nat) : Prop := h.SetOf (strKind prog w) S (hasD l) l.length
theorem SetS.keep {h h' : Heap} {S : Addr} {l : List Nat} (p : SetS prog w h S l) (k : ∀ o, h.get? S = some o → h'.get? S = some o) : SetS prog w h' S l := by
  obtain ⟨o, es, ep, t, ho, r⟩ := p
  exact ⟨o, es, ep, t, k o ho, r⟩
theorem loopS {R : Result → Shared → Prop} {I : Addr} {fp wr : List Addr} {G : Array GenState → Array GenState → Prop} {x : Str} {St : Nat → Shared → Prop}
    (W : WalksS prog w A.in1 I fp wr G x.cps.size (SignAt x) St) (S : Addr) (away : S ∉ fp) (small : x.cps.size + 1 < scanBound) : ∀ (k i : Nat) (s : Shared), x.cps.size - i = k → i ≤ x.cps.size → St i s →
      SetS prog w s.heap S (firsts (x.cps.toList.take i)) → (∀ s', Moved (S :: wr) G s s' → SetS prog w s'.heap S (firsts x.cps.toList) → R (.ok (.ret .none)) s') →
      codeAny (model prog w) A (.builtin "set.update.loop" ⟨[.ref S, .ref I], []⟩) R s := by
  have awr : S ∉ wr := fun q => away (W.sub _ q)
  have more : ∀ b ∈ wr, b ∈ S :: wr := fun b hb => .tail _ hb
  intro k
  induction k with
  | zero =>
    intro i s hk hi st hS done
    obtain rfl : i = x.cps.size := by omega
    refine codeAny_builtin F.entry_set_update_loop ?_
    rw [Around.under_plainId F.plain_set_update_loop _]
    show wpAny _ A.in1 (pyNext (.ref I) >>= _) _ _ s
    refine wpAny_bind (W.done s _ _ st fun s' mv => ?_)
    show wpAny _ A.in1 (ret Value.none) _ _ s'
    have e : x.cps.toList.take x.cps.size = x.cps.toList := List.take_of_length_le (by simp)
    rw [e] at hS
    exact wpAny_pure (done s' (mv.mono more) (hS.keep fun o q => mv.heap S o awr q))
  | succ k ih =>
    intro i s hk hi st hS done
    have lt : i < x.cps.size := by omega
    refine codeAny_builtin F.entry_set_update_loop ?_
    rw [Around.under_plainId F.plain_set_update_loop _]
    show wpAny _ A.in1 (pyNext (.ref I) >>= _) _ _ s
    refine wpAny_bind (W.item i s _ _ lt st fun v s' hv st' mv => ?_)
    obtain ⟨c, u, hc, rfl⟩ := hv
    have hS' := hS.keep (h' := s'.heap) fun o q => mv.heap S o awr q
    show wpAny _ A.in1 (holding [Value.str (sg c) u] (setAdd S (.str (sg c) u)) >>= _) _ _ s'
    refine wpAny_bind (wpAny_holding ?_)
    unfold setAdd
    refine wpAny_holding ?_
    refine wpAny_bind ((strKind prog w).pyHash (k := sg c) (strKind_is _ _ _ _) ?_)
    have cnt := (firsts_count x.cps.toList i (by simp; omega)).1
    refine wpAny_setAddHashed_of (knd := strKind prog w) (s := { s' with toks := s'.toks + 1 }) (strKind_is _ _ _ _) rfl hS' (by omega) fun h' sb hS2 => ?_
    have hc2 : x.cps.toList[i]? = some c := by rw [Array.getElem?_toList]; exact hc
    have hS3 : SetS prog w h' S (firsts (x.cps.toList.take (i + 1))) := by
      rw [firsts_take hc2]
      exact SetOf_congr hS2 (fun k => (hasD_step _ c k).symm) (len_step _ c).symm
    refine wpAny_pure ⟨plainId_quiet F.plain_set_update_loop _, ih (i + 1) _ (by omega) lt (W.frame _ s' _ _ st' (Nat.le_succ _) fun b hb o e => ?_) hS3 fun s'' mv' hS'' => done s'' (Moved.trans W.gtrans ((mv.mono more).then_heap (Nat.le_succ _) fun b o hb e => ?_) mv') hS''⟩
    · rw [sb.2 b fun q : b = S => away (by rw [← q]; exact hb)]; exact e
    · rw [sb.2 b fun q : b = S => hb (by rw [q]; exact .head _)]; exact e
variable {s : Shared}
theorem sub_str_set : isSubtype (.type "str") (.type "set") = pure false := by rw [isSubtype_type]; kernel_rfl
theorem sub_str_frozenset : isSubtype (.type "str") (.type "frozenset") = pure false := by rw [isSubtype_type]; kernel_rfl
theorem call_set_text {x : Str} {tx : Tok} {Q : Value → Shared → Prop} (hh : A.handled = none) (small : x.cps.size + 1 < scanBound)
    (h : ∀ (h' : Heap) (tk : Nat), SetS prog w h' s.heap.objs.size (firsts x.cps.toList) → (∀ b o, b < s.heap.objs.size → s.heap.get? b = some o → h'.get? b = some o) → Q (.ref s.heap.objs.size) { s with heap := h', toks := tk }) :
    wpAny (model prog w) A (call (.type "set") [.str x tx]) Q E s := by
  obtain ⟨c, tl, hmro⟩ := F.called_set.mro
  have hmade := F.called_set.made
  have hsub := F.called_set.sub
  refine wpAny_call (codeAny_of_tree ?_)
  show wpAny _ _ (callAny (.type "set") _) _ _ _
  refine wpAny_pure ⟨Code.quiet_builtin _ (by decide +kernel), codeAny_builtin F.entry_type_call ?_⟩
  rw [Around.under_plain (weight_type_call_type "set" [.str x tx] []) rfl]
  have h1 := F.called_set.notType
  have h2 := F.called_set.canCreate
  have hct := PySem.F.typeCall_set_1 (.str x tx)
  repeat (any_goals (first | assumption | wp_step))
  refine codeAny_mono (code_set_new_1 (.str x tx) (E := E) (Q₁ := fun v s₁ => ∃ led : Bool, v = .ref s.heap.objs.size ∧ s₁ = { s with heap := s.heap.push { cls := .type "set", dict := none, data := .set #[] 0 (.fresh 0 0 led) } }) fun led => ⟨led, rfl, rfl⟩) fun r s₁ hr => ?_
  cases r with
  | error e => exact hr
  | ok fl =>
    cases fl with
    | ret v =>
      obtain ⟨led, rfl, rfl⟩ := hr
      have hS : (s.heap.push { cls := .type "set", dict := none, data := .set #[] 0 (.fresh 0 0 led) }).get? s.heap.objs.size = some { cls := .type "set", dict := none, data := .set #[] 0 (.fresh 0 0 led) } := Heap.get?_push_size _ rfl
      have hT : Shared.TypeIs { s with heap := s.heap.push { cls := .type "set", dict := none, data := .set #[] 0 (.fresh 0 0 led) } } (.ref s.heap.objs.size) "set" := ⟨_, hS, rfl⟩
      have hli := F.called_set.init.lookup
      have hbi := F.called_set.init.bind (.ref s.heap.objs.size)
      repeat (any_goals (first | assumption | wp_step))
      refine codeAny_mono (codeAny_call_builtin (R := wants (fun r s₂ => r = .none ∧ ∃ h' tk, s₂ = { s with heap := h', toks := tk } ∧ SetS prog w h' s.heap.objs.size (firsts x.cps.toList) ∧
          (∀ b o, b < s.heap.objs.size → s.heap.get? b = some o → h'.get? b = some o)) E) F.called_set.init.plain F.entry_set_init (check_set_init_1 hT ?_)) fun r₂ s₂ hr₂ => ?_
      · have hsls := sub_str_set
        have hslf := sub_str_frozenset
        have hne : (Value.type "str" == Value.type "dict") = false := by decide
        unfold Builtin.«set.__init__» noKeywords Builtin.Frozenset.updateFrom
        generalize hPI : pyIter = PI
        wp_walk
        subst hPI
        refine wpAny_pyIter_str fun o St W st => ?_
        refine wpAny_bind (wpAny_runValue ?_)
        have hh3 : A.in1.in1.in1.handled = none := by simp [hh]
        have away : s.heap.objs.size ∉ [(s.heap.push { cls := .type "set", dict := none, data := .set #[] 0 (.fresh 0 0 led) }).objs.size] := by
          rw [Heap.size_push, List.mem_singleton]
          exact Nat.ne_of_lt (Nat.lt_succ_self _)
        refine loopS ((W _ hh3).toS) s.heap.objs.size away small (x.cps.size - 0) 0 _ (by omega) (Nat.zero_le _) st ?hS0 ?hR
        case hS0 =>
          exact SetOf_congr ((PyProof.Rows.setObjOf_fresh (knd := strKind prog w) led).setOf (Heap.get?_push_of_some _ hS) (by unfold scanBound; omega)) (fun _ => rfl) rfl
        case hR =>
          intro s' mv hS'
          obtain ⟨h', g', d', tk', os'⟩ := s'
          have eg : g' = s.gens := mv.gens
          have ed : d' = s.drawn := mv.drawn
          have eo : os' = s.os := mv.os
          subst eg; subst ed; subst eo
          show wpAny _ _ _ _ _ _
          refine wpAny_pure ?_
          show wpAny _ _ (ret Value.none) _ _ _
          refine wpAny_pure ⟨rfl, h', tk', rfl, hS', fun b o hb e => ?_⟩
          have n1 : b ≠ s.heap.objs.size := Nat.ne_of_lt hb
          have n2 : b ≠ (s.heap.push { cls := .type "set", dict := none, data := .set #[] 0 (.fresh 0 0 led) }).objs.size := by
            rw [Heap.size_push]; exact Nat.ne_of_lt (Nat.lt_succ_of_lt hb)
          exact mv.heap b o (by simp only [List.mem_cons, List.mem_singleton, List.not_mem_nil, or_false, not_or]; exact ⟨n1, n2⟩) (Heap.get?_push_of_some _ (Heap.get?_push_of_some _ e))
      · cases r₂ with
        | error e => exact hr₂
        | ok fl₂ =>
          cases fl₂ with
          | ret r =>
            obtain ⟨rfl, h', tk, rfl, hS', hk'⟩ := hr₂
            repeat (any_goals (first | assumption | wp_step))
            exact h _ _ hS' hk'
          | _ => exact hr₂.elim
    | _ => exact hr.elim
end
/-! ### the rules -/
/-- len(set(text)) -/
def tKinds (ta : TE) : TE := fun σ H Q => ta σ H fun v H1 => ∃ z : Str, v = .str z ∧ z.length ≤ 4000 ∧ Q (.int (kinds z : Nat)) H1
theorem pe_kinds {X : Cx} {a : Expr} {ta : TE} {p p2 q pos : Pos} (hg : Gl X "len") (hm : X.mg "len" = none) (hg2 : Gl X "set") (hm2 : X.mg "set" = none) (ha : PE X a ta) (hc : X.calm = true := by rfl)
    (na : starEach [a] X.env = (false, eval a X.env) :: starEach [] X.env := by rfl) : PE X (.Call (.Name "len" p) [.Call (.Name "set" p2) [a] [] q] [] pos) (tKinds ta) := by
  constructor
  intro pins s σ H Q I h
  refine Call_ (ld_blt I hg hm boot_len (PyProof.Rows.callWith_builtin1 (PyProof.Rows.args_cons (Call_ (ld_blt I hg2 hm2 boot_set ?_)) rfl) rfl rfl))
  refine PyProof.Rows.callWith_type1 (PyProof.Rows.args_cons (thn (ha.run pins s σ H _ I h) fun v s1 ⟨y, H1, I1, r1, q1⟩ => PyProof.Rows.args_nil ?_) na) na rfl
  obtain ⟨z, rfl, hl, q1⟩ := q1
  obtain ⟨t, rfl⟩ := r1
  have hs : z.cps.size = z.length := rfl
  refine call_set_text (I1.ok.hd hc) (by rw [hs]; unfold scanBound; omega) fun h' tk hS hk => PyProof.Rows.args_nil ?_
  have kl := kinds_le z
  obtain ⟨o, es, ep, t2, ho, hex, hd, _, _, _, hf, hn⟩ := hS
  have hn2 : es.size = kinds z := hn
  have I2 : Inv X pins σ H1 { s1 with heap := h', toks := tk } := I1.kept fun b o e => hk b o (Heap.lt_size e) e
  exact call_len_set ho hex hd hf (by rw [hn2]; omega) ⟨.int (kinds z : Nat), H1, I2.tok _, ⟨_, by rw [hn2]⟩, q1⟩
/-- text * n -/
def rMulS : R2 := fun x y H Q => ∃ (z : Str) (n : Int), x = .str z ∧ y = .int n ∧ MulOk z n ∧ Q (.str (Txt.mul z n)) H
theorem op_mulS {X : Cx} : OpR X (binaryOp .Mult) rMulS := by
  intro pins s σ H x y v u Q I rx ry h
  obtain ⟨z, n, rfl, rfl, hz, q⟩ := h
  obtain ⟨t, rfl⟩ := rx
  obtain ⟨t', rfl⟩ := ry
  exact SB.mul hz fun t2 tk => ⟨.str (Txt.mul z n), H, I.tok _, ⟨_, rfl⟩, q⟩
end SxA

set_option Elab.async false
set_option linter.all false
set_option maxRecDepth 100000
set_option maxHeartbeats 4000000
namespace SxA
open PySem PySem.Spec PyProof.Rows L2
section
variable {prog : Program} {w : World} {A : Around} {E : Value → Shared → Prop} {s : Shared}
/-- list(it), it what reversed(a list) gave -/
theorem call_list_rev {it l : Addr} {items : Array Value} {Q : Value → Shared → Prop} (hh : A.handled = none) (hit : s.heap.IsRevIter it l ((items.size : Int) - 1)) (hl : s.heap.IsList l items) (hne : l ≠ it) (hn : items.size ≤ sizeLine)
    (hQ : ∀ (h' : Heap) (tk : Nat) (acc : Array Value) (c : Nat), (∀ b o, b ≠ it → s.heap.get? b = some o → h'.get? b = some o) → h'.get? s.heap.objs.size = some { cls := .type "list", dict := none, data := .seq acc c, slots := #[] } →
      ItemsOf (fun i v => items[items.size - 1 - i]? = some v) acc items.size → Q (.ref s.heap.objs.size) { s with heap := h', toks := tk }) :
    wpAny (model prog w) A (call (.type "list") [.ref it]) Q E s := by
  obtain ⟨oi, hoi, _⟩ := id hit
  obtain ⟨ol, hol, _⟩ := id hl
  have ni : s.heap.objs.size ≠ it := Nat.ne_of_gt (Heap.lt_size hoi)
  have nl : s.heap.objs.size ≠ l := Nat.ne_of_gt (Heap.lt_size hol)
  have away : s.heap.objs.size ∉ [it, l] := by
    simp only [List.mem_cons, List.not_mem_nil, or_false, not_or]
    exact ⟨ni, nl⟩
  refine callType_codes (Q₁ := fun v s₁ => v = .ref s.heap.objs.size ∧ s₁ = { s with heap := s.heap.push { cls := .type "list", data := .seq #[] } }) F.called_list (F.typeCall_list_1 _) F.entry_list_init (code_list_new _ ⟨rfl, rfl⟩) fun v s₁ h₁ => ?_
  obtain ⟨rfl, rfl⟩ := h₁
  have hS : (s.heap.push { cls := .type "list", data := .seq #[] }).get? s.heap.objs.size = some { cls := .type "list", data := .seq #[] } := Heap.get?_push_size _ rfl
  refine ⟨⟨_, hS, rfl⟩, F.args_list_init_2 _ _, ?_⟩
  show wpAny _ _ (do let old ← Builtin.List.listItems (.ref s.heap.objs.size); Builtin.List.listUpdate (.ref s.heap.objs.size) (fun _ => #[]); letGo old.toList.reverse; Builtin.List.listExtendWith (.ref s.heap.objs.size) (.ref it) .none) _ _ _
  refine wpAny_bind ?_
  unfold Builtin.List.listItems
  refine wpAny_bind (wpAny_seqItems hS rfl (wpAny_pure ?_))
  show wpAny _ _ (updateSeq s.heap.objs.size (fun _ => #[]) >>= fun _ => letGo (#[] : Array Value).toList.reverse >>= fun _ => Builtin.List.listExtendWith (.ref s.heap.objs.size) (.ref it) .none) _ _ _
  refine wpAny_bind (wpAny_updateSeq hS rfl ?_)
  have hS₂ := Heap.get?_update_self (Obj.mapSeq (fun _ => (#[] : Array Value))) hS rfl
  have oth : ∀ b o, b ≠ s.heap.objs.size → s.heap.get? b = some o → ((s.heap.push { cls := .type "list", data := .seq #[] }).update s.heap.objs.size (Obj.mapSeq (fun _ => (#[] : Array Value)))).get? b = some o :=
    fun b o hb e => (Heap.get?_update_other _ _ (Ne.symm hb)).trans (Heap.get?_push_of_some _ e)
  refine wpAny_bind (wpAny_letGo ?_)
  generalize hgh : (s.heap.push { cls := .type "list", data := .seq #[] }).update s.heap.objs.size (Obj.mapSeq (fun _ => (#[] : Array Value))) = g at hS₂ oth
  have hit1 : g.IsRevIter it l ((items.size : Int) - 1) := hit.at fun o e => oth _ _ ni.symm e
  have hl1 : g.IsList l items := hl.at fun o e => oth _ _ nl.symm e
  have hT : ({ s with heap := g } : Shared).TypeIs (.ref it) "list_reverseiterator" := Heap.IsRevIter.typeIs (s := { s with heap := g }) hit1
  have h1 : Builtin.List.listSameRef (.ref s.heap.objs.size) (.ref it) = false := by simp [Builtin.List.listSameRef, ni]
  have hh2 : A.in1.in1.handled = none := by simp [hh]
  have W := (Walks.listRev (prog := prog) (w := w) (A := A.in1.in1) hh2 it l hne items).toS
  unfold Builtin.List.listExtendWith
  refine wpAny_bind (wpAny_typeOf hT ?_)
  rw [if_neg (by rw [h1]; decide)]
  refine wpAny_bind (wpAny_pyIter_revIter (s := { s with heap := g }) hit1 (wpAny_bind (wpAny_holding ?_)))
  unfold Builtin.List.listLengthHint
  refine wpAny_bind (wpAny_specialOf hT RT.nolen_lri ?_)
  show wpAny _ _ (specialOf (Value.ref it) (Str.ofString "__length_hint__") >>= _) _ _ _
  refine wpAny_bind (wpAny_specialOf hT RT.hint_lri ?_)
  generalize hid : ("list_reverseiterator.__length_hint__" : String) = nm
  wp_delta
  rw [show splitId nm = some ("list_reverseiterator", "__length_hint__") from by subst hid; decide +kernel]
  subst hid
  refine wpAny_bind (wpAny_isInstance (b := true) hT (by rw [isSubtype_type]; kernel_rfl) (wpAny_pure ?_))
  rw [if_neg (by decide)]
  have e0 : ((items.size : Nat) : Int) - 1 - ((0 : Nat) : Int) = (items.size : Int) - 1 := by omega
  refine wpAny_pure ⟨plainId_quiet F.plain_extend_loop _, codeAny_extend_loopS W hn _ away _ items.size 0 _ _ _ rfl (Nat.zero_le _) ⟨Nat.zero_le _, by rw [e0]; exact hit1, hl1⟩ hS₂ (ItemsOf.nil _) fun s' acc' c' mv hS' hacc => ?_⟩
  rw [Moved.eq_with mv]
  refine ⟨rfl, hQ s'.heap s'.toks acc' c' (fun b o hb e => mv.heap b o (fun hmem => ?_) ?_) hS' hacc⟩
  · rcases List.mem_cons.mp hmem with e' | hmem
    · exact absurd (Heap.lt_size e) (by rw [e']; exact Nat.lt_irrefl _)
    · exact hb (List.mem_singleton.mp hmem)
  · exact oth b o (Nat.ne_of_lt (Heap.lt_size e)) e
end
/-- list(reversed(x)), x a list -/
def tListRev (K : PySem.W.Frag) (te : TE) : TE := fun σ H Q => te σ H fun v H1 => ∃ (a : Addr) (xs : List V), v = .ref a ∧ SqL K H1 a xs ∧ ∀ q, H1 q = none → Q (.ref q) (upd H1 q (.lst xs.reverse))
theorem pe_listRev {X : Cx} {e : Expr} {te : TE} {p p2 pos pos2 : Pos} (hg : Gl X "list") (hm : X.mg "list" = none) (hg2 : Gl X "reversed") (hm2 : X.mg "reversed" = none) (he : PE X e te) (hc : X.calm = true := by rfl)
    (hs : starEach [e] X.env = (false, eval e X.env) :: starEach [] X.env := by rfl)
    (hs2 : starEach [.Call (.Name "reversed" p2) [e] [] pos2] X.env = (false, eval (.Call (.Name "reversed" p2) [e] [] pos2) X.env) :: starEach [] X.env := by rfl) :
    PE X (.Call (.Name "list" p) [.Call (.Name "reversed" p2) [e] [] pos2] [] pos) (tListRev X.K te) := by
  constructor
  intro pins s σ H Q I h
  refine Call_ (ld_blt I hg hm boot_list (PyProof.Rows.callWith_type1 (args_cons (Call_ (ld_blt I hg2 hm2 PyProof.Rows.boot_reversed (PyProof.Rows.callWith_type1 (args_cons (thn (he.run pins s σ H _ I h) fun u s1 ⟨v, H1, I1, r1, q1⟩ => args_nil ?_) hs) hs rfl))) hs2) hs2 rfl))
  obtain ⟨a, xs, rfl, hq, q⟩ := q1
  obtain rfl : u = Value.ref a := r1
  obtain ⟨its, rv, pl, hz⟩ := I1.list hq
  refine call_reversed_list pl.isList (args_nil ?_)
  have hl := pl.isList
  obtain ⟨ol, hol, _⟩ := id hl
  have hne : a ≠ s1.heap.objs.size := Nat.ne_of_lt (Heap.lt_size hol)
  have hn : its.toArray.size ≤ sizeLine := by rw [List.size_toArray, ← rv.length]; exact hz
  have sz : (s1.heap.push (revObj a ((its.toArray.size : Int) - 1))).objs.size = s1.heap.objs.size + 1 := Heap.size_push _ _
  refine call_list_rev (s := { s1 with heap := s1.heap.push (revObj a ((its.toArray.size : Int) - 1)) }) (I1.ok.hd hc) ⟨_, Heap.get?_push_size _ rfl, rfl, rfl⟩ (hl.push _) hne hn fun h' tk acc c hk hS hi => ?_
  have e1 : acc.toList.toArray = acc := by simp
  refine ⟨.ref (s1.heap.push (revObj a ((its.toArray.size : Int) - 1))).objs.size, upd H1 _ (.lst xs.reverse), I1.laid (t' := tk) (fun b o e => hk b o (Nat.ne_of_lt (Heap.lt_size e)) (Heap.get?_push_of_some _ e)) (by rw [sz]; exact Nat.le_succ _)
    (show ObjOk X.prog X.w _ h' _ (.lst xs.reverse) from ⟨by rw [List.length_reverse]; exact hz, acc.toList, c, RT.vals_rev rv hi, by rw [e1]; exact hS⟩), rfl, q _ (I1.hok.fresh (by rw [sz]; exact Nat.le_succ _))⟩
end SxA

set_option Elab.async false
set_option linter.all false
set_option maxRecDepth 100000
set_option maxHeartbeats 1000000
namespace Sx
open PySem PySem.Spec PyProof.Rows L2 SxA
/-- a def of the top -/
abbrev Fd (K : PySem.W.Frag) (x : Str) (st : Stmt) : Prop := ∃ fd, FunD K x x (defArgs st) (defBody st) (defScope st) [] [] (He.ga K x) fd
section
variable {P : Program} {w : World} {K : PySem.W.Frag} {mg : Str → Option Value} {base : Heap}
def Ok (P : Program) (w : World) (K : PySem.W.Frag) (mg : Str → Option Value) (base : Heap) (k : Nat) (x : Str) (ps : List Str) (sp : Sp) : Prop :=
  ∃ fd, FnOk P w K mg base CX0 k (He.ga K x) fd ps sp ∧ Binds K fd ps [] ∧ PySem.W.keepIn K (.ref (He.ga K x)) = true ∧ mg x = some (.ref (He.ga K x))
theorem mkOk {x : Str} {st : Stmt} {N ps : List Str} {k : Nat} {sp : Sp} (d : Fd K x st) (hx : mg x = some (.ref (He.ga K x))) (S : FnScope N ps (defScope st)) (len : ∀ vs H Q E, sp vs H Q E → vs.length = ps.length)
    (bnd : ∀ (kV doc pm : Value) (an : Option Addr) (cdv ct : Value) (us : List Value), us.length = ps.length → bindArgs (PySem.W.fnOf x x (defArgs st) (defBody st) (defScope st) .none kV doc pm an cdv ct) ⟨us, []⟩ = pure (ps.zip us))
    (body : ∀ (cdv : Value) (A : Around) (outer : List Env) (s : Shared) (H0 : Hp) (vs : List V) (Q : VK) (E : XK), Room k (A.deeper (envOfC x (defScope st) s.heap.objs.size (He.ga K x) cdv)) → sp vs H0 Q E →
      ∃ t, PSs (cxOf CX0 P w K mg base N x (defScope st) (He.ga K x) cdv A outer s H0 E).nox (defBody st) t ∧ t { nx := fun _ H' => Q .non H', rt := Q } (start N vs) H0) : Ok P w K mg base (k + 1) x ps sp := by
  obtain ⟨fd, F⟩ := d
  refine ⟨fd, F.ok S len fun cdv A outer s H vs Q E hr h => ?_, F.bindsN bnd, F.kp, hx⟩
  obtain ⟨t, h1, h2⟩ := body cdv A outer s H vs Q E hr h
  exact ⟨t, h1.nox, h2⟩
theorem pe_ok {X : Cx} {k : Nat} {x : Str} {ps : List Str} {sp : Sp} {p pos : Pos} {e : Expr} {es : List Expr} {t : TA} (o : Ok X.prog X.w X.K X.mg X.base k x ps sp) (hr : Room k X.A) (hg : Gl X x) (ha : PA X (e :: es) t)
    (hdb : (x == ("__debug__" : Str)) = false := by decide) (hs : starEach (e :: es) X.env = (false, eval e X.env) :: starEach es X.env := by rfl) (hpl : ((backTo pos (starEach es X.env)).any (·.1)) = false := by rfl) :
    PE X (.Call (.Name x p) (e :: es) [] pos) (tCall sp [] E0 t) := by
  obtain ⟨fd, F, b, kp, hm⟩ := o
  exact pe_call F hr hg hm kp b .nil pass0 ha hdb hs hpl
def But (a : Addr) (H H' : Hp) : Prop := ∀ b o, H b = some o → b ≠ a → H' b = some o
theorem But.of {a : Addr} {H H' : Hp} (s : Same H H') : But a H H' := fun b o e _ => s b o e
theorem Same.new {H : Hp} {p : Addr} {o : HO} (h : H p = none) : Same H (upd H p o) := fun b o e => by
  rw [upd_ne (ne_of_none e h)]
  exact e
theorem Same.put {H0 H : Hp} {p : Addr} {o : HO} (s : Same H0 H) (h : H0 p = none) : Same H0 (upd H p o) := fun b o e => by
  rw [upd_ne (ne_of_none e h)]
  exact s b o e
theorem lc_text {z : Str} {ys : List V} {te : TE} {i0 : Nat} {vs : List Nat} {σ : L2.St} {H1 : Hp} {D : Addr} {Qd : Hp → Prop} (hD : H1 D = none) (hl : ys.length = z.cps.toList.length) (hz : ys.length ≤ sizeLine)
    (hw : ∀ c : Nat, wipe ((wipe σ vs).set i0 (some (.str (sg c)))) vs = wipe σ vs)
    (he : ∀ (i c : Nat) (y : V) (H : Hp) (Q : VK), z.cps.toList[i]? = some c → ys[i]? = some y → Same H1 H → (∀ H', Same H H' → Q y H') → te ((wipe σ vs).set i0 (some (.str (sg c)))) H Q)
    (hd : ∀ H, Same H1 H → H D = some (.lst ys) → Qd H) :
    ∃ W : Nat → Nat → Hp → Prop, (∃ m, W 0 m (upd H1 D (.lst []))) ∧ ∀ i m H, W i m H → ((Its z).stop i H ∧ Qd H) ∨ ((Its z).go i H ∧ ∃ Nx : Hp → Prop, (∀ H', Nx H' → ∃ m', m' < m ∧ W (i + 1) m' H') ∧
      ∀ x H', (Its z).yld i H x H' → (gName i0) x (wipe σ vs) H' fun σ2 H2 => wipe σ2 vs = wipe σ vs ∧ tYes σ2 H2 fun b H3 => if b = true then te σ2 H3 fun y H4 => ∃ acc, H4 D = some (.lst acc) ∧ acc.length < sizeLine ∧ Nx (upd H4 D (.lst (acc ++ [y]))) else Nx H3) := by
  have hsz : z.cps.size = ys.length := by rw [hl]; simp
  refine ⟨fun i m H => m = ys.length - i ∧ i ≤ ys.length ∧ Same H1 H ∧ H D = some (.lst (ys.take i)), ⟨ys.length, rfl, Nat.zero_le _, Same.new hD, upd_same⟩, ?_⟩
  rintro i m H ⟨rfl, hi, sm, hH⟩
  by_cases lt : i < ys.length
  · refine .inr ⟨by show i < z.cps.size; omega, fun H' => Same H1 H' ∧ H' D = some (.lst (ys.take (i + 1))), fun H' q => ⟨ys.length - (i + 1), by omega, rfl, lt, q.1, q.2⟩, ?_⟩
    rintro x H' ⟨rfl, c, hc, rfl⟩
    have hc2 : z.cps.toList[i]? = some c := by rw [Array.getElem?_toList]; exact hc
    have hy : ys[i]? = some ys[i] := List.getElem?_eq_getElem lt
    refine ⟨hw c, ?_⟩
    show te _ _ _
    refine he i c _ _ _ hc2 hy sm fun H4 s4 => ⟨ys.take i, s4 _ _ hH, ?_, ?_, ?_⟩
    · rw [List.length_take]; omega
    · exact Same.put (sm.trans s4) hD
    · rw [upd_same, List.take_add_one, hy]; rfl
  · have e : i = ys.length := by omega
    subst e
    refine .inl ⟨by show z.cps.size ≤ ys.length; omega, hd H sm ?_⟩
    rw [hH, List.take_length]
theorem lc_known {a : Addr} {xs ys : List V} {te : TE} {i0 : Nat} {vs : List Nat} {σ : L2.St} {H1 : Hp} {D : Addr} {Qd : Hp → Prop} (hD : H1 D = none) (hq : SqL K H1 a xs) (hl : ys.length = xs.length) (hz : ys.length ≤ sizeLine)
    (hw : ∀ v : V, wipe ((wipe σ vs).set i0 (some v)) vs = wipe σ vs)
    (he : ∀ (i : Nat) (x y : V) (H : Hp) (Q : VK), xs[i]? = some x → ys[i]? = some y → Same H1 H → (∀ H', Same H H' → Q y H') → te ((wipe σ vs).set i0 (some x)) H Q)
    (hd : ∀ H, Same H1 H → H D = some (.lst ys) → Qd H) :
    ∃ W : Nat → Nat → Hp → Prop, (∃ m, W 0 m (upd H1 D (.lst []))) ∧ ∀ i m H, W i m H → ((Itl K a).stop i H ∧ Qd H) ∨ ((Itl K a).go i H ∧ ∃ Nx : Hp → Prop, (∀ H', Nx H' → ∃ m', m' < m ∧ W (i + 1) m' H') ∧
      ∀ x H', (Itl K a).yld i H x H' → (gName i0) x (wipe σ vs) H' fun σ2 H2 => wipe σ2 vs = wipe σ vs ∧ tYes σ2 H2 fun b H3 => if b = true then te σ2 H3 fun y H4 => ∃ acc, H4 D = some (.lst acc) ∧ acc.length < sizeLine ∧ Nx (upd H4 D (.lst (acc ++ [y]))) else Nx H3) := by
  refine lc_list (K := K) (a := a) (xs := xs) (g := gName i0) (tt := tYes) (te := te) (fun i H => Same H1 H ∧ H D = some (.lst (ys.take i))) ⟨Same.new hD, upd_same⟩ (fun i H _ p => p.1.seq hq) ?_ ?_
  · rintro i x H hx ⟨sm, hH⟩
    have lt : i < ys.length := by rw [hl]; exact (List.getElem?_eq_some_iff.mp hx).1
    have hy : ys[i]? = some ys[i] := List.getElem?_eq_getElem lt
    refine ⟨hw x, ?_⟩
    show te _ _ _
    refine he i x _ _ _ hx hy sm fun H4 s4 => ⟨ys.take i, s4 _ _ hH, ?_, Same.put (sm.trans s4) hD, ?_⟩
    · rw [List.length_take]; omega
    · rw [upd_same, List.take_add_one, hy]; rfl
  · rintro H ⟨sm, hH⟩
    rw [← hl, List.take_length] at hH
    exact hd H sm hH
abbrev sl (z : Str) : List Nat := z.cps.toList
theorem sl_len (z : Str) : z.length = (sl z).length := by simp [Str.length]
theorem lt1 (a b : Nat) : decide ((⟨#[a]⟩ : Str).cps.toList < (⟨#[b]⟩ : Str).cps.toList) = decide (a < b) := by
  rw [decide_eq_decide]
  show [a] < [b] ↔ a < b
  rw [List.cons_lt_cons_iff]
  constructor
  · rintro (h | ⟨_, h⟩)
    · exact h
    · exact absurd h (List.not_lt_nil _)
  · exact Or.inl
theorem eq_sg (c e : Nat) : decide (V.str (sg c) = V.str (sg e)) = decide (c = e) := by
  rw [decide_eq_decide]
  exact ⟨fun h => sg_inj (V.str.inj h), fun h => by rw [h]⟩
theorem mkFn {x : Str} {st : Stmt} {N ps : List Str} {k : Nat} {sp : Sp} {fd : FuncData} (F : FunD K x x (defArgs st) (defBody st) (defScope st) [] [] (He.ga K x) fd) (S : FnScope N ps (defScope st)) (len : ∀ vs H Q E, sp vs H Q E → vs.length = ps.length)
    (body : ∀ (cdv : Value) (A : Around) (outer : List Env) (s : Shared) (H0 : Hp) (vs : List V) (Q : VK) (E : XK), Room k (A.deeper (envOfC x (defScope st) s.heap.objs.size (He.ga K x) cdv)) → sp vs H0 Q E →
      ∃ t, PSs (cxOf CX0 P w K mg base N x (defScope st) (He.ga K x) cdv A outer s H0 E).nox (defBody st) t ∧ t { nx := fun _ H' => Q .non H', rt := Q } (start N vs) H0) : FnOk P w K mg base CX0 (k + 1) (He.ga K x) fd ps sp := by
  refine F.ok S len fun cdv A outer s H vs Q E hr h => ?_
  obtain ⟨t, h1, h2⟩ := body cdv A outer s H vs Q E hr h
  exact ⟨t, h1.nox, h2⟩
theorem pgi {X : Cx} {x : Str} {i : Int} {k : Tok} {pos : Pos} (hg : Gl X x) (hm : X.mg x = some (.int i k)) (hd : (x == ("__debug__" : Str)) = false := by decide) : PE X (.Name x pos) (tC (.int i)) := pe_glob (v := .int i) hg hm ⟨_, rfl⟩ hd
theorem pgs {X : Cx} {x z : Str} {k : Tok} {pos : Pos} (hg : Gl X x) (hm : X.mg x = some (.str z k)) (hd : (x == ("__debug__" : Str)) = false := by decide) : PE X (.Name x pos) (tC (.str z)) := pe_glob (v := .str z) hg hm ⟨_, rfl⟩ hd
theorem op_notInK {X : Cx} {K : PySem.W.Frag} (h : X.K = K) : OpR X (compareOp .NotIn) (rIn K true) := by
  subst h
  exact op_notIn_seq
theorem small4 {n : Nat} (h : n ≤ 4000) : n ≤ sizeLine := Nat.le_trans h (by decide)
theorem sqD {D : Addr} {H : Hp} {ys : List V} (h : H D = some (.lst ys)) : SqL K H D ys := SqL.of h
theorem big6 {n : Nat} (h : n ≤ 1000000) : n ≤ sizeLine := Nat.le_trans h (by decide)
def off (a : Addr) (H : Hp) : Hp := fun b => if b = a then none else H b
def fresh (H H' : Hp) : Hp := fun b => match H b with
  | none => H' b
  | some _ => none
theorem off_ne {a b : Addr} {H : Hp} (h : b ≠ a) : off a H b = H b := if_neg h
theorem off_some {a b : Addr} {H : Hp} {o : HO} (h : off a H b = some o) : b ≠ a ∧ H b = some o := by
  unfold off at h
  by_cases e : b = a
  · rw [if_pos e] at h; cases h
  · rw [if_neg e] at h; exact ⟨e, h⟩
theorem fresh_of {H H' : Hp} {b : Addr} (h : H b = none) : fresh H H' b = H' b := by
  unfold fresh; rw [h]
theorem fresh_some {H H' : Hp} {b : Addr} {o : HO} (h : fresh H H' b = some o) : H b = none ∧ H' b = some o := by
  unfold fresh at h
  cases e : H b with
  | none => rw [e] at h; exact ⟨rfl, h⟩
  | some u => rw [e] at h; cases h
theorem off_le {a : Addr} {H : Hp} : Same (off a H) H := fun b o h => (off_some h).2
theorem off_up {a : Addr} {H H' : Hp} (s : Same H H') : Same (off a H) (off a H') := fun b o h => by
  obtain ⟨h1, h2⟩ := off_some h
  rw [off_ne h1]
  exact s _ _ h2
theorem off_but {a : Addr} {H H' : Hp} (s : But a H H') : Same (off a H) (off a H') := fun b o h => by
  obtain ⟨h1, h2⟩ := off_some h
  rw [off_ne h1]
  exact s _ _ h2 h1
theorem off_put (a : Addr) (H : Hp) (o : HO) : off a (upd H a o) = off a H := by
  funext b
  unfold off
  by_cases e : b = a
  · rw [if_pos e, if_pos e]
  · rw [if_neg e, if_neg e, upd_ne e]
theorem off_in {a : Addr} {H0 H : Hp} (s : Same H0 H) (h : H0 a = none) : Same H0 (off a H) := fun b o e => by
  rw [off_ne (ne_of_none e h)]
  exact s _ _ e
theorem fresh_le {H H' : Hp} : Same (fresh H H') H' := fun b o h => (fresh_some h).2
theorem fresh_off {a : Addr} {H H' : Hp} {u : HO} (h : H a = some u) : Same (fresh H H') (off a H') := fun b o e => by
  obtain ⟨h1, h2⟩ := fresh_some e
  rw [off_ne fun q => by rw [q, h] at h1; cases h1]
  exact h2
theorem fresh_up {H H1 H' H2 : Hp} (s : ∀ b, H1 b = none → H b = none) (s2 : Same H' H2) : Same (fresh H1 H') (fresh H H2) := fun b o e => by
  obtain ⟨h1, h2⟩ := fresh_some e
  rw [fresh_of (s b h1)]
  exact s2 _ _ h2
theorem Same.none {H H' : Hp} (s : Same H H') : ∀ b, H' b = Option.none → H b = Option.none := fun b h => s.free h
theorem put_new (f : Str) (v : V) : ∀ fs : List (Str × V), (∀ q ∈ fs, q.1 ≠ f) → putF f v fs = fs ++ [(f, v)]
  | [], _ => rfl
  | (g, x) :: r, h => by
    show (if g = f then (g, v) :: r else (g, x) :: putF f v r) = _
    rw [if_neg (h (g, x) (.head _)), put_new f v r fun q hq => h q (.tail _ hq)]
    rfl
theorem len_put (f : Str) (v : V) : ∀ fs : List (Str × V), (putF f v fs).length ≤ fs.length + 1
  | [] => Nat.le_refl _
  | (g, x) :: r => by
    show (if g = f then (g, v) :: r else (g, x) :: putF f v r).length ≤ _
    by_cases h : g = f
    · rw [if_pos h]; exact Nat.le_succ _
    · rw [if_neg h]; exact Nat.succ_le_succ (len_put f v r)
theorem len_put_lt {f : Str} {v : V} {fs : List (Str × V)} {n : Nat} (h : fs.length ≤ n) : (putF f v fs).length ≤ n + 1 := Nat.le_trans (len_put f v fs) (Nat.succ_le_succ h)
theorem lc_rel {a : Addr} {xs : List V} {te : TE} {i0 : Nat} {vs : List Nat} {σ : L2.St} {H1 : Hp} {D : Addr} {Qd : Hp → Prop} (Rel : Nat → V → Hp → Prop) (hm : ∀ i v H H', Rel i v H → Same H H' → Rel i v H') (hD : H1 D = none) (hq : SqL K H1 a xs) (hz : xs.length ≤ sizeLine)
    (hw : ∀ v : V, wipe ((wipe σ vs).set i0 (some v)) vs = wipe σ vs)
    (he : ∀ (i : Nat) (x : V) (H : Hp) (Q : VK) (acc : List V), xs[i]? = some x → Same H1 H → H D = some (.lst acc) → (∀ y H', Same H H' → Rel i y (fresh H H') → Q y H') → te ((wipe σ vs).set i0 (some x)) H Q)
    (hd : ∀ H ys, Same H1 H → H D = some (.lst ys) → ys.length = xs.length → (∀ i y, ys[i]? = some y → Rel i y (fresh H1 (off D H))) → Qd H) :
    ∃ W : Nat → Nat → Hp → Prop, (∃ m, W 0 m (upd H1 D (.lst []))) ∧ ∀ i m H, W i m H → ((Itl K a).stop i H ∧ Qd H) ∨ ((Itl K a).go i H ∧ ∃ Nx : Hp → Prop, (∀ H', Nx H' → ∃ m', m' < m ∧ W (i + 1) m' H') ∧
      ∀ x H', (Itl K a).yld i H x H' → (gName i0) x (wipe σ vs) H' fun σ2 H2 => wipe σ2 vs = wipe σ vs ∧ tYes σ2 H2 fun b H3 => if b = true then te σ2 H3 fun y H4 => ∃ acc, H4 D = some (.lst acc) ∧ acc.length < sizeLine ∧ Nx (upd H4 D (.lst (acc ++ [y]))) else Nx H3) := by
  refine lc_list (K := K) (a := a) (xs := xs) (g := gName i0) (tt := tYes) (te := te) (fun i H => Same H1 H ∧ ∃ ys, H D = some (.lst ys) ∧ ys.length = i ∧ ∀ j y, ys[j]? = some y → Rel j y (fresh H1 (off D H)))
    ⟨Same.new hD, [], upd_same, rfl, fun j y h => by simp at h⟩ (fun i H _ p => p.1.seq hq) ?_ ?_
  · rintro i x H hx ⟨sm, ys, hH, hl, hr⟩
    have lt : i < xs.length := (List.getElem?_eq_some_iff.mp hx).1
    refine ⟨hw x, ?_⟩
    show te _ _ _
    refine he i x _ _ ys hx sm hH fun y H4 s4 r4 => ⟨ys, s4 _ _ hH, by omega, Same.put (sm.trans s4) hD, ys ++ [y], upd_same, by rw [List.length_append, hl]; rfl, fun j v hj => ?_⟩
    rw [off_put]
    by_cases hji : j < ys.length
    · rw [List.getElem?_append_left hji] at hj
      exact hm _ _ _ _ (hr j v hj) (fresh_up (fun b h => h) (off_up s4))
    · rw [List.getElem?_append_right (by omega)] at hj
      have hj0 : j - ys.length = 0 := by
        have := (List.getElem?_eq_some_iff.mp hj).1
        rw [List.length_singleton] at this
        omega
      rw [hj0] at hj
      obtain rfl : y = v := Option.some.inj hj
      have e : j = i := by omega
      rw [e]
      refine hm _ _ _ _ r4 fun b o e => ?_
      obtain ⟨h1, h2⟩ := fresh_some e
      have hb : b ≠ D := fun q => by rw [q, hH] at h1; cases h1
      rw [fresh_of (Sx.Same.none sm b h1), off_ne hb]
      exact h2
  · rintro H ⟨sm, ys, hH, hl, hr⟩
    exact hd H ys sm hH hl hr
def pInts (cs : List Int) : PyData := .list (cs.map PyData.int)
theorem eqvAll_ints : ∀ xs ys : List Int, PyData.eqvAll (xs.map PyData.int) (ys.map PyData.int) = decide (xs = ys)
  | [], [] => rfl
  | [], y :: ys => by simp [PyData.eqvAll]
  | x :: xs, [] => by simp [PyData.eqvAll]
  | x :: xs, y :: ys => by
    rw [List.map_cons, List.map_cons, PyData.eqvAll, eqvAll_ints xs ys, PyData.eqv]
    by_cases h : x = y
    · subst h; simp
    · simp [h]
theorem eqv_ints (xs ys : List Int) : PyData.eqv (pInts xs) (pInts ys) = decide (xs = ys) := by
  unfold pInts
  rw [PyData.eqv]
  exact eqvAll_ints xs ys
theorem lay_ints : ∀ xs : List Int, PyData.canLayAll0 (xs.map PyData.int) = true
  | [] => rfl
  | x :: xs => by
    rw [List.map_cons, PyData.canLayAll0, lay_ints xs]
    rfl
theorem dep_ints : ∀ xs : List Int, PyData.depthAll (xs.map PyData.int) ≤ 1
  | [] => Nat.zero_le _
  | x :: xs => by
    rw [List.map_cons, PyData.depthAll]
    exact Nat.max_le.mpr ⟨by rw [PyData.depth]; decide, dep_ints xs⟩
theorem shaped_ints (xs : List Int) : SeqAt.shaped (pInts xs) = true := by
  unfold SeqAt.shaped pInts
  rw [PyData.canLay0, lay_ints, PyData.depth]
  have := dep_ints xs
  simp
  omega
theorem dpAll_ints (K : PySem.W.Frag) (H : Hp) : ∀ xs : List Int, DpAll K H (xs.map V.int) (xs.map PyData.int)
  | [] => .nil
  | x :: xs => .cons (.int x) (dpAll_ints K H xs)
theorem dp_ints {K : PySem.W.Frag} {H : Hp} {a : Addr} {xs : List Int} (h : SqL K H a (xs.map V.int)) : Dp K H (.ref a) (pInts xs) := .lst h (dpAll_ints K H xs)
theorem hu64 {A : Around} {k : Nat} (hr : Room k A) : A.units + 64 < cLine := by
  have := hr.un
  omega
theorem lc_zip {a b : Addr} {xs ys zs : List V} {te : TE} {i0 j0 : Nat} {vs : List Nat} {σ : L2.St} {H1 : Hp} {D : Addr} {Qd : Hp → Prop} (hD : H1 D = none) (hx : SqL K H1 a xs) (hy : SqL K H1 b ys) (hl : ys.length = xs.length) (hz : zs.length = xs.length) (hb : zs.length ≤ sizeLine)
    (hw : ∀ u v : V, wipe (((wipe σ vs).set i0 (some u)).set j0 (some v)) vs = wipe σ vs)
    (he : ∀ (i : Nat) (x y z : V) (H : Hp) (Q : VK), xs[i]? = some x → ys[i]? = some y → zs[i]? = some z → Same H1 H → (∀ H', Same H H' → Q z H') → te (((wipe σ vs).set i0 (some x)).set j0 (some y)) H Q)
    (hd : ∀ H, Same H1 H → H D = some (.lst zs) → Qd H) :
    ∃ W : Nat → Nat → Hp → Prop, (∃ m, W 0 m (upd H1 D (.lst []))) ∧ ∀ i m H, W i m H → ((Itz K a b).stop i H ∧ Qd H) ∨ ((Itz K a b).go i H ∧ ∃ Nx : Hp → Prop, (∀ H', Nx H' → ∃ m', m' < m ∧ W (i + 1) m' H') ∧
      ∀ x H', (Itz K a b).yld i H x H' → (gTup K 2 (gCons (gName i0) (gCons (gName j0) gNil))) x (wipe σ vs) H' fun σ2 H2 => wipe σ2 vs = wipe σ vs ∧ tYes σ2 H2 fun b H3 => if b = true then te σ2 H3 fun y H4 => ∃ acc, H4 D = some (.lst acc) ∧ acc.length < sizeLine ∧ Nx (upd H4 D (.lst (acc ++ [y]))) else Nx H3) := by
  refine ⟨fun i m H => m = zs.length - i ∧ i ≤ zs.length ∧ Same H1 H ∧ H D = some (.lst (zs.take i)), ⟨zs.length, rfl, Nat.zero_le _, Same.new hD, upd_same⟩, ?_⟩
  rintro i m H ⟨rfl, hi, sm, hH⟩
  by_cases lt : i < zs.length
  · have ex : xs[i]? = some (xs[i]'(by omega)) := List.getElem?_eq_getElem _
    have ey : ys[i]? = some (ys[i]'(by omega)) := List.getElem?_eq_getElem _
    have ez : zs[i]? = some zs[i] := List.getElem?_eq_getElem lt
    refine .inr ⟨⟨xs, ys, _, _, sm.seq hx, sm.seq hy, ex, ey⟩, fun H' => Same H1 H' ∧ H' D = some (.lst (zs.take (i + 1))), fun H' q => ⟨zs.length - (i + 1), by omega, rfl, lt, q.1, q.2⟩, ?_⟩
    rintro v H' ⟨T, x, y, rfl, hT, rfl, h1, h2⟩
    have hx2 := h1 _ (sm.seq hx)
    have hy2 := h2 _ (sm.seq hy)
    refine ⟨T, [x, y], rfl, SqT.of upd_same, rfl, x, _, rfl, y, _, rfl, rfl, hw x y, ?_⟩
    show te _ _ _
    have nDT : D ≠ T := ne_of_none hH hT
    refine he i x y _ _ _ hx2 hy2 ez (sm.trans (Same.new hT)) fun H4 s4 => ⟨zs.take i, s4 _ _ (by rw [upd_ne nDT]; exact hH), ?_, ?_, ?_⟩
    · rw [List.length_take]; omega
    · exact Same.put ((sm.trans (Same.new hT)).trans s4) hD
    · rw [upd_same, List.take_add_one, ez]; rfl
  · have e : i = zs.length := by omega
    subst e
    refine .inl ⟨⟨xs, ys, sm.seq hx, sm.seq hy, .inl (by omega)⟩, hd H sm ?_⟩
    rw [hH, List.take_length]
theorem lc_rangeF {lo : Int} {n : Nat} {f : Nat → Bool} {F : Nat → V} {tt : TT} {te : TE} {i0 : Nat} {vs : List Nat} {σ : L2.St} {H1 : Hp} {D : Addr} {Qd : Hp → Prop} (hD : H1 D = none) (hn : n ≤ sizeLine)
    (hw : ∀ u : V, wipe ((wipe σ vs).set i0 (some u)) vs = wipe σ vs)
    (ht : ∀ (i : Nat) (H : Hp) (Q : Bool → Hp → Prop), i < n → Same H1 H → Q (f i) H → tt ((wipe σ vs).set i0 (some (.int (lo + (i : Nat))))) H Q)
    (he : ∀ (i : Nat) (H : Hp) (Q : VK), i < n → Same H1 H → Q (F i) H → te ((wipe σ vs).set i0 (some (.int (lo + (i : Nat))))) H Q)
    (hd : ∀ H, Same H1 H → H D = some (.lst (((List.range n).filter f).map F)) → Qd H) :
    ∃ W : Nat → Nat → Hp → Prop, (∃ m, W 0 m (upd H1 D (.lst []))) ∧ ∀ i m H, W i m H → ((Itr lo n).stop i H ∧ Qd H) ∨ ((Itr lo n).go i H ∧ ∃ Nx : Hp → Prop, (∀ H', Nx H' → ∃ m', m' < m ∧ W (i + 1) m' H') ∧
      ∀ x H', (Itr lo n).yld i H x H' → (gName i0) x (wipe σ vs) H' fun σ2 H2 => wipe σ2 vs = wipe σ vs ∧ tt σ2 H2 fun b H3 => if b = true then te σ2 H3 fun y H4 => ∃ acc, H4 D = some (.lst acc) ∧ acc.length < sizeLine ∧ Nx (upd H4 D (.lst (acc ++ [y]))) else Nx H3) := by
  have step : ∀ i, ((List.range (i + 1)).filter f).map F = ((List.range i).filter f).map F ++ (if f i = true then [F i] else []) := fun i => by
    rw [List.range_succ, List.filter_append, List.map_append]
    by_cases h : f i = true
    · rw [if_pos h]; simp [List.filter_cons, h]
    · rw [if_neg h]; simp [List.filter_cons, h]
  have small : ∀ i, i < n → (((List.range i).filter f).map F).length < sizeLine := fun i h => by
    rw [List.length_map]
    have := List.length_filter_le f (List.range i)
    rw [List.length_range] at this
    omega
  refine lc_range (g := gName i0) (tt := tt) (te := te) (fun i H => Same H1 H ∧ H D = some (.lst (((List.range i).filter f).map F))) ⟨Same.new hD, upd_same⟩ ?_ (fun H q => hd H q.1 q.2)
  rintro i H hi ⟨sm, hH⟩
  refine ⟨hw _, ht i H _ hi sm ?_⟩
  by_cases h : f i = true
  · rw [if_pos h]
    refine he i H _ hi sm ⟨_, hH, small i hi, Same.put sm hD, ?_⟩
    rw [upd_same, step, if_pos h]
  · rw [if_neg h]
    exact ⟨sm, by rw [hH, step, if_neg h, List.append_nil]⟩
theorem eq_int (a b : Int) : decide (V.int a = V.int b) = decide (a = b) := by
  rw [decide_eq_decide]
  exact ⟨V.int.inj, congrArg V.int⟩
theorem eq_str (a b : Str) : decide (V.str a = V.str b) = decide (a = b) := by
  rw [decide_eq_decide]
  exact ⟨V.str.inj, congrArg V.str⟩
theorem lc_rangeS {lo : Int} {n : Nat} {f : Nat → Bool} {F : Nat → V} {tt : TT} {te : TE} {i0 : Nat} {vs : List Nat} {σ : L2.St} {H1 : Hp} {D : Addr} {Qd : Hp → Prop} (hD : H1 D = none) (hn : n ≤ sizeLine)
    (hw : ∀ u : V, wipe ((wipe σ vs).set i0 (some u)) vs = wipe σ vs)
    (ht : ∀ (i : Nat) (H : Hp) (Q : Bool → Hp → Prop), i < n → Same H1 H → (∀ H', Same H H' → Q (f i) H') → tt ((wipe σ vs).set i0 (some (.int (lo + (i : Nat))))) H Q)
    (he : ∀ (i : Nat) (H : Hp) (Q : VK), i < n → Same H1 H → Q (F i) H → te ((wipe σ vs).set i0 (some (.int (lo + (i : Nat))))) H Q)
    (hd : ∀ H, Same H1 H → H D = some (.lst (((List.range n).filter f).map F)) → Qd H) :
    ∃ W : Nat → Nat → Hp → Prop, (∃ m, W 0 m (upd H1 D (.lst []))) ∧ ∀ i m H, W i m H → ((Itr lo n).stop i H ∧ Qd H) ∨ ((Itr lo n).go i H ∧ ∃ Nx : Hp → Prop, (∀ H', Nx H' → ∃ m', m' < m ∧ W (i + 1) m' H') ∧
      ∀ x H', (Itr lo n).yld i H x H' → (gName i0) x (wipe σ vs) H' fun σ2 H2 => wipe σ2 vs = wipe σ vs ∧ tt σ2 H2 fun b H3 => if b = true then te σ2 H3 fun y H4 => ∃ acc, H4 D = some (.lst acc) ∧ acc.length < sizeLine ∧ Nx (upd H4 D (.lst (acc ++ [y]))) else Nx H3) := by
  have step : ∀ i, ((List.range (i + 1)).filter f).map F = ((List.range i).filter f).map F ++ (if f i = true then [F i] else []) := fun i => by
    rw [List.range_succ, List.filter_append, List.map_append]
    by_cases h : f i = true
    · rw [if_pos h]; simp [List.filter_cons, h]
    · rw [if_neg h]; simp [List.filter_cons, h]
  have small : ∀ i, i < n → (((List.range i).filter f).map F).length < sizeLine := fun i h => by
    rw [List.length_map]
    have := List.length_filter_le f (List.range i)
    rw [List.length_range] at this
    omega
  refine lc_range (g := gName i0) (tt := tt) (te := te) (fun i H => Same H1 H ∧ H D = some (.lst (((List.range i).filter f).map F))) ⟨Same.new hD, upd_same⟩ ?_ (fun H q => hd H q.1 q.2)
  rintro i H hi ⟨sm, hH⟩
  refine ⟨hw _, ht i H _ hi sm fun H' s' => ?_⟩
  have hH' := s' _ _ hH
  have sm' := sm.trans s'
  by_cases h : f i = true
  · rw [if_pos h]
    refine he i H' _ hi sm' ⟨_, hH', small i hi, Same.put sm' hD, ?_⟩
    rw [upd_same, step, if_pos h]
  · rw [if_neg h]
    exact ⟨sm', by rw [hH', step, if_neg h, List.append_nil]⟩
theorem pe_fldK {X : Cx} {K : PySem.W.Frag} {e : Expr} {f : Str} {pos : Pos} {ta : TE} (h : X.K = K) (ha : PE X e ta) (hb : attributeBase e f X.env (eval e X.env) = eval e X.env := by rfl) : PE X (.Attribute e f pos) (tFld K ta f) := by
  subst h
  exact pe_fld ha hb
def tTru (K : PySem.W.Frag) (ta : TE) : TT := fun σ H Q => ta σ H fun x H' => ∃ k, TruV K x H' k ∧ Q k H'
theorem pt_truthK {X : Cx} {K : PySem.W.Frag} {a : Expr} {ta : TE} (h : X.K = K) (ha : PE X a ta) (he : ∀ whole, isTrue a X.env whole = (do let v ← whole; standAt a.pos; holding [v] (truthy v)) := by intro _; rfl) :
    PT X a (tTru K ta) := by
  subst h
  exact pt_truth ha he
theorem op_inK {X : Cx} {K : PySem.W.Frag} (h : X.K = K) : OpR X (compareOp .In) (rIn K false) := by
  subst h
  exact op_in_seq
theorem But.refl (a : Addr) (H : Hp) : But a H H := fun _ _ e _ => e
theorem But.trans {a : Addr} {H H1 H2 : Hp} (x : But a H H1) (y : But a H1 H2) : But a H H2 := fun b o e hb => y b o (x b o e hb) hb
theorem But.put (a : Addr) (H : Hp) (o : HO) : But a H (upd H a o) := fun b u e hb => by rw [upd_ne hb]; exact e
theorem ix_tupK {X : Cx} {K : PySem.W.Frag} (h : X.K = K) : IxR X (rIxT K) := by
  subst h
  exact ix_tup
theorem ix_listK {X : Cx} {K : PySem.W.Frag} (h : X.K = K) : IxR X (rIxL K) := by
  subst h
  exact ix_list
theorem But.none {a b : Addr} {H H' : Hp} {o : HO} (s : But a H H') (h : H' a = some o) (hb : H' b = Option.none) : H b = Option.none := by
  cases e : H b with
  | none => rfl
  | some u =>
    have n : b ≠ a := fun q => by rw [q, h] at hb; cases hb
    rw [s b u e n] at hb
    cases hb
theorem sl_app (a b : Str) : sl (a ++ b) = sl a ++ sl b := by
  show (a.cps ++ b.cps).toList = _
  simp
theorem sl_sg (c : Nat) : sl (sg c) = [c] := rfl
theorem sl_mt : sl (Str.ofString "") = [] := by decide +kernel
theorem len_app (a b : Str) : (a ++ b).length = a.length + b.length := by
  rw [sl_len, sl_len, sl_len, sl_app, List.length_append]
theorem sl_ext {a b : Str} (h : sl a = sl b) : a = b := by
  obtain ⟨a⟩ := a
  obtain ⟨b⟩ := b
  have : a = b := by
    apply Array.ext'
    exact h
  rw [this]
theorem join_sg : ∀ zs : List Nat, sl (Txt.join (Str.ofString "") (zs.map sg)) = zs := by
  intro zs
  have e : Txt.join (Str.ofString "") (zs.map sg) = Str.join (Str.ofString "") (zs.map sg) := eq_of_beq (join_plain_closes _ _)
  rw [e]
  have e0 : Str.ofString "" = ⟨#[]⟩ := by decide +kernel
  rw [e0]
  induction zs with
  | nil => rfl
  | cons c r ih =>
    cases r with
    | nil => rfl
    | cons d r =>
      have e2 : Str.join ⟨#[]⟩ ((c :: d :: r).map sg) = sg c ++ ⟨#[]⟩ ++ Str.join ⟨#[]⟩ ((d :: r).map sg) := rfl
      rw [e2, sl_app, ih (eq_of_beq (join_plain_closes _ _)), sl_app]
      rfl
theorem lc_signs {z : Str} {tt : TT} {te : TE} {i0 : Nat} {vs : List Nat} {σ : L2.St} {H1 : Hp} {D : Addr} {Qd : Hp → Prop} (Pv : Nat → Hp → Prop) (h0 : Pv 0 (upd H1 D (.lst [])))
    (hs : ∀ (i c : Nat) (H : Hp), (sl z)[i]? = some c → Pv i H → wipe ((wipe σ vs).set i0 (some (.str (sg c)))) vs = wipe σ vs ∧ tt ((wipe σ vs).set i0 (some (.str (sg c)))) H fun b H3 => if b = true then te ((wipe σ vs).set i0 (some (.str (sg c)))) H3 fun y H4 => ∃ acc, H4 D = some (.lst acc) ∧ acc.length < sizeLine ∧ Pv (i + 1) (upd H4 D (.lst (acc ++ [y]))) else Pv (i + 1) H3)
    (hd : ∀ H, Pv (sl z).length H → Qd H) :
    ∃ W : Nat → Nat → Hp → Prop, (∃ m, W 0 m (upd H1 D (.lst []))) ∧ ∀ i m H, W i m H → ((Its z).stop i H ∧ Qd H) ∨ ((Its z).go i H ∧ ∃ Nx : Hp → Prop, (∀ H', Nx H' → ∃ m', m' < m ∧ W (i + 1) m' H') ∧
      ∀ x H', (Its z).yld i H x H' → (gName i0) x (wipe σ vs) H' fun σ2 H2 => wipe σ2 vs = wipe σ vs ∧ tt σ2 H2 fun b H3 => if b = true then te σ2 H3 fun y H4 => ∃ acc, H4 D = some (.lst acc) ∧ acc.length < sizeLine ∧ Nx (upd H4 D (.lst (acc ++ [y]))) else Nx H3) := by
  have hsz : z.cps.size = (sl z).length := by simp
  refine ⟨fun i m H => m = (sl z).length - i ∧ i ≤ (sl z).length ∧ Pv i H, ⟨(sl z).length, rfl, Nat.zero_le _, h0⟩, ?_⟩
  rintro i m H ⟨rfl, hi, p⟩
  by_cases lt : i < (sl z).length
  · refine .inr ⟨by show i < z.cps.size; omega, Pv (i + 1), fun H' q => ⟨(sl z).length - (i + 1), by omega, rfl, lt, q⟩, ?_⟩
    rintro x H' ⟨rfl, c, hc, rfl⟩
    exact hs i c _ (by rw [Array.getElem?_toList]; exact hc) p
  · have e : i = (sl z).length := by omega
    subst e
    exact .inl ⟨by show z.cps.size ≤ (sl z).length; omega, hd H p⟩
theorem for_signs {z : Str} {g : TG} {tb : TS} {D : Ends} {σ : L2.St} {H : Hp} (Pv : Nat → L2.St → Hp → Prop) (h0 : Pv 0 σ H)
    (hs : ∀ (i c : Nat) (σ : L2.St) (H : Hp), (sl z)[i]? = some c → Pv i σ H → g (.str (sg c)) σ H fun σ2 H2 => tb { D with nx := Pv (i + 1), ct := Pv (i + 1), bk := D.nx } σ2 H2) (hd : ∀ σ H, Pv (sl z).length σ H → D.nx σ H) :
    ∃ W : Nat → Nat → L2.St → Hp → Prop, (∃ m, W 0 m σ H) ∧ ∀ i m σ H, W i m σ H → ((Its z).stop i H ∧ D.nx σ H) ∨ ((Its z).go i H ∧ ∃ N : L2.St → Hp → Prop, (∀ σ' H', N σ' H' → ∃ m', m' < m ∧ W (i + 1) m' σ' H') ∧
      ∀ v H', (Its z).yld i H v H' → g v σ H' fun σ2 H2 => tb { D with nx := N, ct := N, bk := D.nx } σ2 H2) := by
  have hsz : z.cps.size = (sl z).length := by simp
  refine ⟨fun i m σ H => m = (sl z).length - i ∧ i ≤ (sl z).length ∧ Pv i σ H, ⟨(sl z).length, rfl, Nat.zero_le _, h0⟩, ?_⟩
  rintro i m σ H ⟨rfl, hi, p⟩
  by_cases lt : i < (sl z).length
  · refine .inr ⟨by show i < z.cps.size; omega, Pv (i + 1), fun σ' H' q => ⟨(sl z).length - (i + 1), by omega, rfl, lt, q⟩, ?_⟩
    rintro x H' ⟨rfl, c, hc, rfl⟩
    exact hs i c σ _ (by rw [Array.getElem?_toList]; exact hc) p
  · have e : i = (sl z).length := by omega
    subst e
    exact .inl ⟨by show z.cps.size ≤ (sl z).length; omega, hd σ H p⟩
theorem RZat {l : List Nat} {u : Int} (h : u.toNat < l.length) (h0 : 0 ≤ u) : atI l u = some l[u.toNat] := by
  have h2 := atI_nat (xs := l) (j := u.toNat) (List.getElem?_eq_getElem h)
  have e : ((u.toNat : Nat) : Int) = u := by omega
  rw [e] at h2
  exact h2
theorem map_snoc {α β : Type} (f : α → β) (l : List α) (x : α) : (l ++ [x]).map f = l.map f ++ [f x] := by simp
end
end Sx

set_option Elab.async false
set_option linter.all false
set_option maxRecDepth 100000
set_option maxHeartbeats 4000000
namespace Sx
open PySem PySem.Spec PyProof.Rows L2
/-- what stands behind the top -/
structure T (K : PySem.W.Frag) (mg : Str → Option Value) : Prop where
  c : SxK.SaysX fa fn xs K
  g : ∃ h : Heap, K.In h ∧ h.Ns mainGlobals mg
section
variable {K : PySem.W.Frag} {mg : Str → Option Value}
theorem T.g_number_word (t : T K mg) : mg "number_word" = some (.ref (He.ga K "number_word")) := by
  obtain ⟨h, X, G⟩ := t.g
  exact He.glo_ok X G (t.c.d.fact 0 (f := .glo "number_word") rfl)
theorem T.g_note_of (t : T K mg) : mg "note_of" = some (.ref (He.ga K "note_of")) := by
  obtain ⟨h, X, G⟩ := t.g
  exact He.glo_ok X G (t.c.d.fact 1 (f := .glo "note_of") rfl)
theorem T.g_noted_in (t : T K mg) : mg "noted_in" = some (.ref (He.ga K "noted_in")) := by
  obtain ⟨h, X, G⟩ := t.g
  exact He.glo_ok X G (t.c.d.fact 2 (f := .glo "noted_in") rfl)
theorem T.g_missing (t : T K mg) : mg "missing" = some (.ref (He.ga K "missing")) := by
  obtain ⟨h, X, G⟩ := t.g
  exact He.glo_ok X G (t.c.d.fact 3 (f := .glo "missing") rfl)
theorem T.g_filled (t : T K mg) : mg "filled" = some (.ref (He.ga K "filled")) := by
  obtain ⟨h, X, G⟩ := t.g
  exact He.glo_ok X G (t.c.d.fact 4 (f := .glo "filled") rfl)
theorem T.g_law_mix (t : T K mg) : mg "_law_mix" = some (.ref (He.ga K "_law_mix")) := by
  obtain ⟨h, X, G⟩ := t.g
  exact He.glo_ok X G (t.c.d.fact 5 (f := .glo "_law_mix") rfl)
theorem T.g_law_numbers (t : T K mg) : mg "_law_numbers" = some (.ref (He.ga K "_law_numbers")) := by
  obtain ⟨h, X, G⟩ := t.g
  exact He.glo_ok X G (t.c.d.fact 6 (f := .glo "_law_numbers") rfl)
theorem T.g_law_take (t : T K mg) : mg "_law_take" = some (.ref (He.ga K "_law_take")) := by
  obtain ⟨h, X, G⟩ := t.g
  exact He.glo_ok X G (t.c.d.fact 7 (f := .glo "_law_take") rfl)
theorem T.g_law_due (t : T K mg) : mg "_law_due" = some (.ref (He.ga K "_law_due")) := by
  obtain ⟨h, X, G⟩ := t.g
  exact He.glo_ok X G (t.c.d.fact 8 (f := .glo "_law_due") rfl)
theorem T.g_law_inside (t : T K mg) : mg "_law_inside" = some (.ref (He.ga K "_law_inside")) := by
  obtain ⟨h, X, G⟩ := t.g
  exact He.glo_ok X G (t.c.d.fact 9 (f := .glo "_law_inside") rfl)
theorem T.g_law_lines (t : T K mg) : mg "_law_lines" = some (.ref (He.ga K "_law_lines")) := by
  obtain ⟨h, X, G⟩ := t.g
  exact He.glo_ok X G (t.c.d.fact 10 (f := .glo "_law_lines") rfl)
theorem T.g_law_refused (t : T K mg) : mg "_law_refused" = some (.ref (He.ga K "_law_refused")) := by
  obtain ⟨h, X, G⟩ := t.g
  exact He.glo_ok X G (t.c.d.fact 11 (f := .glo "_law_refused") rfl)
theorem T.g_law_deed (t : T K mg) : mg "_law_deed" = some (.ref (He.ga K "_law_deed")) := by
  obtain ⟨h, X, G⟩ := t.g
  exact He.glo_ok X G (t.c.d.fact 12 (f := .glo "_law_deed") rfl)
theorem T.g_law (t : T K mg) : mg "law" = some (.ref (He.ga K "law")) := by
  obtain ⟨h, X, G⟩ := t.g
  exact He.glo_ok X G (t.c.d.fact 13 (f := .glo "law") rfl)
theorem T.f_ValueError (t : T K mg) : mg "ValueError" = none := by
  obtain ⟨h, X, G⟩ := t.g
  exact He.free_ok X G (t.c.d.fact 14 (f := .free "ValueError") rfl)
theorem T.f_abs (t : T K mg) : mg "abs" = none := by
  obtain ⟨h, X, G⟩ := t.g
  exact He.free_ok X G (t.c.d.fact 15 (f := .free "abs") rfl)
theorem T.f_divmod (t : T K mg) : mg "divmod" = none := by
  obtain ⟨h, X, G⟩ := t.g
  exact He.free_ok X G (t.c.d.fact 16 (f := .free "divmod") rfl)
theorem T.f_enumerate (t : T K mg) : mg "enumerate" = none := by
  obtain ⟨h, X, G⟩ := t.g
  exact He.free_ok X G (t.c.d.fact 17 (f := .free "enumerate") rfl)
theorem T.f_int (t : T K mg) : mg "int" = none := by
  obtain ⟨h, X, G⟩ := t.g
  exact He.free_ok X G (t.c.d.fact 18 (f := .free "int") rfl)
theorem T.f_len (t : T K mg) : mg "len" = none := by
  obtain ⟨h, X, G⟩ := t.g
  exact He.free_ok X G (t.c.d.fact 19 (f := .free "len") rfl)
theorem T.f_list (t : T K mg) : mg "list" = none := by
  obtain ⟨h, X, G⟩ := t.g
  exact He.free_ok X G (t.c.d.fact 20 (f := .free "list") rfl)
theorem T.f_range (t : T K mg) : mg "range" = none := by
  obtain ⟨h, X, G⟩ := t.g
  exact He.free_ok X G (t.c.d.fact 21 (f := .free "range") rfl)
theorem T.f_reversed (t : T K mg) : mg "reversed" = none := by
  obtain ⟨h, X, G⟩ := t.g
  exact He.free_ok X G (t.c.d.fact 22 (f := .free "reversed") rfl)
theorem T.f_sorted (t : T K mg) : mg "sorted" = none := by
  obtain ⟨h, X, G⟩ := t.g
  exact He.free_ok X G (t.c.d.fact 23 (f := .free "sorted") rfl)
theorem T.f_str (t : T K mg) : mg "str" = none := by
  obtain ⟨h, X, G⟩ := t.g
  exact He.free_ok X G (t.c.d.fact 24 (f := .free "str") rfl)
theorem T.f_super (t : T K mg) : mg "super" = none := by
  obtain ⟨h, X, G⟩ := t.g
  exact He.free_ok X G (t.c.d.fact 25 (f := .free "super") rfl)
theorem T.i_PART_DIGITS (t : T K mg) : ∃ k, mg "PART_DIGITS" = some (.int 64 k) := by
  obtain ⟨h, X, G⟩ := t.g
  exact He.int_ok X G (t.c.d.fact 26 (f := .int "PART_DIGITS" 64) rfl)
theorem T.i_PART (t : T K mg) : ∃ k, mg "PART" = some (.int 10000000000000000000000000000000000000000000000000000000000000000 k) := by
  obtain ⟨h, X, G⟩ := t.g
  exact He.int_ok X G (t.c.d.fact 27 (f := .int "PART" 10000000000000000000000000000000000000000000000000000000000000000) rfl)
theorem T.g_IN_PRESS (t : T K mg) : mg "IN_PRESS" = some (.ref (He.ga K "IN_PRESS")) := by
  obtain ⟨h, X, G⟩ := t.g
  exact He.glo_ok X G (t.c.d.fact 28 (f := .glo "IN_PRESS") rfl)
theorem T.g_SixdotError (t : T K mg) : mg "SixdotError" = some (.ref (He.ga K "SixdotError")) := by
  obtain ⟨h, X, G⟩ := t.g
  exact He.glo_ok X G (t.c.d.fact 29 (f := .glo "SixdotError") rfl)
theorem T.g_StrangeSheet (t : T K mg) : mg "StrangeSheet" = some (.ref (He.ga K "StrangeSheet")) := by
  obtain ⟨h, X, G⟩ := t.g
  exact He.glo_ok X G (t.c.d.fact 30 (f := .glo "StrangeSheet") rfl)
theorem T.g_NotMissing (t : T K mg) : mg "NotMissing" = some (.ref (He.ga K "NotMissing")) := by
  obtain ⟨h, X, G⟩ := t.g
  exact He.glo_ok X G (t.c.d.fact 31 (f := .glo "NotMissing") rfl)
theorem T.g_InvalidJournal (t : T K mg) : mg "InvalidJournal" = some (.ref (He.ga K "InvalidJournal")) := by
  obtain ⟨h, X, G⟩ := t.g
  exact He.glo_ok X G (t.c.d.fact 32 (f := .glo "InvalidJournal") rfl)
theorem T.g_Heap (t : T K mg) : mg "Heap" = some (.ref (He.ga K "Heap")) := by
  obtain ⟨h, X, G⟩ := t.g
  exact He.glo_ok X G (t.c.d.fact 33 (f := .glo "Heap") rfl)
theorem T.c_Heap (t : T K mg) : Cls K (He.ga K "Heap") := He.cls_ok (t.c.d.fact 34 (f := .cls "Heap") rfl)
theorem T.m_Heap (t : T K mg) : Mk K (He.ga K "Heap") (He.ma K (He.ga K "Heap") "__init__") := He.mkr_ok (t.c.d.fact 35 (f := .mkr "Heap") rfl)
theorem T.k_Heap_drop (t : T K mg) : Meth K (He.ga K "Heap") "drop" (He.ma K (He.ga K "Heap") "drop") := He.meth_ok (t.c.d.fact 36 (f := .meth "Heap" "drop") rfl)
theorem T.k_Heap_fall (t : T K mg) : Meth K (He.ga K "Heap") "fall" (He.ma K (He.ga K "Heap") "fall") := He.meth_ok (t.c.d.fact 37 (f := .meth "Heap" "fall") rfl)
theorem T.k_Heap_sheets (t : T K mg) : Meth K (He.ga K "Heap") "sheets" (He.ma K (He.ga K "Heap") "sheets") := He.meth_ok (t.c.d.fact 38 (f := .meth "Heap" "sheets") rfl)
theorem T.k_Heap_dropped (t : T K mg) : Meth K (He.ga K "Heap") "dropped" (He.ma K (He.ga K "Heap") "dropped") := He.meth_ok (t.c.d.fact 39 (f := .meth "Heap" "dropped") rfl)
theorem T.n_Heap__lying (t : T K mg) : NoAttr K (He.ga K "Heap") "_lying" := He.noat_ok (t.c.d.fact 40 (f := .noat "Heap" "_lying") rfl)
theorem T.n_Heap__counter (t : T K mg) : NoAttr K (He.ga K "Heap") "_counter" := He.noat_ok (t.c.d.fact 41 (f := .noat "Heap" "_counter") rfl)
theorem T.g_Press (t : T K mg) : mg "Press" = some (.ref (He.ga K "Press")) := by
  obtain ⟨h, X, G⟩ := t.g
  exact He.glo_ok X G (t.c.d.fact 42 (f := .glo "Press") rfl)
theorem T.c_Press (t : T K mg) : Cls K (He.ga K "Press") := He.cls_ok (t.c.d.fact 43 (f := .cls "Press") rfl)
theorem T.m_Press (t : T K mg) : Mk K (He.ga K "Press") (He.ma K (He.ga K "Press") "__init__") := He.mkr_ok (t.c.d.fact 44 (f := .mkr "Press") rfl)
theorem T.k_Press_step (t : T K mg) : Meth K (He.ga K "Press") "step" (He.ma K (He.ga K "Press") "step") := He.meth_ok (t.c.d.fact 45 (f := .meth "Press" "step") rfl)
theorem T.k_Press_jam (t : T K mg) : Meth K (He.ga K "Press") "jam" (He.ma K (He.ga K "Press") "jam") := He.meth_ok (t.c.d.fact 46 (f := .meth "Press" "jam") rfl)
theorem T.k_Press_journal (t : T K mg) : Meth K (He.ga K "Press") "journal" (He.ma K (He.ga K "Press") "journal") := He.meth_ok (t.c.d.fact 47 (f := .meth "Press" "journal") rfl)
theorem T.k_Press_inside (t : T K mg) : Meth K (He.ga K "Press") "inside" (He.ma K (He.ga K "Press") "inside") := He.meth_ok (t.c.d.fact 48 (f := .meth "Press" "inside") rfl)
theorem T.n_Press__wanted (t : T K mg) : NoAttr K (He.ga K "Press") "_wanted" := He.noat_ok (t.c.d.fact 49 (f := .noat "Press" "_wanted") rfl)
theorem T.n_Press__heap (t : T K mg) : NoAttr K (He.ga K "Press") "_heap" := He.noat_ok (t.c.d.fact 50 (f := .noat "Press" "_heap") rfl)
theorem T.n_Press__noted (t : T K mg) : NoAttr K (He.ga K "Press") "_noted" := He.noat_ok (t.c.d.fact 51 (f := .noat "Press" "_noted") rfl)
theorem T.n_Press__done (t : T K mg) : NoAttr K (He.ga K "Press") "_done" := He.noat_ok (t.c.d.fact 52 (f := .noat "Press" "_done") rfl)
theorem T.d_Heap_init (t : T K mg) : ∃ fd, FunD K "__init__" "Heap.__init__" (defArgs sHeapInit) (defBody sHeapInit) (defScope sHeapInit) [] [] (He.ma K (He.ga K "Heap") "__init__") fd := t.c.d.def_ 0 (d := dHeapInit) rfl
theorem T.d_Heap_drop (t : T K mg) : ∃ fd, FunD K "drop" "Heap.drop" (defArgs sHeapDrop) (defBody sHeapDrop) (defScope sHeapDrop) [] [] (He.ma K (He.ga K "Heap") "drop") fd := t.c.d.def_ 1 (d := dHeapDrop) rfl
theorem T.d_Heap_fall (t : T K mg) : ∃ fd, FunD K "fall" "Heap.fall" (defArgs sHeapFall) (defBody sHeapFall) (defScope sHeapFall) [] [] (He.ma K (He.ga K "Heap") "fall") fd := t.c.d.def_ 2 (d := dHeapFall) rfl
theorem T.d_Heap_sheets (t : T K mg) : ∃ fd, FunD K "sheets" "Heap.sheets" (defArgs sHeapSheets) (defBody sHeapSheets) (defScope sHeapSheets) [] [] (He.ma K (He.ga K "Heap") "sheets") fd := t.c.d.def_ 3 (d := dHeapSheets) rfl
theorem T.d_Heap_dropped (t : T K mg) : ∃ fd, FunD K "dropped" "Heap.dropped" (defArgs sHeapDropped) (defBody sHeapDropped) (defScope sHeapDropped) [] [] (He.ma K (He.ga K "Heap") "dropped") fd := t.c.d.def_ 4 (d := dHeapDropped) rfl
theorem T.d_Press_init (t : T K mg) : ∃ fd, FunD K "__init__" "Press.__init__" (defArgs sPressInit) (defBody sPressInit) (defScope sPressInit) [] (He.DefD.kws K dPressInit) (He.ma K (He.ga K "Press") "__init__") fd := t.c.d.def_ 5 (d := dPressInit) rfl
theorem T.d_Press_step (t : T K mg) : ∃ fd, FunD K "step" "Press.step" (defArgs sPressStep) (defBody sPressStep) (defScope sPressStep) [] [] (He.ma K (He.ga K "Press") "step") fd := t.c.d.def_ 6 (d := dPressStep) rfl
theorem T.d_Press_jam (t : T K mg) : ∃ fd, FunD K "jam" "Press.jam" (defArgs sPressJam) (defBody sPressJam) (defScope sPressJam) [] [] (He.ma K (He.ga K "Press") "jam") fd := t.c.d.def_ 7 (d := dPressJam) rfl
theorem T.d_Press_journal (t : T K mg) : ∃ fd, FunD K "journal" "Press.journal" (defArgs sPressJournal) (defBody sPressJournal) (defScope sPressJournal) [] [] (He.ma K (He.ga K "Press") "journal") fd := t.c.d.def_ 8 (d := dPressJournal) rfl
theorem T.d_Press_inside (t : T K mg) : ∃ fd, FunD K "inside" "Press.inside" (defArgs sPressInside) (defBody sPressInside) (defScope sPressInside) [] [] (He.ma K (He.ga K "Press") "inside") fd := t.c.d.def_ 9 (d := dPressInside) rfl
theorem T.d_number_word (t : T K mg) : Fd K "number_word" sNumberWord := t.c.d.def_ 10 (d := dNumberWord) rfl
theorem T.d_note_of (t : T K mg) : Fd K "note_of" sNoteOf := t.c.d.def_ 11 (d := dNoteOf) rfl
theorem T.d_noted_in (t : T K mg) : Fd K "noted_in" sNotedIn := t.c.d.def_ 12 (d := dNotedIn) rfl
theorem T.d_missing (t : T K mg) : Fd K "missing" sMissing := t.c.d.def_ 13 (d := dMissing) rfl
theorem T.d_filled (t : T K mg) : Fd K "filled" sFilled := t.c.d.def_ 14 (d := dFilled) rfl
theorem T.d_law_mix (t : T K mg) : Fd K "_law_mix" sLawMix := t.c.d.def_ 15 (d := dLawMix) rfl
theorem T.d_law_numbers (t : T K mg) : Fd K "_law_numbers" sLawNumbers := t.c.d.def_ 16 (d := dLawNumbers) rfl
theorem T.d_law_take (t : T K mg) : Fd K "_law_take" sLawTake := t.c.d.def_ 17 (d := dLawTake) rfl
theorem T.d_law_due (t : T K mg) : Fd K "_law_due" sLawDue := t.c.d.def_ 18 (d := dLawDue) rfl
theorem T.d_law_inside (t : T K mg) : Fd K "_law_inside" sLawInside := t.c.d.def_ 19 (d := dLawInside) rfl
theorem T.d_law_lines (t : T K mg) : Fd K "_law_lines" sLawLines := t.c.d.def_ 20 (d := dLawLines) rfl
theorem T.d_law_refused (t : T K mg) : Fd K "_law_refused" sLawRefused := t.c.d.def_ 21 (d := dLawRefused) rfl
theorem T.d_law_deed (t : T K mg) : Fd K "_law_deed" sLawDeed := t.c.d.def_ 22 (d := dLawDeed) rfl
theorem T.d_law (t : T K mg) : Fd K "law" sLaw := t.c.d.def_ 23 (d := dLaw) rfl
theorem T.e_StrangeSheet (t : T K mg) {P : Program} (hf : P.main.file = xStrangeSheet.file) (ht : (P.main.scope.names.lookup ("super" : Str)).isSome = false) : SxK.ErrC P K mg xStrangeSheet := by
  obtain ⟨h, X, G⟩ := t.g
  exact SxK.SupD.err X G (t.c.sup 0 (d := xStrangeSheet) rfl).1 (t.c.sup 0 (d := xStrangeSheet) rfl).2 hf ht
theorem T.e_NotMissing (t : T K mg) {P : Program} (hf : P.main.file = xNotMissing.file) (ht : (P.main.scope.names.lookup ("super" : Str)).isSome = false) : SxK.ErrC P K mg xNotMissing := by
  obtain ⟨h, X, G⟩ := t.g
  exact SxK.SupD.err X G (t.c.sup 1 (d := xNotMissing) rfl).1 (t.c.sup 1 (d := xNotMissing) rfl).2 hf ht
theorem T.y_InvalidJournal {w : World} (c : SxK.SaysXU fa fn xs ts us ys w K) {h : Heap} (X : K.In h) (G : h.Ns mainGlobals mg) : SxK.PexC K mg "InvalidJournal" := c.pex 0 rfl X G
end
end Sx

set_option Elab.async false
set_option linter.all false
set_option maxRecDepth 100000
set_option maxHeartbeats 1000000
namespace Sx
open PySem PySem.Spec PyProof.Rows L2 SxA
/-! ### classes: methods that do not raise, and what is made -/
section
variable {P : Program} {w : World} {K : PySem.W.Frag} {mg : Str → Option Value} {base : Heap}
def Met (P : Program) (w : World) (K : PySem.W.Frag) (mg : Str → Option Value) (base : Heap) (k : Nat) (C m : Str) (ps : List Str) (sp : Sp) : Prop :=
  ∃ fd, FnOk P w K mg base CX0 k (He.ma K (He.ga K C) m) fd ps sp ∧ Binds K fd ps []
theorem mkMet {C m qual : Str} {st : Stmt} {N ps : List Str} {k : Nat} {sp : Sp} (d : ∃ fd, FunD K m qual (defArgs st) (defBody st) (defScope st) [] [] (He.ma K (He.ga K C) m) fd) (S : FnScope N ps (defScope st)) (len : ∀ vs H Q E, sp vs H Q E → vs.length = ps.length)
    (bnd : ∀ (kV doc pm : Value) (an : Option Addr) (cdv ct : Value) (us : List Value), us.length = ps.length → bindArgs (PySem.W.fnOf m qual (defArgs st) (defBody st) (defScope st) .none kV doc pm an cdv ct) ⟨us, []⟩ = pure (ps.zip us))
    (body : ∀ (cdv : Value) (A : Around) (outer : List Env) (s : Shared) (H0 : Hp) (vs : List V) (Q : VK) (E : XK), Room k (A.deeper (envOfC qual (defScope st) s.heap.objs.size (He.ma K (He.ga K C) m) cdv)) → sp vs H0 Q E →
      ∃ t, PSs (cxOf CX0 P w K mg base N qual (defScope st) (He.ma K (He.ga K C) m) cdv A outer s H0 E).nox (defBody st) t ∧ t { nx := fun _ H' => Q .non H', rt := Q } (start N vs) H0) : Met P w K mg base (k + 1) C m ps sp := by
  obtain ⟨fd, F⟩ := d
  refine ⟨fd, F.ok S len fun cdv A outer s H vs Q E hr h => ?_, F.bindsN bnd⟩
  obtain ⟨t, h1, h2⟩ := body cdv A outer s H vs Q E hr h
  exact ⟨t, h1.nox, h2⟩
theorem pe_met {X : Cx} {k : Nat} {C m : Str} {ps : List Str} {sp : Sp} {apos pos : Pos} {o e : Expr} {es : List Expr} {ta : TE} {t : TA} {pl : Sem Bool} (M : Met X.prog X.w X.K X.mg X.base k C m ps sp) (c : Cls X.K (He.ga X.K C)) (hm : Meth X.K (He.ga X.K C) m (He.ma X.K (He.ga X.K C) m))
    (hr : Room k X.A) (he : PE X o ta) (ha : PA X (e :: es) t)
    (hst : starEach (e :: es) X.env = (false, eval e X.env) :: starEach es X.env := by rfl) (hpl : (backTo pos (starEach es X.env)).any (·.1) = false := by rfl)
    (ht : eval (.Call (.Attribute o m apos) (e :: es) [] pos) X.env = (do
      let ov ← eval o X.env
      standAt apos.atName
      let (f, first) ← holding [ov] (getMethod ov m pl)
      callWith pos f first (backTo pos (starEach (e :: es) X.env)) (backToKw pos (keywordEach [] X.env))) := by rfl) :
    PE X (.Call (.Attribute o m apos) (e :: es) [] pos) (tMeth (He.ga X.K C) m sp [] E0 ta t) := by
  obtain ⟨fd, F, b⟩ := M
  exact pe_meth he c hm F hr b .nil pass0 ha hst hpl ht
theorem pe_met0 {X : Cx} {k : Nat} {C m : Str} {ps : List Str} {sp : Sp} {apos pos : Pos} {o : Expr} {ta : TE} {pl : Sem Bool} (M : Met X.prog X.w X.K X.mg X.base k C m ps sp) (c : Cls X.K (He.ga X.K C)) (hm : Meth X.K (He.ga X.K C) m (He.ma X.K (He.ga X.K C) m))
    (hr : Room k X.A) (he : PE X o ta)
    (ht : eval (.Call (.Attribute o m apos) [] [] pos) X.env = (do
      let ov ← eval o X.env
      standAt apos.atName
      let (f, first) ← holding [ov] (getMethod ov m pl)
      callWith pos f first (backTo pos (starEach [] X.env)) (backToKw pos (keywordEach [] X.env))) := by rfl) :
    PE X (.Call (.Attribute o m apos) [] [] pos) (tMeth (He.ga X.K C) m sp [] E0 ta tNil) := by
  obtain ⟨fd, F, b⟩ := M
  exact pe_meth0 he c hm F hr b .nil pass0 ht
theorem pe_metK {X : Cx} {K : PySem.W.Frag} {k : Nat} {C m : Str} {ps : List Str} {sp : Sp} {apos pos : Pos} {o e : Expr} {es : List Expr} {ta : TE} {t : TA} {pl : Sem Bool} (h : X.K = K) (M : Met X.prog X.w K X.mg X.base k C m ps sp) (c : Cls K (He.ga K C)) (hm : Meth K (He.ga K C) m (He.ma K (He.ga K C) m))
    (hr : Room k X.A) (he : PE X o ta) (ha : PA X (e :: es) t)
    (hst : starEach (e :: es) X.env = (false, eval e X.env) :: starEach es X.env := by rfl) (hpl : (backTo pos (starEach es X.env)).any (·.1) = false := by rfl)
    (ht : eval (.Call (.Attribute o m apos) (e :: es) [] pos) X.env = (do
      let ov ← eval o X.env
      standAt apos.atName
      let (f, first) ← holding [ov] (getMethod ov m pl)
      callWith pos f first (backTo pos (starEach (e :: es) X.env)) (backToKw pos (keywordEach [] X.env))) := by rfl) :
    PE X (.Call (.Attribute o m apos) (e :: es) [] pos) (tMeth (He.ga K C) m sp [] E0 ta t) := by
  subst h
  exact pe_met M c hm hr he ha hst hpl ht
theorem pe_met0K {X : Cx} {K : PySem.W.Frag} {k : Nat} {C m : Str} {ps : List Str} {sp : Sp} {apos pos : Pos} {o : Expr} {ta : TE} {pl : Sem Bool} (h : X.K = K) (M : Met X.prog X.w K X.mg X.base k C m ps sp) (c : Cls K (He.ga K C)) (hm : Meth K (He.ga K C) m (He.ma K (He.ga K C) m))
    (hr : Room k X.A) (he : PE X o ta)
    (ht : eval (.Call (.Attribute o m apos) [] [] pos) X.env = (do
      let ov ← eval o X.env
      standAt apos.atName
      let (f, first) ← holding [ov] (getMethod ov m pl)
      callWith pos f first (backTo pos (starEach [] X.env)) (backToKw pos (keywordEach [] X.env))) := by rfl) :
    PE X (.Call (.Attribute o m apos) [] [] pos) (tMeth (He.ga K C) m sp [] E0 ta tNil) := by
  subst h
  exact pe_met0 M c hm hr he ht
theorem pe_mk {X : Cx} {k : Nat} {C : Str} {ps : List Str} {sp : Sp} {p pos : Pos} {e : Expr} {es : List Expr} {t : TA} (M : Met X.prog X.w X.K X.mg X.base k C "__init__" ps sp) (m : Mk X.K (He.ga X.K C) (He.ma X.K (He.ga X.K C) "__init__")) (hm : X.mg C = some (.ref (He.ga X.K C)))
    (hr : Room (k + 1) X.A) (hg : Gl X C) (ha : PA X (e :: es) t)
    (hdb : (C == ("__debug__" : Str)) = false := by decide) (he : starEach (e :: es) X.env = (false, eval e X.env) :: starEach es X.env := by rfl) (hpl : (backTo pos (starEach es X.env)).any (·.1) = false := by rfl) :
    PE X (.Call (.Name C p) (e :: es) [] pos) (tMake (He.ga X.K C) sp [] E0 t) := by
  obtain ⟨fd, F, b⟩ := M
  exact pe_make m F hr hg hm b .nil pass0 ha hdb he hpl
end
end Sx

set_option Elab.async false
set_option linter.all false
set_option maxRecDepth 100000
set_option maxHeartbeats 2000000
namespace Sx
open PySem PySem.Spec PyProof.Rows L2 SxA SxK
/-! ### defs and methods that may raise -/
def OkX (P : Program) (w : World) (K : PySem.W.Frag) (mg : Str → Option Value) (base : Heap) (k : Nat) (x : Str) (ps : List Str) (sp : Sp) : Prop :=
  ∃ fd, FnOk P w K mg base (L2.CX P w) k (He.ga K x) fd ps sp ∧ Binds K fd ps [] ∧ PySem.W.keepIn K (.ref (He.ga K x)) = true ∧ mg x = some (.ref (He.ga K x))
def MetX (P : Program) (w : World) (K : PySem.W.Frag) (mg : Str → Option Value) (base : Heap) (k : Nat) (C m : Str) (ps : List Str) (sp : Sp) : Prop :=
  ∃ fd, FnOk P w K mg base (L2.CX P w) k (He.ma K (He.ga K C) m) fd ps sp ∧ Binds K fd ps []
section
variable {P : Program} {w : World} {K : PySem.W.Frag} {mg : Str → Option Value} {base : Heap}
theorem mkOkX {x : Str} {st : Stmt} {N ps : List Str} {k : Nat} {sp : Sp} (d : Fd K x st) (hx : mg x = some (.ref (He.ga K x))) (S : FnScope N ps (defScope st)) (len : ∀ vs H Q E, sp vs H Q E → vs.length = ps.length)
    (bnd : ∀ (kV doc pm : Value) (an : Option Addr) (cdv ct : Value) (us : List Value), us.length = ps.length → bindArgs (PySem.W.fnOf x x (defArgs st) (defBody st) (defScope st) .none kV doc pm an cdv ct) ⟨us, []⟩ = pure (ps.zip us))
    (body : ∀ (cdv : Value) (A : Around) (outer : List Env) (s : Shared) (H0 : Hp) (vs : List V) (Q : VK) (E : XK), Room k (A.deeper (envOfC x (defScope st) s.heap.objs.size (He.ga K x) cdv)) → sp vs H0 Q E →
      ∃ t, PSs (cxOf (L2.CX P w) P w K mg base N x (defScope st) (He.ga K x) cdv A outer s H0 E) (defBody st) t ∧ t { nx := fun _ H' => Q .non H', rt := Q } (start N vs) H0) : OkX P w K mg base (k + 1) x ps sp := by
  obtain ⟨fd, F⟩ := d
  exact ⟨fd, F.ok S len body, F.bindsN bnd, F.kp, hx⟩
theorem pe_okX {X : Cx} {W : WX} {k : Nat} {x : Str} {ps : List Str} {sp : Sp} {p pos : Pos} {e : Expr} {es : List Expr} {t : TA} (o : OkX X.prog X.w X.K X.mg X.base k x ps sp) (hr : Room k X.A) (hg : Gl X x) (tk : Takes X W) (ha : PA X (e :: es) t)
    (hdb : (x == ("__debug__" : Str)) = false := by decide) (hs : starEach (e :: es) X.env = (false, eval e X.env) :: starEach es X.env := by rfl) (hpl : ((backTo pos (starEach es X.env)).any (·.1)) = false := by rfl) :
    PE X (.Call (.Name x p) (e :: es) [] pos) (tCallS sp (WE W) t) := by
  obtain ⟨fd, F, b, kp, hm⟩ := o
  exact pe_callS F hr hg hm kp b (fun σ => passAt tk σ) ha hdb hs hpl
theorem mkMetX {C m qual : Str} {st : Stmt} {N ps : List Str} {k : Nat} {sp : Sp} (d : ∃ fd, FunD K m qual (defArgs st) (defBody st) (defScope st) [] [] (He.ma K (He.ga K C) m) fd) (S : FnScope N ps (defScope st)) (len : ∀ vs H Q E, sp vs H Q E → vs.length = ps.length)
    (bnd : ∀ (kV doc pm : Value) (an : Option Addr) (cdv ct : Value) (us : List Value), us.length = ps.length → bindArgs (PySem.W.fnOf m qual (defArgs st) (defBody st) (defScope st) .none kV doc pm an cdv ct) ⟨us, []⟩ = pure (ps.zip us))
    (body : ∀ (cdv : Value) (A : Around) (outer : List Env) (s : Shared) (H0 : Hp) (vs : List V) (Q : VK) (E : XK), Room k (A.deeper (envOfC qual (defScope st) s.heap.objs.size (He.ma K (He.ga K C) m) cdv)) → sp vs H0 Q E →
      ∃ t, PSs (cxOf (L2.CX P w) P w K mg base N qual (defScope st) (He.ma K (He.ga K C) m) cdv A outer s H0 E) (defBody st) t ∧ t { nx := fun _ H' => Q .non H', rt := Q } (start N vs) H0) : MetX P w K mg base (k + 1) C m ps sp := by
  obtain ⟨fd, F⟩ := d
  exact ⟨fd, F.ok S len body, F.bindsN bnd⟩
theorem pe_metX {X : Cx} {E : XK} {k : Nat} {C m : Str} {ps : List Str} {sp : Sp} {apos pos : Pos} {o e : Expr} {es : List Expr} {ta : TE} {t : TA} {pl : Sem Bool} (M : MetX X.prog X.w X.K X.mg X.base k C m ps sp) (c : Cls X.K (He.ga X.K C)) (hm : Meth X.K (He.ga X.K C) m (He.ma X.K (He.ga X.K C) m))
    (hr : Room k X.A) (hx : Passes (L2.CX X.prog X.w) X E) (he : PE X o ta) (ha : PA X (e :: es) t)
    (hst : starEach (e :: es) X.env = (false, eval e X.env) :: starEach es X.env := by rfl) (hpl : (backTo pos (starEach es X.env)).any (·.1) = false := by rfl)
    (ht : eval (.Call (.Attribute o m apos) (e :: es) [] pos) X.env = (do
      let ov ← eval o X.env
      standAt apos.atName
      let (f, first) ← holding [ov] (getMethod ov m pl)
      callWith pos f first (backTo pos (starEach (e :: es) X.env)) (backToKw pos (keywordEach [] X.env))) := by rfl) :
    PE X (.Call (.Attribute o m apos) (e :: es) [] pos) (tMeth (He.ga X.K C) m sp [] E ta t) := by
  obtain ⟨fd, F, b⟩ := M
  exact pe_meth he c hm F hr b .nil hx ha hst hpl ht
theorem pe_metX0 {X : Cx} {E : XK} {k : Nat} {C m : Str} {ps : List Str} {sp : Sp} {apos pos : Pos} {o : Expr} {ta : TE} {pl : Sem Bool} (M : MetX X.prog X.w X.K X.mg X.base k C m ps sp) (c : Cls X.K (He.ga X.K C)) (hm : Meth X.K (He.ga X.K C) m (He.ma X.K (He.ga X.K C) m))
    (hr : Room k X.A) (hx : Passes (L2.CX X.prog X.w) X E) (he : PE X o ta)
    (ht : eval (.Call (.Attribute o m apos) [] [] pos) X.env = (do
      let ov ← eval o X.env
      standAt apos.atName
      let (f, first) ← holding [ov] (getMethod ov m pl)
      callWith pos f first (backTo pos (starEach [] X.env)) (backToKw pos (keywordEach [] X.env))) := by rfl) :
    PE X (.Call (.Attribute o m apos) [] [] pos) (tMeth (He.ga X.K C) m sp [] E ta tNil) := by
  obtain ⟨fd, F, b⟩ := M
  exact pe_meth0 he c hm F hr b .nil hx ht
/-! ### an exception with one int, told by an f-string -/
def spXInt (K : PySem.W.Frag) (C f : Str) : Sp := fun vs H Q _ => ∃ (a : Addr) (l : Int), vs = [.ref a, .int l] ∧ H a = some (exo a (He.ga K C) none) ∧ (0 ≤ l ∧ l < 10 ^ 10) ∧
  ∀ H1 d, Same H H1 → H1 d = none → d ≠ a → Q .non (upd (upd H1 a (exo a (He.ga K C) (some d))) d (exd d [(f, .int l)]))
theorem lg10 {l : Int} (h0 : 0 ≤ l) (h : l < 10 ^ 10) : l.natAbs.log2 < 1920 := by
  by_cases n : l.natAbs = 0
  · rw [n]; decide
  · exact (Nat.log2_lt n).mpr (Nat.lt_of_lt_of_le (show l.natAbs < 10 ^ 10 by omega) (by decide))
/-- what such an error lets be known -/
def ErI (K : PySem.W.Frag) (C f : Str) (E : XK) (H : Hp) (l : Int) : Prop := ∀ d H', Same H H' → H' d = some (.xd [(f, .int l)]) → E (.ref (He.ga K C)) (some d) H'
theorem ErI.same {C f : Str} {E : XK} {H H2 : Hp} {l : Int} (e : ErI K C f E H l) (s : Same H H2) : ErI K C f E H2 l := fun d H' s2 h => e d H' (s.trans s2) h
theorem mk_errI {C f : Str} {H : Hp} {l : Int} {Q : XK} (hl : 0 ≤ l ∧ l < 10 ^ 10) (q : ErI K C f Q H l) :
    [V.int l].length ≤ 1000 ∧ ∀ a, H a = none → spXInt K C f (.ref a :: ([V.int l] ++ [])) (upd H a (exo a (He.ga K C) none))
      (fun v H2 => v = .non ∧ ∃ (d : Addr) (fs : List (Str × V)), H2 a = some (exo a (He.ga K C) (some d)) ∧ H2 d = some (exd d fs) ∧ H d = none ∧ Q (.ref (He.ga K C)) (some d) (upd (del H2 a) d (.xd fs))) (fun _ _ _ => False) := by
  refine ⟨(by show 1 ≤ 1000; decide), fun a ha => ⟨a, l, rfl, upd_same, hl, fun H1 d s1 hd ne => ?_⟩⟩
  have hd0 : H d = none := by
    have e := s1.free hd
    rw [upd_ne ne] at e
    exact e
  refine ⟨rfl, d, [(f, .int l)], by rw [upd_ne ne.symm]; exact upd_same, upd_same, hd0, ?_⟩
  refine q d _ (fun b o hb => ?_) upd_same
  have b1 : b ≠ d := ne_of_none hb hd0
  have b2 : b ≠ a := ne_of_none hb ha
  rw [upd_ne b1, del_ne b2, upd_ne b1, upd_ne b2]
  exact s1 b o (by rw [upd_ne b2]; exact hb)
end
end Sx

set_option Elab.async false
set_option linter.all false
set_option maxRecDepth 100000
set_option maxHeartbeats 1000000
namespace Sx
open PySem PySem.Spec PyProof.Rows L2 SxA HT
/-! ### tuples of ints -/
abbrev ti (ns : List Int) : HO := .tup (ns.map V.int)
section
variable {K : PySem.W.Frag} {H : Hp} {Q : VK}
def pTupI (cs : List Int) : PyData := .tuple (cs.map PyData.int)
theorem eqv_tupI (xs ys : List Int) : PyData.eqv (pTupI xs) (pTupI ys) = decide (xs = ys) := by
  unfold pTupI
  rw [PyData.eqv]
  exact eqvAll_ints xs ys
theorem shaped_tupI (xs : List Int) : SeqAt.shaped (pTupI xs) = true := by
  unfold SeqAt.shaped pTupI
  rw [PyData.canLay0, lay_ints, PyData.depth]
  have := dep_ints xs
  simp
  omega
theorem eqTT {p q : Addr} {xs ys : List Int} (h1 : H p = some (ti xs)) (h2 : H q = some (ti ys)) (k : Q (.bl (decide (xs = ys))) H) : rEqD K (.ref p) (.ref q) H Q := by
  refine ⟨pTupI xs, pTupI ys, .tup (SqT.of h1) (dpAll_ints K H xs), .tup (SqT.of h2) (dpAll_ints K H ys), shaped_tupI _, shaped_tupI _, ?_⟩
  rw [eqv_tupI]
  exact k
theorem eqL {p q : Addr} {xs ys : List Int} (h1 : H p = some (.lst (xs.map V.int))) (h2 : H q = some (.lst (ys.map V.int))) (k : Q (.bl (decide (xs = ys))) H) : rEqD K (.ref p) (.ref q) H Q := by
  refine ⟨pInts xs, pInts ys, dp_ints (SqL.of h1), dp_ints (SqL.of h2), shaped_ints _, shaped_ints _, ?_⟩
  rw [eqv_ints]
  exact k
theorem slT_to {a : Addr} {xs : List V} {m : Nat} (h : H a = some (.tup xs)) (k : ∀ p H', Same H H' → H' p = some (.tup (xs.take m)) → Q (.ref p) H') : rSlA K (.ref a) none (some (m : Int)) H Q := by
  refine ⟨a, xs, rfl, SqT.of h, fun w => k a H (Same.refl H) ?_, fun _ p hp => k p _ (Same.new hp) ?_⟩
  · rw [sIx_nat] at w
    rw [h, List.take_of_length_le (by omega)]
  · rw [upd_same]
    show some (HO.tup ((xs.drop (HT.sIx xs.length 0 none)).take (HT.sIx xs.length xs.length (some (m : Int)) - HT.sIx xs.length 0 none))) = _
    rw [sIx_nat, sIx_none, List.drop_zero, Nat.sub_zero, ← List.take_eq_take_min]
theorem slT_from {a : Addr} {xs : List V} {m : Nat} (h : H a = some (.tup xs)) (k : ∀ p H', Same H H' → H' p = some (.tup (xs.drop m)) → Q (.ref p) H') : rSlA K (.ref a) (some (m : Int)) none H Q := by
  refine ⟨a, xs, rfl, SqT.of h, fun w => k a H (Same.refl H) ?_, fun _ p hp => k p _ (Same.new hp) ?_⟩
  · rw [sIx_nat] at w
    have : m = 0 ∨ xs = [] := by
      cases xs with
      | nil => exact .inr rfl
      | cons x r => left; have := w.1; rw [List.length_cons] at this; omega
    rcases this with rfl | rfl
    · rw [h, List.drop_zero]
    · rw [h]; simp
  · rw [upd_same]
    show some (HO.tup ((xs.drop (HT.sIx xs.length 0 (some (m : Int)))).take (HT.sIx xs.length xs.length none - HT.sIx xs.length 0 (some (m : Int))))) = _
    rw [sIx_nat, sIx_none]
    congr 2
    rw [List.take_of_length_le (by rw [List.length_drop]; omega)]
    by_cases q : m ≤ xs.length
    · rw [Nat.min_eq_left q]
    · rw [Nat.min_eq_right (by omega), List.drop_eq_nil_of_le (Nat.le_refl _), List.drop_eq_nil_of_le (by omega)]
theorem slT_both {a : Addr} {xs : List V} {m n : Nat} (h : H a = some (.tup xs)) (k : ∀ p H', Same H H' → H' p = some (.tup ((xs.take n).drop m)) → Q (.ref p) H') : rSlA K (.ref a) (some (m : Int)) (some (n : Int)) H Q := by
  have e : (xs.drop (min m xs.length)).take (min n xs.length - min m xs.length) = (xs.take n).drop m := by
    rw [List.drop_take]
    by_cases q : m ≤ xs.length
    · rw [Nat.min_eq_left q]
      by_cases q2 : n ≤ xs.length
      · rw [Nat.min_eq_left q2]
      · rw [Nat.min_eq_right (by omega)]
        rw [List.take_of_length_le (by rw [List.length_drop]; omega), List.take_of_length_le (by rw [List.length_drop]; omega)]
    · rw [Nat.min_eq_right (show xs.length ≤ m by omega), List.drop_eq_nil_of_le (Nat.le_refl _), List.drop_eq_nil_of_le (show xs.length ≤ m by omega)]
      simp
  refine ⟨a, xs, rfl, SqT.of h, fun w => k a H (Same.refl H) ?_, fun _ p hp => k p _ (Same.new hp) ?_⟩
  · rw [sIx_nat, sIx_nat] at w
    rw [h, ← e, w.1, w.2]
    simp
  · rw [upd_same]
    show some (HO.tup ((xs.drop (HT.sIx xs.length 0 (some (m : Int)))).take (HT.sIx xs.length xs.length (some (n : Int)) - HT.sIx xs.length 0 (some (m : Int))))) = _
    rw [sIx_nat, sIx_nat, e]
theorem catT {p q : Addr} {xs ys : List V} (h1 : H p = some (.tup xs)) (h2 : H q = some (.tup ys)) (hl : xs.length + ys.length ≤ sizeLine) (k : ∀ r H', Same H H' → H' r = some (.tup (xs ++ ys)) → Q (.ref r) H') : rCatA K (.ref p) (.ref q) H Q := by
  refine ⟨p, q, xs, ys, rfl, rfl, SqT.of h1, SqT.of h2, hl, fun e => k q H (Same.refl H) ?_, fun _ e => k p H (Same.refl H) ?_, fun _ _ r hr => k r _ (Same.new hr) upd_same⟩
  · rw [h2, e]; rfl
  · rw [h1, e, List.append_nil]
theorem op_catK {X : Cx} {K : PySem.W.Frag} (h : X.K = K) : OpR X (binaryOp .Add) (rCatA K) := by
  subst h
  exact op_catA
theorem sl_tupK {X : Cx} {K : PySem.W.Frag} (h : X.K = K) : SlR X (rSlA K) := by
  subst h
  exact sl_tupA
/-- [F(x) for x in t if f(x)], t a tuple; the test and the element change nothing -/
theorem lc_tupF {K : PySem.W.Frag} {a : Addr} {xs : List V} {f : V → Bool} {F : V → V} {tt : TT} {te : TE} {i0 : Nat} {vs : List Nat} {σ : L2.St} {H1 : Hp} {D : Addr} {Qd : Hp → Prop} (hD : H1 D = none) (ha : H1 a = some (.tup xs)) (hn : xs.length ≤ sizeLine)
    (hw : ∀ u : V, wipe ((wipe σ vs).set i0 (some u)) vs = wipe σ vs)
    (ht : ∀ (x : V) (H : Hp) (Q : Bool → Hp → Prop), x ∈ xs → Same H1 H → Q (f x) H → tt ((wipe σ vs).set i0 (some x)) H Q)
    (he : ∀ (x : V) (H : Hp) (Q : VK), x ∈ xs → Same H1 H → Q (F x) H → te ((wipe σ vs).set i0 (some x)) H Q)
    (hd : ∀ H, Same H1 H → H D = some (.lst ((xs.filter f).map F)) → Qd H) :
    ∃ W : Nat → Nat → Hp → Prop, (∃ m, W 0 m (upd H1 D (.lst []))) ∧ ∀ i m H, W i m H → ((Itt K a).stop i H ∧ Qd H) ∨ ((Itt K a).go i H ∧ ∃ Nx : Hp → Prop, (∀ H', Nx H' → ∃ m', m' < m ∧ W (i + 1) m' H') ∧
      ∀ x H', (Itt K a).yld i H x H' → (gName i0) x (wipe σ vs) H' fun σ2 H2 => wipe σ2 vs = wipe σ vs ∧ tt σ2 H2 fun b H3 => if b = true then te σ2 H3 fun y H4 => ∃ acc, H4 D = some (.lst acc) ∧ acc.length < sizeLine ∧ Nx (upd H4 D (.lst (acc ++ [y]))) else Nx H3) := by
  refine lc_tup (K := K) (a := a) (xs := xs) (g := gName i0) (tt := tt) (te := te) (fun i H => Same H1 H ∧ H D = some (.lst (((xs.take i).filter f).map F))) ⟨Same.new hD, upd_same⟩ (fun i H _ p => SqT.of (p.1 _ _ ha)) ?_ (fun H p => hd H p.1 (by rw [p.2, List.take_length]))
  rintro i x H hx ⟨sm, hH⟩
  have il := (List.getElem?_eq_some_iff.mp hx).1
  have tk : xs.take (i + 1) = xs.take i ++ [x] := by rw [List.take_add_one, hx]; rfl
  have mem : x ∈ xs := List.mem_of_getElem? hx
  refine ⟨hw x, ht x H _ mem sm ?_⟩
  by_cases h : f x = true
  · rw [if_pos h]
    refine he x H _ mem sm ⟨_, hH, ?_, Same.put sm hD, ?_⟩
    · rw [List.length_map]
      have := List.length_filter_le f (xs.take i)
      rw [List.length_take] at this
      omega
    · rw [upd_same, tk, List.filter_append, List.map_append]
      simp [List.filter_cons, h]
  · rw [if_neg h]
    refine ⟨sm, ?_⟩
    rw [hH, tk, List.filter_append, List.map_append]
    simp [List.filter_cons, h]
/-- [F(x) for x in t if f(x)], t a list; the test and the element change nothing -/
theorem lc_listF {K : PySem.W.Frag} {a : Addr} {xs : List V} {f : V → Bool} {F : V → V} {tt : TT} {te : TE} {i0 : Nat} {vs : List Nat} {σ : L2.St} {H1 : Hp} {D : Addr} {Qd : Hp → Prop} (hD : H1 D = none) (ha : H1 a = some (.lst xs)) (hn : xs.length ≤ sizeLine)
    (hw : ∀ u : V, wipe ((wipe σ vs).set i0 (some u)) vs = wipe σ vs)
    (ht : ∀ (x : V) (H : Hp) (Q : Bool → Hp → Prop), x ∈ xs → Same H1 H → Q (f x) H → tt ((wipe σ vs).set i0 (some x)) H Q)
    (he : ∀ (x : V) (H : Hp) (Q : VK), x ∈ xs → Same H1 H → Q (F x) H → te ((wipe σ vs).set i0 (some x)) H Q)
    (hd : ∀ H, Same H1 H → H D = some (.lst ((xs.filter f).map F)) → Qd H) :
    ∃ W : Nat → Nat → Hp → Prop, (∃ m, W 0 m (upd H1 D (.lst []))) ∧ ∀ i m H, W i m H → ((Itl K a).stop i H ∧ Qd H) ∨ ((Itl K a).go i H ∧ ∃ Nx : Hp → Prop, (∀ H', Nx H' → ∃ m', m' < m ∧ W (i + 1) m' H') ∧
      ∀ x H', (Itl K a).yld i H x H' → (gName i0) x (wipe σ vs) H' fun σ2 H2 => wipe σ2 vs = wipe σ vs ∧ tt σ2 H2 fun b H3 => if b = true then te σ2 H3 fun y H4 => ∃ acc, H4 D = some (.lst acc) ∧ acc.length < sizeLine ∧ Nx (upd H4 D (.lst (acc ++ [y]))) else Nx H3) := by
  refine lc_list (K := K) (a := a) (xs := xs) (g := gName i0) (tt := tt) (te := te) (fun i H => Same H1 H ∧ H D = some (.lst (((xs.take i).filter f).map F))) ⟨Same.new hD, upd_same⟩ (fun i H _ p => SqL.of (p.1 _ _ ha)) ?_ (fun H p => hd H p.1 (by rw [p.2, List.take_length]))
  rintro i x H hx ⟨sm, hH⟩
  have il := (List.getElem?_eq_some_iff.mp hx).1
  have tk : xs.take (i + 1) = xs.take i ++ [x] := by rw [List.take_add_one, hx]; rfl
  have mem : x ∈ xs := List.mem_of_getElem? hx
  refine ⟨hw x, ht x H _ mem sm ?_⟩
  by_cases h : f x = true
  · rw [if_pos h]
    refine he x H _ mem sm ⟨_, hH, ?_, Same.put sm hD, ?_⟩
    · rw [List.length_map]
      have := List.length_filter_le f (xs.take i)
      rw [List.length_take] at this
      omega
    · rw [upd_same, tk, List.filter_append, List.map_append]
      simp [List.filter_cons, h]
  · rw [if_neg h]
    refine ⟨sm, ?_⟩
    rw [hH, tk, List.filter_append, List.map_append]
    simp [List.filter_cons, h]
theorem call_tuple_ofK {X : Cx} {K : PySem.W.Frag} (h : X.K = K) : CallR X (.type "tuple") (fun xs H Q => ∃ p ys, xs = [.ref p] ∧ ((SqL K H p ys ∧ ∀ l, H l = none → Q (.ref l) (upd H l (.tup ys))) ∨ (SqT K H p ys ∧ Q (.ref p) H))) := by
  subst h
  exact call_tuple_of
end
end Sx

set_option Elab.async false
set_option linter.all false
set_option maxRecDepth 100000
set_option maxHeartbeats 1000000
namespace Sx
open PySem PySem.Spec PyProof.Rows L2 SxA SxK
/-! ### numbers: a list of ints, of which one is taken -/
def Dr (H : Hp) (a : Addr) : Prop := ∃ ns : List Int, H a = some (.lst (ns.map V.int))
def DrL (H : Hp) (a : Addr) (n : Nat) : Prop := ∃ ns : List Int, H a = some (.lst (ns.map V.int)) ∧ ns.length ≤ n
theorem Dr.ne {H : Hp} {a D : Addr} (h : Dr H a) (hD : H D = none) : a ≠ D := ne_of_none h.choose_spec hD
theorem Dr.put {H : Hp} {a D : Addr} {o : HO} (h : Dr H a) (n : a ≠ D) : Dr (upd H D o) a := by
  obtain ⟨ns, e⟩ := h
  exact ⟨ns, by rw [upd_ne n]; exact e⟩
theorem Dr.new {H : Hp} {a D : Addr} {o : HO} (h : Dr H a) (hD : H D = none) : Dr (upd H D o) a := h.put (h.ne hD)
theorem Dr.same {H H' : Hp} {a : Addr} (h : Dr H a) (s : Same H H') : Dr H' a := by
  obtain ⟨ns, e⟩ := h
  exact ⟨ns, s _ _ e⟩
theorem But.new {a : Addr} {H H' : Hp} {p : Addr} {o : HO} (b : But a H H') (hp : H p = Option.none) : But a H (upd H' p o) := fun c u e n => by
  rw [upd_ne (ne_of_none e hp)]
  exact b c u e n
theorem But.same {a : Addr} {H H1 H2 : Hp} (b : But a H H1) (s : Same H1 H2) : But a H H2 := b.trans (But.of s)
theorem small1 {n : Nat} (h : n ≤ 100000) : n < sizeLine := Nat.lt_of_le_of_lt h (by decide)
theorem DrL.push {H : Hp} {D : Addr} {ns : List Int} {z : Int} {n : Nat} (h : ns.length ≤ n) : DrL (upd H D (.lst (ns.map V.int ++ [V.int z]))) D (n + 1) := ⟨ns ++ [z], by rw [upd_same, List.map_append]; rfl, by rw [List.length_append]; exact Nat.succ_le_succ h⟩
def spMix : Sp := fun vs H Q _ => ∃ a b : Int, vs = [.int a, .int b] ∧ ∀ v : Int, Q (.int v) H
def spTake : Sp := fun vs H Q _ => ∃ (a : Addr) (m : Int), vs = [.ref a, .int m] ∧ Dr H a ∧ 0 < m ∧ ∀ v H', 0 ≤ v → v < m → Dr H' a → But a H H' → Q (.int v) H'
def spNums (K : PySem.W.Frag) : Sp := fun vs H Q _ => ∃ (a : Addr) (ns : List Int) (c : Int), vs = [.ref a, .int c] ∧ SqL K H a (ns.map V.int) ∧ ns.length ≤ 63 ∧ 0 ≤ c ∧ c ≤ 1000 ∧ ∀ p H', H p = none → Same H H' → Dr H' p → Q (.ref p) H'
section
variable {P : Program} {w : World} {K : PySem.W.Frag} {mg : Str → Option Value} {base : Heap}
abbrev nsLawMix : List Str := ["number", "k"]
theorem scLawMix : FnScope nsLawMix ["number", "k"] (defScope sLawMix) := ⟨rfl, rfl, rfl, by decide +kernel, rfl, by decide +kernel, by decide +kernel⟩
theorem ok_law_mix (t : T K mg) : Ok P w K mg base 1 "_law_mix" ["number", "k"] spMix := by
  refine mkOk t.d_law_mix t.g_law_mix scLawMix (fun vs H Q E h => ?_) (fun _ _ _ _ _ _ us hl => match us, hl with | [_, _], _ => rfl) fun cdv A outer s H vs Q E hr h => ?_
  · obtain ⟨a, b, rfl, _⟩ := h; rfl
  obtain ⟨a, b, rfl, k⟩ := h
  refine ⟨_, pss_one (ps_ret (pe_op op_mod (pe_op op_mul (pe_op op_mod (pe_callTy call_int1 rfl t.f_int (by decide +kernel) (pa_cons (pe_op op_mul (pe_op op_add (pe_op op_add (pe_op op_mod (pe_callTy call_int1 rfl t.f_int (by decide +kernel) (pa_cons (pv 0) pa_nil)) pe_int) (pe_op op_mul pe_int (pv 1))) pe_int) pe_int) pa_nil)) pe_int) pe_int) pe_int)), ?_⟩
  refine ⟨_, rfl, .inl ⟨_, rfl, _, _, rfl, rfl, (by show (0 : Int) < 1000003; decide), ?_⟩⟩
  refine ⟨_, rfl, _, _, rfl, rfl, .inl (by decide), _, _, rfl, rfl, _, _, rfl, rfl, _, _, rfl, rfl, .inr (by decide), .inl ⟨_, rfl, ?_⟩⟩
  exact ⟨_, _, rfl, rfl, (by show (0 : Int) < 1000033; decide), _, _, rfl, rfl, .inr (by decide), _, _, rfl, rfl, (by show (0 : Int) < 998244353; decide), k _⟩
abbrev nsLawTake : List Str := ["row", "bound"]
theorem scLawTake : FnScope nsLawTake ["row", "bound"] (defScope sLawTake) := ⟨rfl, rfl, rfl, by decide +kernel, rfl, by decide +kernel, by decide +kernel⟩
theorem ok_law_take (t : T K mg) : Ok P w K mg base 1 "_law_take" ["row", "bound"] spTake := by
  refine mkOk t.d_law_take t.g_law_take scLawTake (fun vs H Q E h => ?_) (fun _ _ _ _ _ _ us hl => match us, hl with | [_, _], _ => rfl) fun cdv A outer s H vs Q E hr h => ?_
  · obtain ⟨a, m, rfl, _⟩ := h; rfl
  obtain ⟨a, m, rfl, ⟨ns, hn⟩, m0, k⟩ := h
  refine ⟨_, pss_cons (ps_if (pt_not (pt_truth (pv 0) (by intro _; rfl)))
      (pss_one (ps_ret pe_int))
      pss_nil)
    (pss_one (ps_ret (pe_op op_mod (pe_callTy call_int1 rfl t.f_int (by decide +kernel) (pa_cons (pe_bm0 PySem.F.plainAttrs_list PySem.F.slot_list_pop PySem.F.type_list_pop mt_pop (pv 0)) pa_nil)) (pv 1)))), ?_⟩
  cases ns with
  | nil => exact ⟨_, rfl, false, .inl ⟨_, SqL.of hn, rfl⟩, iteT (k 0 H (Int.le_refl _) m0 ⟨[], hn⟩ (But.refl _ _))⟩
  | cons x r =>
    refine ⟨_, rfl, true, .inl ⟨_, SqL.of hn, rfl⟩, iteF ?_⟩
    have hlast : ((x :: r).map V.int)[((x :: r).map V.int).length - 1]? = some (.int ((x :: r)[(x :: r).length - 1]'(by simp))) := by
      rw [List.length_map, List.getElem?_map, List.getElem?_eq_getElem (by simp)]
      rfl
    refine ⟨_, rfl, .inl ⟨rfl, _, SqL.of hn⟩, a, _, _, rfl, rfl, hn, hlast, .inl ⟨_, rfl, ?_⟩⟩
    refine ⟨_, rfl, _, _, rfl, rfl, m0, k _ _ (Int.emod_nonneg _ (by omega)) (Int.emod_lt_of_pos _ m0) ⟨(x :: r).dropLast, ?_⟩ (But.put _ _ _)⟩
    rw [upd_same, List.map_dropLast]
abbrev nsLawNumbers : List Str := ["script", "count", "row", "base", "cell", "rest", "k"]
theorem scLawNumbers : FnScope nsLawNumbers ["script", "count"] (defScope sLawNumbers) := ⟨rfl, rfl, rfl, by decide +kernel, rfl, by decide +kernel, by decide +kernel⟩
theorem ok_law_numbers (t : T K mg) : Ok P w K mg base 2 "_law_numbers" ["script", "count"] (spNums K) := by
  refine mkOk t.d_law_numbers t.g_law_numbers scLawNumbers (fun vs H Q E h => ?_) (fun _ _ _ _ _ _ us hl => match us, hl with | [_, _], _ => rfl) fun cdv A outer s H vs Q E hr h => ?_
  · obtain ⟨a, ns, c, rfl, _⟩ := h; rfl
  obtain ⟨a, ns, c, rfl, hS, hlen, c0, c1, k⟩ := h
  have hr1 : Room 1 _ := hr.mono (by decide)
  refine ⟨_, pss_cons (ps_set (i := 2) scLawNumbers.nd rfl (Or.inl rfl) (pe_lst pa_nil))
    (pss_cons (ps_set (i := 3) scLawNumbers.nd rfl (Or.inl rfl) pe_int)
    (pss_cons (ps_for PassesOwn.never rfl (pi_list (pe_slice sl_list (pv 0) po_none (po_some pe_int))) (pg_name (i := 4) scLawNumbers.nd rfl (Or.inl rfl))
      (pss_cons (ps_set (i := 3) scLawNumbers.nd rfl (Or.inl rfl) (pe_op op_add (pv 3) (pv 4)))
    (pss_one (ps_if (pt_cmpR op_ge (pv 4) pe_int (nomark _))
      (pss_cons (ps_set (i := 5) scLawNumbers.nd rfl (Or.inl rfl) (pv 4))
    (pss_one (ps_for PassesOwn.never rfl (pi_range1 rfl t.f_range (pa_cons pe_int pa_nil)) (pg_name (i := 6) scLawNumbers.nd rfl (Or.inl rfl))
      (pss_cons (ps_expr (pe_bm PySem.F.plainAttrs_list PySem.F.slot_list_append PySem.F.type_list_append mt_append (pv 2) (pa_cons (pe_op op_mod (pe_callTy call_int1 rfl t.f_int (by decide +kernel) (pa_cons (pv 5) pa_nil)) pe_int) pa_nil)))
    (pss_cons (ps_set (i := 5) scLawNumbers.nd rfl (Or.inl rfl) (pe_op op_fdiv (pv 5) pe_int))
    (pss_one (ps_if (pt_cmpR op_eq (pv 5) pe_int (nomark _))
      (pss_one ps_break)
      pss_nil)))))))
      (pss_one (ps_expr (pe_bm PySem.F.plainAttrs_list PySem.F.slot_list_append PySem.F.type_list_append mt_append (pv 2) (pa_cons (pe_ok (ok_law_mix t) hr1 rfl (pa_cons (pe_ok (ok_law_mix t) hr1 rfl (pa_cons (pv 4) (pa_cons pe_int pa_nil))) (pa_cons pe_int pa_nil))) pa_nil))))))))
    (pss_cons (ps_for PassesOwn.never rfl (pi_range1 rfl t.f_range (pa_cons (pv 1) pa_nil)) (pg_name (i := 6) scLawNumbers.nd rfl (Or.inl rfl))
      (pss_one (ps_expr (pe_bm PySem.F.plainAttrs_list PySem.F.slot_list_append PySem.F.type_list_append mt_append (pv 2) (pa_cons (pe_ok (ok_law_mix t) hr1 rfl (pa_cons (pe_ok (ok_law_mix t) hr1 rfl (pa_cons (pe_op op_add (pv 3) (pe_op op_mul pe_int (pv 6))) (pa_cons (pe_op op_add pe_int (pv 6)) pa_nil))) (pa_cons pe_int pa_nil))) pa_nil)))))
    (pss_cons (ps_expr (pe_bm0 PySem.F.plainAttrs_list PySem.F.slot_list_reverse PySem.F.type_list_reverse mt_reverse (pv 2)))
    (pss_one (ps_ret (pv 2))))))), ?_⟩
  refine ⟨(by show 0 ≤ sizeLine; decide), fun D hD => ?_⟩
  have sD : Same H (upd H D (.lst [])) := Same.new hD
  refine ⟨_, rfl, _, rfl, a, _, rfl, sD.seq hS, fun e he => ⟨e, rfl, ⟨_, SqL.of upd_same⟩, ?_⟩⟩
  obtain ⟨xs, hxs⟩ : ∃ xs, xs = cutV (ns.map V.int) none (some 63) := ⟨_, rfl⟩
  rw [← hxs]
  have hx : ∀ x, x ∈ xs → ∃ z : Int, x = .int z := fun x h => by
    rw [hxs] at h
    unfold cutV at h
    have := List.mem_of_mem_drop (List.mem_of_mem_take h)
    obtain ⟨z, _, rfl⟩ := List.mem_map.mp this
    exact ⟨z, rfl⟩
  have xl : xs.length ≤ 63 := by
    rw [hxs]
    unfold cutV
    rw [List.length_take, List.length_drop, List.length_map]
    omega
  have sE : Same H (upd (upd H D (.lst [])) e (.lst xs)) := sD.trans (Same.new he)
  have heE := upd_same (H := upd H D (.lst [])) (a := e) (o := .lst xs)
  have hD1 := (Same.new (o := .lst xs) he) _ _ (upd_same (H := H) (a := D) (o := .lst []))
  generalize upd (upd H D (.lst [])) e (.lst xs) = H1 at sE heE hD1
  have nDe : D ≠ e := fun z => by rw [z, upd_same] at he; cases he
  have key : ∀ {H' : Hp} {ds : List Int} {n : Nat}, ds.length ≤ n → n ≤ 100000 → ((ds.map V.int).length < sizeLine) := fun h1 h2 => by rw [List.length_map]; exact small1 (Nat.le_trans h1 h2)
  refine for_list (K := K) (a := e) (xs := xs) (fun i σ' H' => (∃ (b : Int) (o4 o5 o6 : Option V), σ' = [some (.ref a), some (.int c), some (.ref D), some (.int b), o4, o5, o6]) ∧ DrL H' D (60 * i) ∧ Same H H' ∧ H' e = some (.lst xs)) ⟨⟨_, _, _, _, rfl⟩, ⟨[], hD1, Nat.le_refl _⟩, sE, heE⟩ (fun i σ' H' _ p => SqL.of p.2.2.2) ?_ ?_
  · rintro i x σ' H2 hx2 ⟨⟨b, o4, o5, o6, rfl⟩, ⟨ds, hds, hdl⟩, s2, he2⟩
    obtain ⟨z, rfl⟩ := hx x (List.mem_of_getElem? hx2)
    have il : i < 63 := by
      have := (List.getElem?_eq_some_iff.mp hx2).1
      omega
    refine ⟨_, rfl, _, rfl, _, _, rfl, rfl, _, rfl, _, _, rfl, rfl, _, rfl, ite2 (fun h1 => ?_) (fun h1 => ?_)⟩
    · refine ⟨_, rfl, 60, rfl, by decide, by decide, ?_⟩
      refine for_range (lo := 0) (n := 60) (fun j σ' H' => (∃ (r : Int) (o6 : Option V), σ' = [some (.ref a), some (.int c), some (.ref D), some (.int (b + z)), some (.int z), some (.int r), o6]) ∧ DrL H' D (60 * i + j) ∧ Same H H' ∧ H' e = some (.lst xs)) ⟨⟨_, _, rfl⟩, ⟨ds, hds, hdl⟩, s2, he2⟩ ?_ (fun σ' H' p => ?_)
      · rintro j σ' H3 hj ⟨⟨r, o6', rfl⟩, ⟨ds3, hds3, hdl3⟩, s3, he3⟩
        refine ⟨_, rfl, .inl ⟨rfl, _, SqL.of hds3⟩, _, rfl, .inl ⟨_, rfl, _, _, rfl, rfl, (by show (0 : Int) < 840; decide), D, _, _, rfl, rfl, hds3, key (H' := H3) hdl3 (by omega), ?_⟩⟩
        have he4 : (upd H3 D (.lst (ds3.map V.int ++ [V.int (r % 840)]))) e = some (.lst xs) := by rw [upd_ne nDe.symm]; exact he3
        have s4 := Same.put (o := .lst (ds3.map V.int ++ [V.int (r % 840)])) s3 hD
        refine ⟨_, rfl, _, _, rfl, rfl, ⟨by decide, by decide⟩, _, rfl, rfl, _, rfl, ite2 (fun h2 => ?_) (fun h2 => ?_)⟩
        · obtain ⟨d4, h4, l4⟩ := DrL.push (H := H3) (D := D) (z := r % 840) hdl3
          exact ⟨⟨_, _, _, _, rfl⟩, ⟨d4, h4, by omega⟩, s4, he4⟩
        · obtain ⟨d4, h4, l4⟩ := DrL.push (H := H3) (D := D) (z := r % 840) hdl3
          exact ⟨⟨_, _, rfl⟩, ⟨d4, h4, by omega⟩, s4, he4⟩
      · obtain ⟨⟨r, o6', rfl⟩, ⟨d3, h3, l3⟩, s3, he3⟩ := p
        exact ⟨⟨_, _, _, _, rfl⟩, ⟨d3, h3, by omega⟩, s3, he3⟩
    · refine ⟨_, rfl, .inl ⟨rfl, _, SqL.of hds⟩, _, rfl, _, _, rfl, fun v1 => ⟨_, _, rfl, fun v2 => ⟨D, _, _, rfl, rfl, hds, key (H' := H2) hdl (by omega), ?_⟩⟩⟩
      obtain ⟨d4, h4, l4⟩ := DrL.push (H := H2) (D := D) (z := v2) hdl
      exact ⟨⟨_, _, _, _, rfl⟩, ⟨d4, h4, by omega⟩, Same.put s2 hD, by rw [upd_ne nDe.symm]; exact he2⟩
  rintro σ' H2 ⟨⟨b, o4, o5, o6, rfl⟩, ⟨ds, hds, hdl⟩, s2, he2⟩
  refine ⟨_, rfl, c, rfl, by omega, by omega, ?_⟩
  refine for_range (lo := 0) (n := c.toNat) (fun i σ' H' => (∃ (o4 o5 o6 : Option V), σ' = [some (.ref a), some (.int c), some (.ref D), some (.int b), o4, o5, o6]) ∧ DrL H' D (60 * xs.length + i) ∧ Same H H') ⟨⟨_, _, _, rfl⟩, ⟨ds, hds, hdl⟩, s2⟩ ?_ ?_
  · rintro i σ' H3 hi ⟨⟨o4, o5, o6, rfl⟩, ⟨ds3, hds3, hdl3⟩, s3⟩
    refine ⟨_, rfl, .inl ⟨rfl, _, SqL.of hds3⟩, _, rfl, _, rfl, _, _, rfl, rfl, .inl (by decide), _, _, rfl, rfl, _, rfl, _, _, rfl, rfl, _, _, rfl, fun v1 => ⟨_, _, rfl, fun v2 => ⟨D, _, _, rfl, rfl, hds3, key (H' := H3) hdl3 (by omega), ?_⟩⟩⟩
    obtain ⟨d4, h4, l4⟩ := DrL.push (H := H3) (D := D) (z := v2) hdl3
    exact ⟨⟨_, _, _, rfl⟩, ⟨d4, h4, by omega⟩, Same.put s3 hD⟩
  · rintro σ' H3 ⟨⟨o4, o5, o6, rfl⟩, ⟨ds3, hds3, hdl3⟩, s3⟩
    refine ⟨_, rfl, .inl ⟨rfl, _, SqL.of hds3⟩, D, _, rfl, rfl, hds3, _, rfl, k D _ hD (Same.put s3 hD) ⟨ds3.reverse, ?_⟩⟩
    rw [upd_same, List.map_reverse]
end
end Sx

set_option Elab.async false
set_option linter.all false
set_option maxRecDepth 100000
set_option maxHeartbeats 2000000
/-! sep.join(reversed(x)), x a list of texts -/
namespace SxA
open PySem PySem.Spec PyProof.Rows L2
section
variable {prog : Program} {w : World} {A : Around} {E : Value → Shared → Prop} {s : Shared}
theorem call_join_rev {it l : Addr} {items : Array Value} {x : Str} {t : Tok} {ys : List Str} {Q : Value → Shared → Prop} (hh : A.handled = none) (hit : s.heap.IsRevIter it l ((items.size : Int) - 1)) (hl : s.heap.IsList l items) (hne : l ≠ it) (hn : items.size ≤ sizeLine)
    (hs : ∀ acc : Array Value, ItemsOf (fun i v => items[items.size - 1 - i]? = some v) acc items.size → StrsAre acc.toList ys) (hok : (ys.map (·.length)).sum + ys.length * x.length ≤ 16777216)
    (hQ : ∀ (h' : Heap) (tk : Nat) (u : Tok), (∀ b o, b ≠ it → s.heap.get? b = some o → h'.get? b = some o) → Q (.str (Txt.join x ys) u) { s with heap := h', toks := tk }) :
    wpAny (model prog w) A (call (.builtin "str.join") [.str x t, .ref it]) Q E s := by
  have hT : s.TypeIs (.ref it) "list_reverseiterator" := hit.typeIs
  have hh1 : A.in1.in1.handled = none := hh
  refine wpAny_call (codeAny_call_builtin F.slot_str_join.plain F.entry_str_join (F.slot_str_join.check _ _ _ _ _ _ _ _ (typeIs_str _ _ _) (F.args_str_join_2 _ _) ?_))
  rw [join_tree_other]
  refine wpAny_bind (wpAny_typeOf hT ?_)
  show wpAny _ A.in1 ((pyIter (.ref it)).tryCatch _ >>= fun i2 => collect i2 >>= fun found => joinTail x found) _ _ s
  refine wpAny_bind (wpAny_tryCatch (wpAny_pyIter_revIter hit ?_))
  refine wpAny_bind (RT.collect_rev (A := A.in1) hh hit hl hne hn fun h' tk acc hk hacc => ?_)
  obtain ⟨lv, e1, e2⟩ := strsAre_values (hs acc hacc)
  rw [e1]
  have j1 : JoinOk x (lv.map (·.1)) = true := by rw [e2]; exact joinOk_of hok
  have j2 := j1
  unfold JoinOk at j2
  rw [Bool.not_eq_true'] at j2
  have g : Gives (joinTail x (strValues lv)) (joinMade x lv) := by
    have g1 := gives_joinTail x lv j2
    cases lv with
    | nil => exact g1
    | cons p r => cases r with
      | nil => exact g1
      | cons p2 r2 => exact g1
  exact g prog w A (wants Q E) _ (post_join lv ⟨joinFit_length j2, fun u k => by rw [e2]; exact hQ h' k u hk⟩)
end
def tJoinRev (K : PySem.W.Frag) (to te : TE) : TE := fun σ H Q => to σ H fun x H1 => (∃ a, x = .str a) ∧ te σ H1 fun v H2 => ∃ (a : Str) (l : Addr) (ys : List Str), x = .str a ∧ v = .ref l ∧ SqL K H2 l (ys.map V.str) ∧ (ys.map (·.length)).sum + ys.length * a.length ≤ 16777216 ∧ Q (.str (Txt.join a ys.reverse)) H2
theorem pe_joinRev {X : Cx} {o e : Expr} {to te : TE} {apos pos p2 pos2 : Pos} (hg2 : Gl X "reversed") (hm2 : X.mg "reversed" = none) (ho : PE X o to) (he : PE X e te) (hc : X.calm = true := by rfl)
    (hs : starEach [.Call (.Name "reversed" p2) [e] [] pos2] X.env = [(false, eval (.Call (.Name "reversed" p2) [e] [] pos2) X.env)] := by rfl)
    (hs2 : starEach [e] X.env = (false, eval e X.env) :: starEach [] X.env := by rfl)
    (hbase : attributeBase o "join" X.env (eval o X.env) = eval o X.env := by rfl) (hline : (apos.endLine == pos.line) = true := by rfl) :
    PE X (.Call (.Attribute o "join" apos) [.Call (.Name "reversed" p2) [e] [] pos2] [] pos) (tJoinRev X.K to te) := by
  refine ⟨fun pins s σ H Q I h => ?_⟩
  refine PySem.Call_method1 hbase hs hline (thn (ho.run pins s σ H _ I h) fun v s1 ⟨x, H1, I1, r1, q1⟩ => ?_)
  obtain ⟨⟨a, rfl⟩, q1⟩ := q1
  obtain ⟨t, rfl⟩ := _root_.id r1
  refine ⟨"str", _, F.plainAttrs_str, F.slot_str_join, F.type_str_join, typeIs_str _ _ _, (fun _ e => nomatch e), Calls.callWith_builtin rfl (Calls.evalArgs_plain (Calls.spliced_cons ?_))⟩
  refine Call_ (ld_blt I1 hg2 hm2 PyProof.Rows.boot_reversed (PyProof.Rows.callWith_type1 (args_cons (thn (he.run pins s1 σ H1 _ I1 q1) fun u s2 ⟨y, H2, I2, r2, q2⟩ => args_nil ?_) hs2) hs2 rfl))
  obtain ⟨a', l, ys, ex, rfl, hq, hz, q⟩ := q2
  cases ex
  obtain rfl : u = Value.ref l := r2
  obtain ⟨its, rv, p', hlen⟩ := I2.list hq
  refine call_reversed_list p'.isList (Calls.spliced_nil ?_)
  have k0 : ∀ b o, s2.heap.get? b = some o → (s2.heap.push (revObj l ((its.toArray.size : Int) - 1))).get? b = some o := fun b o e => Heap.get?_push_of_some _ e
  have I3 : Inv X pins σ H2 { s2 with heap := s2.heap.push (revObj l ((its.toArray.size : Int) - 1)) } := I2.kept (t' := s2.toks) k0
  obtain ⟨f0, f1, f2, f3, f4, f5⟩ := I2.fpOk (H' := H2) (b := s2.heap.objs.size) (Nat.le_refl _) (I2.hok.fresh (Nat.le_refl _))
  have hl := p'.isList
  obtain ⟨ol, hol, _⟩ := id hl
  have hne : l ≠ s2.heap.objs.size := Nat.ne_of_lt (Heap.lt_size hol)
  have hn : its.toArray.size ≤ sizeLine := by rw [List.size_toArray, ← rv.length]; exact hlen
  refine call_join_rev (ys := ys.reverse) (s := { s2 with heap := s2.heap.push (revObj l ((its.toArray.size : Int) - 1)) }) (I2.ok.hd hc) ⟨_, Heap.get?_push_size _ rfl, rfl, rfl⟩ (hl.push _) hne hn (fun acc ha => ?_) (by rw [List.map_reverse, List.sum_reverse, List.length_reverse]; exact hz) fun h' tk u hk => ?_
  · have r2 := RT.vals_rev rv ha
    rw [← List.map_reverse] at r2
    exact strs_of_vals r2
  · have I4 : Inv X pins σ H2 { s2 with heap := h', toks := tk } := I3.turned (t' := tk) (fun b o hb e => hk b o hb e) f0 f1 f3 f4 f5
    exact ⟨.str _, H2, I4, ⟨u, rfl⟩, q⟩
end SxA

set_option Elab.async false
set_option linter.all false
set_option maxRecDepth 100000
set_option maxHeartbeats 2000000
namespace Sx
open PySem PySem.Spec PyProof.Rows L2 SxA SxK
/-! ### the digits of a number of at most ten -/
def spNumberWord : Sp := fun vs H Q _ => ∃ (n : Int), vs = [.int n] ∧ (0 ≤ n ∧ n < 10 ^ 10) ∧ ∀ H', Same H H' → Q (.str (Str.ofString (toString n))) H'
theorem nw_log {l : Int} (h0 : 0 ≤ l) (h : l < 10 ^ 10) : l.natAbs.log2 < 1920 := by
  by_cases n : l.natAbs = 0
  · rw [n]; decide
  · exact (Nat.log2_lt n).mpr (Nat.lt_of_lt_of_le (show l.natAbs < 10 ^ 10 by omega) (by decide))
section
variable {P : Program} {w : World} {K : PySem.W.Frag} {mg : Str → Option Value} {base : Heap}
abbrev nsNumberWord : List Str := ["number", "parts", "rest", "part"]
theorem scNumberWord : FnScope nsNumberWord ["number"] (defScope sNumberWord) := ⟨rfl, rfl, rfl, by decide +kernel, rfl, by decide +kernel, by decide +kernel⟩
theorem ok_number_word (t : T K mg) : Ok P w K mg base 1 "number_word" ["number"] spNumberWord := by
  refine mkOk t.d_number_word t.g_number_word scNumberWord (fun vs H Q E h => ?_) (fun _ _ _ _ _ _ us hl => match us, hl with | [_], _ => rfl) fun cdv A outer s H vs Q E hr h => ?_
  · obtain ⟨n, rfl, _⟩ := h; rfl
  obtain ⟨n, rfl, hn, k⟩ := h
  obtain ⟨kP, iP⟩ := t.i_PART
  obtain ⟨kD, iD⟩ := t.i_PART_DIGITS
  refine ⟨_, pss_cons (ps_set (i := 1) scNumberWord.nd rfl (Or.inl rfl) (pe_lst pa_nil))
    (pss_cons (ps_set (i := 2) scNumberWord.nd rfl (Or.inl rfl) (pe_callB call_abs rfl t.f_abs (by decide +kernel) (pa_cons (pv 0) pa_nil)))
    (pss_cons (ps_while PassesOwn.never (pt_cmpR op_ge (pv 2) (pgi rfl iP) (nomark _))
      (pss_cons (ps_asg (pe_callB call_divmod rfl t.f_divmod (by decide +kernel) (pa_cons (pv 2) (pa_cons (pgi rfl iP) pa_nil))) (pg_tup rfl (pgs_cons (pg_name (i := 2) scNumberWord.nd rfl (Or.inl rfl)) (pgs_cons (pg_name (i := 3) scNumberWord.nd rfl (Or.inl rfl)) pgs_nil))))
    (pss_one (ps_expr (pe_bm PySem.F.plainAttrs_list PySem.F.slot_list_append PySem.F.type_list_append mt_append (pv 1) (pa_cons (pe_bm PySem.F.plainAttrs_str PySem.F.slot_str_zfill PySem.F.type_str_zfill mt_zfill (pe_callTy call_str_int rfl t.f_str (by decide +kernel) (pa_cons (pv 3) pa_nil)) (pa_cons (pgi rfl iD) pa_nil)) pa_nil))))))
    (pss_cons (ps_expr (pe_bm PySem.F.plainAttrs_list PySem.F.slot_list_append PySem.F.type_list_append mt_append (pv 1) (pa_cons (pe_callTy call_str_int rfl t.f_str (by decide +kernel) (pa_cons (pv 2) pa_nil)) pa_nil)))
    (pss_cons (ps_if (pt_cmpR op_lt (pv 0) pe_int (nomark _))
      (pss_one (ps_expr (pe_bm PySem.F.plainAttrs_list PySem.F.slot_list_append PySem.F.type_list_append mt_append (pv 1) (pa_cons pe_str pa_nil))))
      pss_nil)
    (pss_one (ps_ret (pe_joinRev rfl t.f_reversed pe_str (pv 1)))))))), ?_⟩
  have l10 : n.natAbs.log2 < 1920 := nw_log hn.1 hn.2
  have tl : (Str.ofString (toString n)).length ≤ 10 := toString_length_le hn.1 (by decide) hn.2
  refine ⟨(by show 0 ≤ sizeLine; decide), fun D hD => ?_⟩
  refine ⟨_, rfl, n, rfl, ?_⟩
  rw [if_neg (show ¬ n < 0 by omega)]
  refine ⟨fun μ σ' H' => σ' = [some (.int n), some (.ref D), some (.int n), none] ∧ H' = upd H D (.lst []), ⟨0, rfl, rfl⟩, ?_⟩
  rintro μ σ' H' ⟨rfl, rfl⟩
  refine ⟨_, rfl, _, _, rfl, rfl, _, rfl, ite2 (fun h1 => ?_) (fun h1 => ?_)⟩
  · exfalso
    have h2 : (10000000000000000000000000000000000000000000000000000000000000000 : Int) ≤ n := of_decide_eq_true h1
    omega
  refine ⟨_, rfl, .inl ⟨rfl, _, SqL.of upd_same⟩, _, rfl, n, rfl, l10, D, _, _, rfl, rfl, upd_same, (by show 0 < sizeLine; decide), ?_⟩
  refine ⟨_, rfl, _, _, rfl, rfl, _, rfl, ite2 (fun h2 => ?_) (fun h2 => ?_)⟩
  · exfalso
    have h3 : n < 0 := of_decide_eq_true h2
    omega
  have ej : Txt.join (Str.ofString "") [Str.ofString (toString n)] = Str.ofString (toString n) := by first | rfl | simp [Txt.join]
  refine ⟨⟨_, rfl⟩, _, rfl, _, D, [Str.ofString (toString n)], rfl, rfl, SqL.of upd_same, ?_, ?_⟩
  · show ([Str.ofString (toString n)].map (·.length)).sum + 1 * (Str.ofString "").length ≤ 16777216
    have e0 : (Str.ofString "").length = 0 := rfl
    rw [e0, List.map_cons, List.map_nil, List.sum_cons, List.sum_nil]
    omega
  · show Q (.str (Txt.join (Str.ofString "") [Str.ofString (toString n)])) _
    rw [ej]
    exact k _ (Same.put (Same.new hD) hD)
end
end Sx

set_option Elab.async false
set_option linter.all false
set_option maxRecDepth 100000
set_option maxHeartbeats 2000000
namespace Sx
open PySem PySem.Spec PyProof.Rows L2 SxA SxK
/-! ### the heap of a press -/
def hpF (l : Addr) (n : Int) : List (Str × V) := [("_lying", .ref l), ("_counter", .int n)]
theorem hk0 (l : Addr) (n : Int) : (hpF l n).lookup ("_lying" : Str) = some (.ref l) := rfl
theorem hk1 (l : Addr) (n : Int) : (hpF l n).lookup ("_counter" : Str) = some (.int n) := rfl
structure HpAt (K : PySem.W.Frag) (H : Hp) (h l : Addr) (vs : List V) (n : Int) : Prop where
  ins : ∃ dh, H h = some (.ins (He.ga K "Heap") dh (hpF l n))
  lst : H l = some (.lst vs)
theorem HpAt.same {K : PySem.W.Frag} {H H' : Hp} {h l : Addr} {vs : List V} {n : Int} (S : HpAt K H h l vs n) (s : Same H H') : HpAt K H' h l vs n := ⟨⟨_, s _ _ S.ins.choose_spec⟩, s _ _ S.lst⟩
def spHeapInit (K : PySem.W.Frag) : Sp := fun vs H Q _ => ∃ (x dx : Addr), vs = [.ref x] ∧ H x = some (.ins (He.ga K "Heap") dx []) ∧ ∀ l H', H l = none → HpAt K H' x l [] 0 → But x H H' → Q .non H'
def spHeapDrop (K : PySem.W.Frag) : Sp := fun vs H Q _ => ∃ (h l : Addr) (us : List V) (n : Int) (v : V), vs = [.ref h, v] ∧ HpAt K H h l us n ∧ us.length ≤ 1000 ∧ ∀ H', HpAt K H' h l (us ++ [v]) (n + 1) → (∀ b o, H b = some o → b ≠ h → b ≠ l → H' b = some o) → Q .non H'
def spHeapFall (K : PySem.W.Frag) : Sp := fun vs H Q _ => ∃ (h l : Addr) (us : List V) (n : Int), vs = [.ref h] ∧ HpAt K H h l us n ∧ (us = [] → Q .non H) ∧ ∀ ws v, us = ws ++ [v] → ∀ H', HpAt K H' h l ws n → But l H H' → Q v H'
def spHeapSheets (K : PySem.W.Frag) : Sp := fun vs H Q _ => ∃ (h l : Addr) (us : List V) (n : Int), vs = [.ref h] ∧ HpAt K H h l us n ∧ ∀ p, H p = none → Q (.ref p) (upd H p (.lst us))
def spHeapDropped (K : PySem.W.Frag) : Sp := fun vs H Q _ => ∃ (h l : Addr) (us : List V) (n : Int), vs = [.ref h] ∧ HpAt K H h l us n ∧ Q (.int n) H
theorem hpF_put (l : Addr) (n : Int) : putF "_counter" (.int n) (putF "_lying" (.ref l) []) = hpF l n := by
  rw [put_new "_lying" _ [] (by simp)]
  rw [put_new "_counter" _ _ (by simp only [List.nil_append, List.cons_append, List.mem_cons, List.not_mem_nil, or_false, forall_eq_or_imp, forall_eq]; decide +kernel)]
  rfl
section
variable {P : Program} {w : World} {K : PySem.W.Frag} {mg : Str → Option Value} {base : Heap}
abbrev nsHeapInit : List Str := ["self"]
theorem scHeapInit : FnScope nsHeapInit ["self"] (defScope sHeapInit) := ⟨rfl, rfl, rfl, by decide +kernel, rfl, by decide +kernel, by decide +kernel⟩
theorem met_Heap_init (t : T K mg) : Met P w K mg base 1 "Heap" "__init__" ["self"] (spHeapInit K) := by
  refine mkMet t.d_Heap_init scHeapInit (fun vs H Q E h => ?_) (fun _ _ _ _ _ _ us hl => match us, hl with | [_], _ => rfl) fun cdv A outer s H vs Q E hr h => ?_
  · obtain ⟨x, dx, rfl, _⟩ := h; rfl
  obtain ⟨x, dx, rfl, hx, k⟩ := h
  refine ⟨_, pss_cons (ps_fld (pv 0) (pe_lst pa_nil) rfl) (pss_one (ps_fld (pv 0) pe_int rfl)), ?_⟩
  have l0 : ([] : List (Str × V)).length ≤ 0 := Nat.le_refl _
  refine ⟨(by show 0 ≤ sizeLine; decide), fun l hl => ⟨_, rfl, x, _, dx, _, rfl, Same.new hl _ _ hx, t.c_Heap, t.n_Heap__lying, (Nat.lt_of_le_of_lt l0 (by decide)), ?_⟩⟩
  have nlx : l ≠ x := fun e => by rw [e, hx] at hl; cases hl
  refine ⟨_, rfl, x, _, dx, _, rfl, upd_same, t.c_Heap, t.n_Heap__counter, (Nat.lt_of_le_of_lt (len_put_lt l0) (by decide)), ?_⟩
  rw [upd_upd, hpF_put]
  exact k l _ hl ⟨⟨_, upd_same⟩, by rw [upd_ne nlx]; exact upd_same⟩ fun c o e n => by rw [upd_ne n]; exact Same.new hl _ _ e
abbrev nsHeapDrop : List Str := ["self", "sheet"]
theorem scHeapDrop : FnScope nsHeapDrop ["self", "sheet"] (defScope sHeapDrop) := ⟨rfl, rfl, rfl, by decide +kernel, rfl, by decide +kernel, by decide +kernel⟩
abbrev nsHeapFall : List Str := ["self"]
theorem scHeapFall : FnScope nsHeapFall ["self"] (defScope sHeapFall) := ⟨rfl, rfl, rfl, by decide +kernel, rfl, by decide +kernel, by decide +kernel⟩
abbrev nsHeapSheets : List Str := ["self"]
theorem scHeapSheets : FnScope nsHeapSheets ["self"] (defScope sHeapSheets) := ⟨rfl, rfl, rfl, by decide +kernel, rfl, by decide +kernel, by decide +kernel⟩
theorem met_Heap_sheets (t : T K mg) : Met P w K mg base 1 "Heap" "sheets" ["self"] (spHeapSheets K) := by
  refine mkMet t.d_Heap_sheets scHeapSheets (fun vs H Q E h => ?_) (fun _ _ _ _ _ _ us hl => match us, hl with | [_], _ => rfl) fun cdv A outer s H vs Q E hr h => ?_
  · obtain ⟨h, l, us, n, rfl, _⟩ := h; rfl
  obtain ⟨h, l, us, n, rfl, S, k⟩ := h
  obtain ⟨dh, hi⟩ := S.ins
  refine ⟨_, pss_one (ps_ret (pe_callTy call_list_of rfl t.f_list (by decide +kernel) (pa_cons (pe_fld (pv 0) rfl) pa_nil))), ?_⟩
  exact ⟨_, rfl, h, _, dh, _, _, rfl, hi, t.c_Heap, t.n_Heap__lying, hk0 _ _, l, us, rfl, .inl (SqL.of S.lst), k⟩
abbrev nsHeapDropped : List Str := ["self"]
theorem scHeapDropped : FnScope nsHeapDropped ["self"] (defScope sHeapDropped) := ⟨rfl, rfl, rfl, by decide +kernel, rfl, by decide +kernel, by decide +kernel⟩
theorem met_Heap_dropped (t : T K mg) : Met P w K mg base 1 "Heap" "dropped" ["self"] (spHeapDropped K) := by
  refine mkMet t.d_Heap_dropped scHeapDropped (fun vs H Q E h => ?_) (fun _ _ _ _ _ _ us hl => match us, hl with | [_], _ => rfl) fun cdv A outer s H vs Q E hr h => ?_
  · obtain ⟨h, l, us, n, rfl, _⟩ := h; rfl
  obtain ⟨h, l, us, n, rfl, S, k⟩ := h
  obtain ⟨dh, hi⟩ := S.ins
  refine ⟨_, pss_one (ps_ret (pe_fld (pv 0) rfl)), ?_⟩
  exact ⟨_, rfl, h, _, dh, _, _, rfl, hi, t.c_Heap, t.n_Heap__counter, hk1 _ _, k⟩
end
end Sx

set_option Elab.async false
set_option linter.all false
set_option maxRecDepth 100000
set_option maxHeartbeats 2000000
namespace Sx
open PySem PySem.Spec PyProof.Rows L2 SxA SxK
section
variable {P : Program} {w : World} {K : PySem.W.Frag} {mg : Str → Option Value} {base : Heap}
theorem met_Heap_drop (t : T K mg) : Met P w K mg base 1 "Heap" "drop" ["self", "sheet"] (spHeapDrop K) := by
  refine mkMet t.d_Heap_drop scHeapDrop (fun vs H Q E h => ?_) (fun _ _ _ _ _ _ us hl => match us, hl with | [_, _], _ => rfl) fun cdv A outer s H vs Q E hr h => ?_
  · obtain ⟨h, l, us, n, v, rfl, _⟩ := h; rfl
  obtain ⟨h, l, us, n, v, rfl, S, hl, k⟩ := h
  obtain ⟨dh, hi⟩ := S.ins
  refine ⟨_, pss_cons (ps_expr (pe_bm PySem.F.plainAttrs_list PySem.F.slot_list_append PySem.F.type_list_append mt_append (pe_fld (pv 0) rfl) (pa_cons (pv 1) pa_nil))) (pss_one (ps_fldaug (pv 0) pe_int in_add)), ?_⟩
  have nlh : l ≠ h := ne_of S.lst hi (by intro z; cases z)
  refine ⟨_, rfl, h, _, dh, _, _, rfl, hi, t.c_Heap, t.n_Heap__lying, hk0 _ _, .inl ⟨rfl, _, SqL.of S.lst⟩, _, rfl, l, us, v, rfl, rfl, S.lst, small1 (by omega), ?_⟩
  refine ⟨_, rfl, h, _, dh, _, _, rfl, by rw [upd_ne nlh.symm]; exact hi, t.c_Heap, t.n_Heap__counter, hk1 _ _, _, _, rfl, rfl, dh, hpF l n, by rw [upd_ne nlh.symm]; exact hi, (by show 2 < 1000; decide), ?_⟩
  have e : putF "_counter" (.int (n + 1)) (hpF l n) = hpF l (n + 1) := by
    unfold hpF putF
    rfl
  rw [e]
  exact k _ ⟨⟨_, upd_same⟩, by rw [upd_ne nlh]; exact upd_same⟩ fun b o e n1 n2 => by rw [upd_ne n1, upd_ne n2]; exact e
theorem met_Heap_fall (t : T K mg) : Met P w K mg base 1 "Heap" "fall" ["self"] (spHeapFall K) := by
  refine mkMet t.d_Heap_fall scHeapFall (fun vs H Q E h => ?_) (fun _ _ _ _ _ _ us hl => match us, hl with | [_], _ => rfl) fun cdv A outer s H vs Q E hr h => ?_
  · obtain ⟨h, l, us, n, rfl, _⟩ := h; rfl
  obtain ⟨h, l, us, n, rfl, S, k0, k⟩ := h
  obtain ⟨dh, hi⟩ := S.ins
  refine ⟨_, pss_one (ps_ret (pe_ifExp (pt_truth (pe_fld (pv 0) rfl) (by intro _; rfl)) (pe_bm0 PySem.F.plainAttrs_list PySem.F.slot_list_pop PySem.F.type_list_pop mt_pop (pe_fld (pv 0) rfl)) pe_non)), ?_⟩
  have nlh : l ≠ h := ne_of S.lst hi (by intro z; cases z)
  refine ⟨_, rfl, h, _, dh, _, _, rfl, hi, t.c_Heap, t.n_Heap__lying, hk0 _ _, !us.isEmpty, ?_, ?_⟩
  · exact .inl ⟨us, SqL.of S.lst, rfl⟩
  cases us with
  | nil => exact iteF (k0 rfl)
  | cons a r =>
    refine iteT ⟨_, rfl, h, _, dh, _, _, rfl, hi, t.c_Heap, t.n_Heap__lying, hk0 _ _, .inl ⟨rfl, _, SqL.of S.lst⟩, l, _, _, rfl, rfl, S.lst, List.getElem?_eq_getElem (by rw [List.length_cons]; omega), ?_⟩
    refine k (a :: r).dropLast _ ?_ _ ⟨⟨dh, by rw [upd_ne nlh.symm]; exact hi⟩, upd_same⟩ fun b o e n => by rw [upd_ne n]; exact e
    have := List.dropLast_concat_getLast (l := a :: r) (List.cons_ne_nil _ _)
    rw [← List.getLast_eq_getElem (List.cons_ne_nil _ _)]
    exact this.symm
/-! ### notes -/
def noteS (n : Int) : Str := (Str.ofString "done " ++ Str.ofString (toString n)) ++ Str.ofString "\n"
def notesS (n : Nat) : Str := Txt.join (Str.ofString "") ((List.range n).map fun k : Nat => noteS (k : Int))
theorem note_len {n : Int} (h0 : 0 ≤ n) (h1 : n < 10 ^ 10) : (noteS n).length ≤ 16 := by
  have tl : (Str.ofString (toString n)).length ≤ 10 := toString_length_le h0 (by decide) h1
  have l5 : (Str.ofString "done ").length = 5 := by decide +kernel
  have l1 : (Str.ofString "\n").length = 1 := by decide +kernel
  unfold noteS
  rw [len_app, len_app, l5, l1]
  omega
def spNote : Sp := fun vs H Q _ => ∃ n : Int, vs = [.int n] ∧ 0 ≤ n ∧ n < 1000 ∧ Q (.str (noteS n)) H
def spLines : Sp := fun vs H Q _ => ∃ n : Nat, vs = [.int (n : Int)] ∧ n ≤ 100 ∧ ∀ H', Same H H' → Q (.str (notesS n)) H'
abbrev nsNoteOf : List Str := ["number"]
theorem scNoteOf : FnScope nsNoteOf ["number"] (defScope sNoteOf) := ⟨rfl, rfl, rfl, by decide +kernel, rfl, by decide +kernel, by decide +kernel⟩
theorem ok_note_of (t : T K mg) : Ok P w K mg base 1 "note_of" ["number"] spNote := by
  refine mkOk t.d_note_of t.g_note_of scNoteOf (fun vs H Q E h => ?_) (fun _ _ _ _ _ _ us hl => match us, hl with | [_], _ => rfl) fun cdv A outer s H vs Q E hr h => ?_
  · obtain ⟨n, rfl, _⟩ := h; rfl
  obtain ⟨n, rfl, h0, h1, k⟩ := h
  refine ⟨_, pss_one (ps_ret (pe_joined (.cons pe_str (.cons (pe_fmt (pv 0)) (.cons pe_str .nil))))), ?_⟩
  have tl : (Str.ofString (toString n)).length ≤ 10 := toString_length_le h0 (by decide) (by omega)
  have l5 : (Str.ofString "done ").length = 5 := by decide +kernel
  have l1 : (Str.ofString "\n").length = 1 := by decide +kernel
  have le : Str.empty.length = 0 := by decide +kernel
  have big : 100 ≤ sizeLine := by decide
  refine ⟨_, rfl, by rw [len_app, le, l5]; omega, _, rfl, .inr ⟨n, rfl, nw_log h0 (by omega), _, rfl, by rw [len_app, len_app, le, l5]; omega, _, rfl, by rw [len_app, len_app, len_app, le, l5, l1]; omega, ?_⟩⟩
  have e : Str.empty ++ Str.ofString "done " = Str.ofString "done " := by decide +kernel
  show Q (.str (((Str.empty ++ Str.ofString "done ") ++ Str.ofString (toString n)) ++ Str.ofString "\n")) H
  rw [e]
  exact k
abbrev nsLawLines : List Str := ["count", "k"]
theorem scLawLines : FnScope nsLawLines ["count"] (defScope sLawLines) := ⟨rfl, rfl, rfl, by decide +kernel, rfl, by decide +kernel, by decide +kernel⟩
theorem ok_law_lines (t : T K mg) : Ok P w K mg base 1 "_law_lines" ["count"] spLines := by
  refine mkOk t.d_law_lines t.g_law_lines scLawLines (fun vs H Q E h => ?_) (fun _ _ _ _ _ _ us hl => match us, hl with | [_], _ => rfl) fun cdv A outer s H vs Q E hr h => ?_
  · obtain ⟨n, rfl, _⟩ := h; rfl
  obtain ⟨n, rfl, h1, k⟩ := h
  refine ⟨_, pss_one (ps_ret (pe_join pe_str (pe_lc (own := [("k", 1)]) (g := gName 1) (tt := tYes) rfl scLawLines.nd (pi_range1 rfl t.f_range (pa_cons (pv 0) pa_nil)) (blkOk_by (own := [("k", 1)]) (N := nsLawLines) (sc := defScope sLawLines) (by decide +kernel)) (fun _ _ _ _ _ => pg_name (i := 1) scLawLines.nd rfl (Or.inl rfl)) (fun _ _ _ _ _ => pts_nil) (fun _ _ _ _ _ => (pe_op op_add_str (pe_op op_add_str pe_str (pe_callTy call_str_int rfl t.f_str (by decide +kernel) (pa_cons (pv 1) pa_nil))) pe_str))))), ?_⟩
  have l5 : (Str.ofString "done ").length = 5 := by decide +kernel
  have l1 : (Str.ofString "\n").length = 1 := by decide +kernel
  have le : (Str.ofString "").length = 0 := by decide +kernel
  have big : 1000 ≤ sizeLine := by decide
  have b62 : (100 : Int) < 2 ^ 62 := by decide
  refine ⟨⟨_, rfl⟩, _, rfl, _, rfl, by omega, by omega, fun D hD => ?_⟩
  refine lc_range (lo := 0) (n := ((n : Int)).toNat) (fun i H' => H' D = some (.lst (((List.range i).map fun k : Nat => noteS (k : Int)).map V.str)) ∧ Same H H') ⟨upd_same, Same.new hD⟩ ?_ ?_
  · rintro i H' hi ⟨hd, s1⟩
    have i1 : i < n := by omega
    have tl : (Str.ofString (toString (0 + (i : Int)))).length ≤ 10 := toString_length_le (by omega) (by decide) (by omega)
    refine ⟨rfl, _, rfl, _, rfl, nw_log (by omega) (by omega), _, _, rfl, rfl, by rw [l5]; omega, _, _, rfl, rfl, by rw [len_app, l5, l1]; omega, _, hd, by rw [List.length_map, List.length_map, List.length_range]; omega, ?_, fun c o e => by rw [upd_ne (ne_of_none e hD)]; exact s1 _ _ e⟩
    rw [upd_same, List.range_succ, List.map_append, List.map_append]
    show _ = some (HO.lst (_ ++ [V.str (noteS (i : Int))]))
    rw [Int.zero_add]
    rfl
  · rintro H' ⟨hd, s1⟩
    rw [show ((n : Int)).toNat = n by omega] at hd
    refine ⟨_, D, _, rfl, rfl, .inl (SqL.of hd), ?_, k H' s1⟩
    rw [le]
    have hs : ∀ m, m ≤ 100 → (((List.range m).map fun k : Nat => noteS (k : Int)).map (·.length)).sum ≤ 16 * m := fun m => by
      induction m with
      | zero => intro _; exact Nat.le_refl _
      | succ m ih =>
        intro hm
        have := ih (by omega)
        have q := note_len (n := (m : Int)) (by omega) (by omega)
        rw [List.range_succ, List.map_append, List.map_append, List.sum_append]
        show _ + ((noteS (m : Int)).length + 0) ≤ _
        omega
    have := hs n h1
    omega
end
end Sx

set_option Elab.async false
set_option linter.all false
set_option maxRecDepth 100000
set_option maxHeartbeats 2000000
namespace Sx
open PySem PySem.Spec PyProof.Rows L2 SxA SxK
/-! ### the law's model of a press -/
def mdK (n s c : Int) (ly : Addr) (d : Int) : List (Key × V) := [(.inr "noted", .int n), (.inr "stage", .int s), (.inr "count", .int c), (.inr "lying", .ref ly), (.inr "dropped", .int d)]
theorem mv_n (n s c : Int) (ly : Addr) (d : Int) : valV (mdK n s c ly d) (.inr "noted") = some (.int n) := rfl
theorem mv_s (n s c : Int) (ly : Addr) (d : Int) : valV (mdK n s c ly d) (.inr "stage") = some (.int s) := rfl
theorem mv_c (n s c : Int) (ly : Addr) (d : Int) : valV (mdK n s c ly d) (.inr "count") = some (.int c) := rfl
theorem mv_l (n s c : Int) (ly : Addr) (d : Int) : valV (mdK n s c ly d) (.inr "lying") = some (.ref ly) := rfl
theorem mv_d (n s c : Int) (ly : Addr) (d : Int) : valV (mdK n s c ly d) (.inr "dropped") = some (.int d) := rfl
theorem mp_n (n s c : Int) (ly : Addr) (d x : Int) : putK (mdK n s c ly d) (.inr "noted") (.int x) = mdK x s c ly d := rfl
theorem mp_s (n s c : Int) (ly : Addr) (d x : Int) : putK (mdK n s c ly d) (.inr "stage") (.int x) = mdK n x c ly d := rfl
theorem mp_d (n s c : Int) (ly : Addr) (d x : Int) : putK (mdK n s c ly d) (.inr "dropped") (.int x) = mdK n s c ly x := rfl
def stageS : List Str := ["feed", "front", "turn", "back"]
/-- what _law_inside tells -/
def InsT (H : Hp) (v : V) (n s : Int) : Prop := (1 ≤ s ∧ s ≤ 4 ∧ ∃ (T : Addr) (z : Str), v = .ref T ∧ H T = some (.tup [.int n, .str z]) ∧ atI (stageS.map V.str) (s - 1) = some (.str z)) ∨ (¬ (1 ≤ s ∧ s ≤ 4) ∧ v = .non)
def spInside : Sp := fun vs H Q _ => ∃ (m : Addr) (n s c : Int) (ly : Addr) (d : Int), vs = [.ref m] ∧ H m = some (.dK (mdK n s c ly d)) ∧ ∀ v H', Same H H' → InsT H' v n s → Q v H'
section
variable {P : Program} {w : World} {K : PySem.W.Frag} {mg : Str → Option Value} {base : Heap}
abbrev nsLawInside : List Str := ["model"]
theorem scLawInside : FnScope nsLawInside ["model"] (defScope sLawInside) := ⟨rfl, rfl, rfl, by decide +kernel, rfl, by decide +kernel, by decide +kernel⟩
theorem ok_law_inside (t : T K mg) : Ok P w K mg base 1 "_law_inside" ["model"] spInside := by
  refine mkOk t.d_law_inside t.g_law_inside scLawInside (fun vs H Q E h => ?_) (fun _ _ _ _ _ _ us hl => match us, hl with | [_], _ => rfl) fun cdv A outer s H vs Q E hr h => ?_
  · obtain ⟨m, n, s, c, ly, d, rfl, _⟩ := h; rfl
  obtain ⟨m, n, s, c, ly, d, rfl, hm, k⟩ := h
  refine ⟨_, pss_cons (ps_if (pt_chain op_le op_le pe_int (pe_dget (hu_of hr) (pv 0) pe_str (fun _ _ => rfl)) pe_int)
      (pss_one (ps_ret (pe_tup (pa_cons (pe_dget (hu_of hr) (pv 0) pe_str (fun _ _ => rfl)) (pa_cons (pe_ix ix_list (pe_lst (pa_cons pe_str (pa_cons pe_str (pa_cons pe_str (pa_cons pe_str pa_nil))))) (pe_op op_sub (pe_dget (hu_of hr) (pv 0) pe_str (fun _ _ => rfl)) pe_int) (fun _ _ => rfl)) pa_nil)))))
      pss_nil)
    (pss_one (ps_ret pe_non)), ?_⟩
  have sr : Same H H := fun _ _ z => z
  refine ⟨_, rfl, m, .int s, rfl, DGet.k (k := .inr "stage") hm, _, _, rfl, rfl, _, rfl, ?_⟩
  refine ite2 (fun h1 => ?_) (fun h1 => ⟨_, rfl, iteF (k _ _ sr (.inr ⟨fun q => h1 (decide_eq_true q.1), rfl⟩))⟩)
  refine ⟨_, _, rfl, rfl, _, rfl, ?_⟩
  refine ite2 (fun h2 => ?_) (fun h2 => k _ _ sr (.inr ⟨fun q => h2 (decide_eq_true q.2), rfl⟩))
  have s1 : 1 ≤ s := of_decide_eq_true h1
  have s4 : s ≤ 4 := of_decide_eq_true h2
  obtain ⟨z, hz⟩ : ∃ z : Str, atI (stageS.map V.str) (s - 1) = some (.str z) := by
    have : s = 1 ∨ s = 2 ∨ s = 3 ∨ s = 4 := by omega
    rcases this with rfl | rfl | rfl | rfl
    · exact ⟨"feed", rfl⟩
    · exact ⟨"front", rfl⟩
    · exact ⟨"turn", rfl⟩
    · exact ⟨"back", rfl⟩
  refine ⟨_, rfl, m, .int n, rfl, DGet.k (k := .inr "noted") hm, (by show 4 ≤ sizeLine; decide), fun g hg => ?_⟩
  have sg : Same H (upd H g (.lst (stageS.map V.str))) := Same.new hg
  refine ⟨_, rfl, m, .int s, rfl, DGet.k (k := .inr "stage") (sg _ _ hm), _, _, rfl, rfl, g, _, _, .str z, rfl, rfl, SqL.of upd_same, hz, (by show 2 ≤ sizeLine; decide), fun T hT => ?_⟩
  exact k _ _ (sg.trans (Same.new hT)) (.inl ⟨s1, s4, T, z, rfl, upd_same, hz⟩)
end
end Sx

set_option Elab.async false
set_option linter.all false
set_option maxRecDepth 100000
set_option maxHeartbeats 2000000
namespace Sx
open PySem PySem.Spec PyProof.Rows L2 SxA SxK
def wordS : List Str := ["feed", "front", "turn", "back", "drop"]
/-- one step of the law's model: the word, and what it becomes -/
inductive DueStep (n s c d : Int) (lv : List Int) : Str → Int → Int → List Int → Int → Prop where
  | over (h : n = c) : DueStep n s c d lv "over" n s lv d
  | note (h : n ≠ c) (h2 : d > n) : DueStep n s c d lv "note" (n + 1) 0 lv d
  | word (z : Str) (h : n ≠ c) (h2 : ¬ d > n) (hs : s < 4) (hz : atI (wordS.map V.str) s = some (.str z)) : DueStep n s c d lv z n (s + 1) lv d
  | drop (h : n ≠ c) (h2 : ¬ d > n) (hs : s = 4) : DueStep n s c d lv "drop" n (s + 1) (lv ++ [n]) (d + 1)
def spDue : Sp := fun vs H Q _ => ∃ (m : Addr) (n s c : Int) (ly : Addr) (d : Int) (lv : List Int), vs = [.ref m] ∧ H m = some (.dK (mdK n s c ly d)) ∧ H ly = some (.lst (lv.map V.int)) ∧ lv.length ≤ 1000 ∧ (n = c ∨ d > n ∨ 0 ≤ s ∧ s ≤ 4) ∧
  ∀ z n' s' lv' d' H', DueStep n s c d lv z n' s' lv' d' → H' m = some (.dK (mdK n' s' c ly d')) → H' ly = some (.lst (lv'.map V.int)) → (∀ b o, H b = some o → b ≠ m → b ≠ ly → H' b = some o) → Q (.str z) H'
section
variable {P : Program} {w : World} {K : PySem.W.Frag} {mg : Str → Option Value} {base : Heap}
abbrev nsLawDue : List Str := ["model", "word"]
theorem scLawDue : FnScope nsLawDue ["model"] (defScope sLawDue) := ⟨rfl, rfl, rfl, by decide +kernel, rfl, by decide +kernel, by decide +kernel⟩
theorem ok_law_due (t : T K mg) : Ok P w K mg base 1 "_law_due" ["model"] spDue := by
  refine mkOk t.d_law_due t.g_law_due scLawDue (fun vs H Q E h => ?_) (fun _ _ _ _ _ _ us hl => match us, hl with | [_], _ => rfl) fun cdv A outer s H vs Q E hr h => ?_
  · obtain ⟨m, n, s, c, ly, d, lv, rfl, _⟩ := h; rfl
  obtain ⟨m, n, s, c, ly, d, lv, rfl, hm, hly, hl, hs, k⟩ := h
  refine ⟨_, pss_cons (ps_if (pt_cmpR op_eq (pe_dget (hu_of hr) (pv 0) pe_str (fun _ _ => rfl)) (pe_dget (hu_of hr) (pv 0) pe_str (fun _ _ => rfl)) (nomark _))
      (pss_one (ps_ret pe_str))
      pss_nil)
    (pss_cons (ps_if (pt_cmpR op_gt (pe_dget (hu_of hr) (pv 0) pe_str (fun _ _ => rfl)) (pe_dget (hu_of hr) (pv 0) pe_str (fun _ _ => rfl)) (nomark _))
      (pss_cons (ps_dput (hu_of hr) (pv 0) pe_str (pe_op op_add (pe_dget (hu_of hr) (pv 0) pe_str (fun _ _ => rfl)) pe_int) rfl)
    (pss_cons (ps_dput (hu_of hr) (pv 0) pe_str pe_int rfl)
    (pss_one (ps_ret pe_str))))
      pss_nil)
    (pss_cons (ps_set (i := 1) scLawDue.nd rfl (Or.inl rfl) (pe_ix ix_list (pe_lst (pa_cons pe_str (pa_cons pe_str (pa_cons pe_str (pa_cons pe_str (pa_cons pe_str pa_nil)))))) (pe_dget (hu_of hr) (pv 0) pe_str (fun _ _ => rfl)) (fun _ _ => rfl)))
    (pss_cons (ps_dput (hu_of hr) (pv 0) pe_str (pe_op op_add (pe_dget (hu_of hr) (pv 0) pe_str (fun _ _ => rfl)) pe_int) rfl)
    (C8.pss_cut (ps_if (pt_cmpR op_eq (pv 1) pe_str (nomark _))
      (pss_cons (ps_expr (pe_bm PySem.F.plainAttrs_list PySem.F.slot_list_append PySem.F.type_list_append mt_append (pe_dget (hu_of hr) (pv 0) pe_str (fun _ _ => rfl)) (pa_cons (pe_dget (hu_of hr) (pv 0) pe_str (fun _ _ => rfl)) pa_nil)))
    (pss_one (ps_dput (hu_of hr) (pv 0) pe_str (pe_op op_add (pe_dget (hu_of hr) (pv 0) pe_str (fun _ _ => rfl)) pe_int) rfl)))
      pss_nil)
    (pss_one (ps_ret (pv 1))))))), ?_⟩
  have ieq : ∀ (x y : Int), decide (V.int x = V.int y) = decide (x = y) := fun x y => decide_eq_decide.mpr ⟨fun e => V.int.inj e, fun e => by rw [e]⟩
  have nml : m ≠ ly := ne_of hm hly (by intro z; cases z)
  have l5 : ∀ {n s c d : Int}, (mdK n s c ly d).length < sizeLine := fun {n s c d} => (by show 5 < sizeLine; decide)
  refine ⟨_, rfl, m, .int n, rfl, DGet.k (k := .inr "noted") hm, _, rfl, m, .int c, rfl, DGet.k (k := .inr "count") hm, rfl, _, rfl, ?_⟩
  rw [ieq]
  refine ite2 (fun h1 => k _ n s lv d H (.over (of_decide_eq_true h1)) hm hly fun b o e _ _ => e) (fun h1 => ?_)
  have h1 : n ≠ c := fun e => h1 (decide_eq_true e)
  refine ⟨_, rfl, m, .int d, rfl, DGet.k (k := .inr "dropped") hm, _, rfl, m, .int n, rfl, DGet.k (k := .inr "noted") hm, _, _, rfl, rfl, _, rfl, ?_⟩
  refine ite2 (fun h2 => ?_) (fun h2 => ?_)
  · have h2 : d > n := of_decide_eq_true h2
    refine ⟨_, rfl, m, .int n, rfl, DGet.k (k := .inr "noted") hm, _, _, rfl, rfl, _, rfl, m, _, rfl, DPut.k (k := .inr "noted") hm l5, ?_⟩
    rw [mp_n]
    refine ⟨_, rfl, m, _, rfl, DPut.k (k := .inr "stage") upd_same l5, ?_⟩
    rw [mp_s, upd_upd]
    exact k _ _ _ lv d _ (.note h1 h2) upd_same (by rw [upd_ne nml.symm]; exact hly) fun b o e n1 _ => by rw [upd_ne n1]; exact e
  have h2 : ¬ d > n := fun e => h2 (decide_eq_true e)
  have hs' : 0 ≤ s ∧ s ≤ 4 := by
    rcases hs with h | h | h
    · exact absurd h h1
    · exact absurd h h2
    · exact h
  obtain ⟨z, hz⟩ : ∃ z : Str, atI (wordS.map V.str) s = some (.str z) := by
    have : s = 0 ∨ s = 1 ∨ s = 2 ∨ s = 3 ∨ s = 4 := by omega
    rcases this with rfl | rfl | rfl | rfl | rfl
    · exact ⟨"feed", rfl⟩
    · exact ⟨"front", rfl⟩
    · exact ⟨"turn", rfl⟩
    · exact ⟨"back", rfl⟩
    · exact ⟨"drop", rfl⟩
  have hzd : decide (V.str z = V.str "drop") = decide (s = 4) := by
    have : s = 0 ∨ s = 1 ∨ s = 2 ∨ s = 3 ∨ s = 4 := by omega
    rcases this with rfl | rfl | rfl | rfl | rfl <;> cases hz <;> decide +kernel
  refine ⟨(by show 5 ≤ sizeLine; decide), fun g hg => ?_⟩
  have sg : Same H (upd H g (.lst (wordS.map V.str))) := Same.new hg
  have hg' := upd_same (H := H) (a := g) (o := .lst (wordS.map V.str))
  rw [show upd H g (.lst [V.str "feed", V.str "front", V.str "turn", V.str "back", V.str "drop"]) = upd H g (.lst (wordS.map V.str)) from rfl]
  generalize upd H g (.lst (wordS.map V.str)) = H1 at sg hg' ⊢
  have hm1 := sg _ _ hm
  have hl1 := sg _ _ hly
  refine ⟨_, rfl, m, .int s, rfl, DGet.k (k := .inr "stage") hm1, g, _, _, .str z, rfl, rfl, SqL.of hg', hz, ?_⟩
  refine ⟨_, rfl, m, .int s, rfl, DGet.k (k := .inr "stage") hm1, _, _, rfl, rfl, _, rfl, m, _, rfl, DPut.k (k := .inr "stage") hm1 l5, ?_⟩
  rw [mp_s]
  have hm2 := upd_same (H := H1) (a := m) (o := .dK (mdK n (s + 1) c ly d))
  have hl2 : upd H1 m (.dK (mdK n (s + 1) c ly d)) ly = some (.lst (lv.map V.int)) := by rw [upd_ne nml.symm]; exact hl1
  have fr2 : ∀ b o, H b = some o → b ≠ m → b ≠ ly → upd H1 m (.dK (mdK n (s + 1) c ly d)) b = some o := fun b o e n1 _ => by rw [upd_ne n1]; exact sg _ _ e
  generalize upd H1 m (.dK (mdK n (s + 1) c ly d)) = H2 at hm2 hl2 fr2 ⊢
  refine ⟨fun σ3 H3 => σ3 = [some (.ref m), some (.str z)] ∧ ∀ Q' : VK, (∀ n' s' lv' d' H', DueStep n s c d lv z n' s' lv' d' → H' m = some (.dK (mdK n' s' c ly d')) → H' ly = some (.lst (lv'.map V.int)) → (∀ b o, H b = some o → b ≠ m → b ≠ ly → H' b = some o) → Q' (.str z) H') → Q' (.str z) H3, ?_, ?_⟩
  · refine ⟨_, rfl, rfl, _, rfl, ?_⟩
    rw [hzd]
    refine ite2 (fun h4 => ?_) (fun h4 => ⟨rfl, fun Q' q => q n (s + 1) lv d H2 (.word z h1 h2 (by have : s ≠ 4 := fun e => h4 (decide_eq_true e); omega) hz) hm2 hl2 fr2⟩)
    have h4 : s = 4 := of_decide_eq_true h4
    refine ⟨_, rfl, m, .ref ly, rfl, DGet.k (k := .inr "lying") hm2, .inl ⟨rfl, _, SqL.of hl2⟩, _, rfl, m, .int n, rfl, DGet.k (k := .inr "noted") hm2, ly, _, _, rfl, rfl, hl2, by rw [List.length_map]; exact small1 (by omega), ?_⟩
    have hm3 : upd H2 ly (.lst (lv.map V.int ++ [V.int n])) m = some (.dK (mdK n (s + 1) c ly d)) := by rw [upd_ne nml]; exact hm2
    refine ⟨_, rfl, m, .int d, rfl, DGet.k (k := .inr "dropped") hm3, _, _, rfl, rfl, _, rfl, m, _, rfl, DPut.k (k := .inr "dropped") hm3 l5, ?_⟩
    rw [mp_d]
    refine ⟨rfl, fun Q' q => ?_⟩
    have ez : z = "drop" := by rw [h4] at hz; cases hz; rfl
    subst ez
    refine q n (s + 1) (lv ++ [n]) (d + 1) _ (.drop h1 h2 h4) upd_same ?_ fun b o e n1 n2 => by rw [upd_ne n1, upd_ne n2]; exact fr2 b o e n1 n2
    rw [upd_ne nml.symm, upd_same, List.map_append]
    rfl
  · rintro σ3 H3 ⟨rfl, q⟩
    exact ⟨_, rfl, q Q fun n' s' lv' d' H' st a b c' => k z n' s' lv' d' H' st a b c'⟩
end
end Sx

set_option Elab.async false
set_option linter.all false
set_option maxRecDepth 100000
set_option maxHeartbeats 2000000
namespace Sx
open PySem PySem.Spec PyProof.Rows L2 SxA SxK
/-! ### a press -/
def prF (wl hp : Addr) (n d : Int) : List (Str × V) := [("_wanted", .ref wl), ("_heap", .ref hp), ("_noted", .int n), ("_done", .int d)]
theorem pk0 (wl hp : Addr) (n d : Int) : (prF wl hp n d).lookup ("_wanted" : Str) = some (.ref wl) := rfl
theorem pk1 (wl hp : Addr) (n d : Int) : (prF wl hp n d).lookup ("_heap" : Str) = some (.ref hp) := rfl
theorem pk2 (wl hp : Addr) (n d : Int) : (prF wl hp n d).lookup ("_noted" : Str) = some (.int n) := rfl
theorem pk3 (wl hp : Addr) (n d : Int) : (prF wl hp n d).lookup ("_done" : Str) = some (.int d) := rfl
theorem pp2 (wl hp : Addr) (n d x : Int) : putF "_noted" (.int x) (prF wl hp n d) = prF wl hp x d := rfl
theorem pp3 (wl hp : Addr) (n d x : Int) : putF "_done" (.int x) (prF wl hp n d) = prF wl hp n x := rfl
def PrAt (K : PySem.W.Frag) (H : Hp) (p wl hp : Addr) (n d : Int) : Prop := ∃ dp, H p = some (.ins (He.ga K "Press") dp (prF wl hp n d))
def spJam (K : PySem.W.Frag) : Sp := fun vs H Q _ => ∃ (p wl hp : Addr) (n d : Int), vs = [.ref p] ∧ PrAt K H p wl hp n d ∧ ∀ H', PrAt K H' p wl hp n 0 → But p H H' → Q (.bl (decide (d > 0))) H'
def spJournal (K : PySem.W.Frag) : Sp := fun vs H Q _ => ∃ (p wl hp : Addr) (n : Nat) (d : Int), vs = [.ref p] ∧ PrAt K H p wl hp (n : Int) d ∧ n ≤ 100 ∧ ∀ H', Same H H' → Q (.str (notesS n)) H'
section
variable {P : Program} {w : World} {K : PySem.W.Frag} {mg : Str → Option Value} {base : Heap}
abbrev nsPressJam : List Str := ["self", "is_spoilt"]
theorem scPressJam : FnScope nsPressJam ["self"] (defScope sPressJam) := ⟨rfl, rfl, rfl, by decide +kernel, rfl, by decide +kernel, by decide +kernel⟩
theorem met_Press_jam (t : T K mg) : Met P w K mg base 1 "Press" "jam" ["self"] (spJam K) := by
  refine mkMet t.d_Press_jam scPressJam (fun vs H Q E h => ?_) (fun _ _ _ _ _ _ us hl => match us, hl with | [_], _ => rfl) fun cdv A outer s H vs Q E hr h => ?_
  · obtain ⟨p, wl, hp, n, d, rfl, _⟩ := h; rfl
  obtain ⟨p, wl, hp, n, d, rfl, ⟨dp, hi⟩, k⟩ := h
  refine ⟨_, pss_cons (ps_set (i := 1) scPressJam.nd rfl (Or.inl rfl) (pe_cmpR op_gt (pe_fld (pv 0) rfl) pe_int (nomark _)))
    (pss_cons (ps_fld (pv 0) pe_int rfl)
    (pss_one (ps_ret (pv 1)))), ?_⟩
  refine ⟨_, rfl, p, _, dp, _, _, rfl, hi, t.c_Press, t.n_Press__done, pk3 _ _ _ _, _, _, rfl, rfl, ?_⟩
  refine ⟨_, rfl, p, _, dp, _, rfl, hi, t.c_Press, t.n_Press__done, (by show 4 < 1000; decide), ?_⟩
  rw [pp3]
  exact ⟨_, rfl, k _ ⟨dp, upd_same⟩ fun b o e n => by rw [upd_ne n]; exact e⟩
abbrev nsPressJournal : List Str := ["self", "number"]
theorem scPressJournal : FnScope nsPressJournal ["self"] (defScope sPressJournal) := ⟨rfl, rfl, rfl, by decide +kernel, rfl, by decide +kernel, by decide +kernel⟩
theorem met_Press_journal (t : T K mg) : Met P w K mg base 2 "Press" "journal" ["self"] (spJournal K) := by
  refine mkMet t.d_Press_journal scPressJournal (fun vs H Q E h => ?_) (fun _ _ _ _ _ _ us hl => match us, hl with | [_], _ => rfl) fun cdv A outer s H vs Q E hr h => ?_
  · obtain ⟨p, wl, hp, n, d, rfl, _⟩ := h; rfl
  obtain ⟨p, wl, hp, n, d, rfl, ⟨dp, hi⟩, h1, k⟩ := h
  have hr1 : Room 1 _ := hr.mono (by decide)
  refine ⟨_, pss_one (ps_ret (pe_join pe_str (pe_lc (own := [("number", 1)]) (g := gName 1) (tt := tYes) rfl scPressJournal.nd (pi_range1 rfl t.f_range (pa_cons (pe_fld (pv 0) rfl) pa_nil)) (blkOk_by (own := [("number", 1)]) (N := nsPressJournal) (sc := defScope sPressJournal) (by decide +kernel)) (fun _ _ _ _ _ => pg_name (i := 1) scPressJournal.nd rfl (Or.inl rfl)) (fun _ _ _ _ _ => pts_nil) (fun _ _ _ _ _ => (pe_ok (ok_note_of t) hr1 rfl (pa_cons (pv 1) pa_nil)))))), ?_⟩
  have le : (Str.ofString "").length = 0 := by decide +kernel
  have big : 1000 ≤ sizeLine := by decide
  have b62 : (100 : Int) < 2 ^ 62 := by decide
  refine ⟨⟨_, rfl⟩, _, rfl, p, _, dp, _, _, rfl, hi, t.c_Press, t.n_Press__noted, pk2 _ _ _ _, _, rfl, by omega, by omega, fun D hD => ?_⟩
  refine lc_range (lo := 0) (n := ((n : Int)).toNat) (fun i H' => H' D = some (.lst (((List.range i).map fun k : Nat => noteS (k : Int)).map V.str)) ∧ Same H H') ⟨upd_same, Same.new hD⟩ ?_ ?_
  · rintro i H' hi ⟨hd, s1⟩
    have i1 : i < n := by omega
    refine ⟨rfl, _, rfl, _, rfl, by omega, by omega, _, hd, by rw [List.length_map, List.length_map, List.length_range]; omega, ?_, fun c o e => by rw [upd_ne (ne_of_none e hD)]; exact s1 _ _ e⟩
    rw [upd_same, List.range_succ, List.map_append, List.map_append]
    show some (HO.lst (_ ++ [V.str (noteS (0 + (i : Int)))])) = some (HO.lst (_ ++ [V.str (noteS (i : Int))]))
    rw [Int.zero_add]
  · rintro H' ⟨hd, s1⟩
    rw [show ((n : Int)).toNat = n by omega] at hd
    refine ⟨_, D, _, rfl, rfl, .inl (SqL.of hd), ?_, k H' s1⟩
    rw [le]
    have hs : ∀ m, m ≤ 100 → (((List.range m).map fun k : Nat => noteS (k : Int)).map (·.length)).sum ≤ 16 * m := fun m => by
      induction m with
      | zero => intro _; exact Nat.le_refl _
      | succ m ih =>
        intro hm
        have := ih (by omega)
        have q := note_len (n := (m : Int)) (by omega) (by omega)
        rw [List.range_succ, List.map_append, List.map_append, List.sum_append]
        show _ + ((noteS (m : Int)).length + 0) ≤ _
        omega
    have := hs n h1
    omega
end
end Sx

set_option Elab.async false
set_option linter.all false
set_option maxRecDepth 100000
set_option maxHeartbeats 2000000
namespace Sx
open PySem PySem.Spec PyProof.Rows L2 SxA SxK
def InP (K : PySem.W.Frag) : Prop := ∀ H, SqT K H (He.ga K "IN_PRESS") (stageS.map V.str)
def spInsideP (K : PySem.W.Frag) : Sp := fun vs H Q _ => ∃ (p wl hp : Addr) (n d : Int), vs = [.ref p] ∧ PrAt K H p wl hp n d ∧ 0 ≤ d ∧ d ≤ 4 ∧ ∀ v H', Same H H' → InsT H' v n d → Q v H'
/-- one step of a press: the word, and what it becomes -/
inductive PStep (n d : Int) (ws us : List V) (c : Int) : Str → Int → Int → List V → Int → Prop where
  | over (h0 : d = 0) (h : n = (ws.length : Int)) : PStep n d ws us c "over" n d us c
  | note (h0 : d = 0) (h : n ≠ (ws.length : Int)) (h2 : c > n) : PStep n d ws us c "note" (n + 1) d us c
  | drop (hd : d = 4) (v : V) (hv : atI ws n = some v) : PStep n d ws us c "drop" n 0 (us ++ [v]) (c + 1)
  | word (z : Str) (h : ¬ (d = 0 ∧ n = (ws.length : Int))) (h2 : ¬ (d = 0 ∧ c > n)) (hd : d < 4) (hz : atI (stageS.map V.str) d = some (.str z)) : PStep n d ws us c z n (d + 1) us c
def spStep (K : PySem.W.Frag) : Sp := fun vs H Q _ => ∃ (p wl hp : Addr) (n d : Int) (ws us : List V) (l : Addr) (c : Int), vs = [.ref p] ∧ PrAt K H p wl hp n d ∧ H wl = some (.lst ws) ∧ HpAt K H hp l us c ∧ p ≠ hp ∧ us.length ≤ 1000 ∧ 0 ≤ d ∧ d ≤ 4 ∧ (d = 4 → ∃ v, atI ws n = some v) ∧
  ∀ z n' d' us' c' H', PStep n d ws us c z n' d' us' c' → PrAt K H' p wl hp n' d' → HpAt K H' hp l us' c' → (∀ b o, H b = some o → b ≠ p → b ≠ hp → b ≠ l → H' b = some o) → Q (.str z) H'
section
variable {P : Program} {w : World} {K : PySem.W.Frag} {mg : Str → Option Value} {base : Heap}
abbrev nsPressInside : List Str := ["self"]
theorem scPressInside : FnScope nsPressInside ["self"] (defScope sPressInside) := ⟨rfl, rfl, rfl, by decide +kernel, rfl, by decide +kernel, by decide +kernel⟩
theorem met_Press_inside (t : T K mg) (ip : InP K) : Met P w K mg base 1 "Press" "inside" ["self"] (spInsideP K) := by
  refine mkMet t.d_Press_inside scPressInside (fun vs H Q E h => ?_) (fun _ _ _ _ _ _ us hl => match us, hl with | [_], _ => rfl) fun cdv A outer s H vs Q E hr h => ?_
  · obtain ⟨p, wl, hp, n, d, rfl, _⟩ := h; rfl
  obtain ⟨p, wl, hp, n, d, rfl, ⟨dp, hi⟩, d0, d4, k⟩ := h
  refine ⟨_, pss_one (ps_ret (pe_ifExp (pt_cmpR op_gt (pe_fld (pv 0) rfl) pe_int (nomark _)) (pe_tup (pa_cons (pe_fld (pv 0) rfl) (pa_cons (pe_ix ix_tup (pe_glob (v := .ref (He.ga K "IN_PRESS")) rfl t.g_IN_PRESS rfl) (pe_op op_sub (pe_fld (pv 0) rfl) pe_int) (fun _ _ => rfl)) pa_nil))) pe_non)), ?_⟩
  refine ⟨_, rfl, p, _, dp, _, _, rfl, hi, t.c_Press, t.n_Press__done, pk3 _ _ _ _, _, _, rfl, rfl, _, rfl, ?_⟩
  refine ite2 (fun h1 => ?_) (fun h1 => k _ _ (fun _ _ z => z) (.inr ⟨fun q => h1 (decide_eq_true (show 0 < d by omega)), rfl⟩))
  have d1 : 0 < d := of_decide_eq_true h1
  obtain ⟨z, hz⟩ : ∃ z : Str, atI (stageS.map V.str) (d - 1) = some (.str z) := by
    have : d = 1 ∨ d = 2 ∨ d = 3 ∨ d = 4 := by omega
    rcases this with rfl | rfl | rfl | rfl
    · exact ⟨"feed", rfl⟩
    · exact ⟨"front", rfl⟩
    · exact ⟨"turn", rfl⟩
    · exact ⟨"back", rfl⟩
  refine ⟨_, rfl, p, _, dp, _, _, rfl, hi, t.c_Press, t.n_Press__noted, pk2 _ _ _ _, _, rfl, p, _, dp, _, _, rfl, hi, t.c_Press, t.n_Press__done, pk3 _ _ _ _, _, _, rfl, rfl, _, _, _, .str z, rfl, rfl, ip _, hz, (by show 2 ≤ sizeLine; decide), fun T hT => ?_⟩
  exact k _ _ (Same.new hT) (.inl ⟨by omega, d4, T, z, rfl, upd_same, hz⟩)
end
end Sx

set_option Elab.async false
set_option linter.all false
set_option maxRecDepth 100000
set_option maxHeartbeats 2000000
namespace Sx
open PySem PySem.Spec PyProof.Rows L2 SxA SxK
theorem HpAt.off {K : PySem.W.Frag} {H : Hp} {h l p dp C : Addr} {us : List V} {c : Int} {fs fs' : List (Str × V)} (S : HpAt K H h l us c) (hp : H p = some (.ins C dp fs)) (n : p ≠ h) : HpAt K (upd H p (.ins C dp fs')) h l us c := by
  obtain ⟨⟨dh, h1⟩, h2⟩ := S
  exact ⟨⟨dh, by rw [upd_ne n.symm]; exact h1⟩, by rw [upd_ne (ne_of h2 hp (by intro z; cases z))]; exact h2⟩
theorem words {d : Int} (h0 : 0 ≤ d) (h4 : d < 4) : ∃ z : Str, atI (stageS.map V.str) d = some (.str z) := by
  have : d = 0 ∨ d = 1 ∨ d = 2 ∨ d = 3 := by omega
  rcases this with rfl | rfl | rfl | rfl
  · exact ⟨"feed", rfl⟩
  · exact ⟨"front", rfl⟩
  · exact ⟨"turn", rfl⟩
  · exact ⟨"back", rfl⟩
section
variable {P : Program} {w : World} {K : PySem.W.Frag} {mg : Str → Option Value} {base : Heap}
abbrev nsPressStep : List Str := ["self"]
theorem scPressStep : FnScope nsPressStep ["self"] (defScope sPressStep) := ⟨rfl, rfl, rfl, by decide +kernel, rfl, by decide +kernel, by decide +kernel⟩
theorem met_Press_step (t : T K mg) (ip : InP K) : Met P w K mg base 2 "Press" "step" ["self"] (spStep K) := by
  refine mkMet t.d_Press_step scPressStep (fun vs H Q E h => ?_) (fun _ _ _ _ _ _ us hl => match us, hl with | [_], _ => rfl) fun cdv A outer s H vs Q E hr h => ?_
  · obtain ⟨p, wl, hp, n, d, ws, us, l, c, rfl, _⟩ := h; rfl
  obtain ⟨p, wl, hp, n, d, ws, us, l, c, rfl, ⟨dp, hi⟩, hw, hh, nph, hul, d0, d4, hv, k⟩ := h
  have hr1 : Room 1 _ := hr.mono (by decide)
  refine ⟨_, pss_cons (ps_if (PW.pt (pw_and (pt_cmpR op_eq (pe_fld (pv 0) rfl) pe_int (nomark _)) (pw_and1 (pt_cmpR op_eq (pe_fld (pv 0) rfl) (pe_callB call_len_seq rfl t.f_len boot_len (pa_cons (pe_fld (pv 0) rfl) pa_nil)) (nomark _)))))
      (pss_one (ps_ret pe_str))
      pss_nil)
    (pss_cons (ps_if (PW.pt (pw_and (pt_cmpR op_eq (pe_fld (pv 0) rfl) pe_int (nomark _)) (pw_and1 (pt_cmpR op_gt (pe_met0 (met_Heap_dropped t) t.c_Heap t.k_Heap_dropped hr1 (pe_fld (pv 0) rfl)) (pe_fld (pv 0) rfl) (nomark _)))))
      (pss_cons (ps_fldaug (pv 0) pe_int in_add)
    (pss_one (ps_ret pe_str)))
      pss_nil)
    (pss_cons (ps_if (pt_cmpR op_eq (pe_fld (pv 0) rfl) (pe_callB call_len_seq rfl t.f_len boot_len (pa_cons (pe_glob (v := .ref (He.ga K "IN_PRESS")) rfl t.g_IN_PRESS rfl) pa_nil)) (nomark _))
      (pss_cons (ps_expr (pe_met (met_Heap_drop t) t.c_Heap t.k_Heap_drop hr1 (pe_fld (pv 0) rfl) (pa_cons (pe_ix ix_list (pe_fld (pv 0) rfl) (pe_fld (pv 0) rfl) (fun _ _ => rfl)) pa_nil)))
    (pss_cons (ps_fld (pv 0) pe_int rfl)
    (pss_one (ps_ret pe_str))))
      pss_nil)
    (pss_cons (ps_fldaug (pv 0) pe_int in_add)
    (pss_one (ps_ret (pe_ix ix_tup (pe_glob (v := .ref (He.ga K "IN_PRESS")) rfl t.g_IN_PRESS rfl) (pe_op op_sub (pe_fld (pv 0) rfl) pe_int) (fun _ _ => rfl))))))), ?_⟩
  have ieq : ∀ (x y : Int), decide (V.int x = V.int y) = decide (x = y) := fun x y => decide_eq_decide.mpr ⟨fun e => V.int.inj e, fun e => by rw [e]⟩
  obtain ⟨dh, hdh⟩ := hh.ins
  have ieq : ∀ (x y : Int), decide (V.int x = V.int y) = decide (x = y) := fun x y => decide_eq_decide.mpr ⟨fun e => V.int.inj e, fun e => by rw [e]⟩
  refine ⟨_, rfl, p, _, dp, _, _, rfl, hi, t.c_Press, t.n_Press__done, pk3 _ _ _ _, rfl, _, rfl, ?_⟩
  rw [ieq]
  by_cases z0 : d = 0
  · rw [decide_eq_true z0]
    refine iteT ⟨_, rfl, p, _, dp, _, _, rfl, hi, t.c_Press, t.n_Press__noted, pk2 _ _ _ _, _, rfl, p, _, dp, _, _, rfl, hi, t.c_Press, t.n_Press__wanted, pk0 _ _ _ _, wl, ws, rfl, .inl (SqL.of hw), rfl, _, rfl, ?_⟩
    rw [ieq]
    by_cases z1 : n = (ws.length : Int)
    · rw [decide_eq_true z1]
      exact iteT (k "over" n d us c H (.over z0 z1) ⟨dp, hi⟩ hh fun b o e _ _ _ => e)
    rw [decide_eq_false z1]
    refine iteF ⟨_, rfl, p, _, dp, _, _, rfl, hi, t.c_Press, t.n_Press__done, pk3 _ _ _ _, rfl, _, rfl, ?_⟩
    rw [ieq, decide_eq_true z0]
    refine iteT ⟨_, rfl, p, _, dp, _, _, rfl, hi, t.c_Press, t.n_Press__heap, pk1 _ _ _ _, hp, dh, hpF l c, rfl, hdh, rfl, hp, l, us, c, rfl, hh, _, rfl, p, _, dp, _, _, rfl, hi, t.c_Press, t.n_Press__noted, pk2 _ _ _ _, _, _, rfl, rfl, _, rfl, ?_⟩
    refine ite2 (fun g1 => ?_) (fun g1 => ?_)
    · have g1 : c > n := of_decide_eq_true g1
      refine ⟨_, rfl, p, _, dp, _, _, rfl, hi, t.c_Press, t.n_Press__noted, pk2 _ _ _ _, _, _, rfl, rfl, dp, prF wl hp n d, hi, (by show 4 < 1000; decide), ?_⟩
      rw [pp2]
      exact k "note" (n + 1) d us c _ (.note z0 z1 g1) ⟨dp, upd_same⟩ (hh.off hi nph) fun b o e n1 _ _ => by rw [upd_ne n1]; exact e
    have g1 : ¬ c > n := fun e => g1 (decide_eq_true e)
    have hd4 : d < 4 := by omega
    refine ⟨_, rfl, p, _, dp, _, _, rfl, hi, t.c_Press, t.n_Press__done, pk3 _ _ _ _, _, _, rfl, .inr (ip _), rfl, _, rfl, ?_⟩
    rw [ieq, decide_eq_false (show ¬ d = (((stageS.map V.str).length : Nat) : Int) by show ¬ d = 4; omega)]
    refine iteF ⟨_, rfl, p, _, dp, _, _, rfl, hi, t.c_Press, t.n_Press__done, pk3 _ _ _ _, _, _, rfl, rfl, dp, prF wl hp n d, hi, (by show 4 < 1000; decide), ?_⟩
    rw [pp3]
    have hi2 := upd_same (H := H) (a := p) (o := .ins (He.ga K "Press") dp (prF wl hp n (d + 1)))
    obtain ⟨z, hz⟩ := words (by omega) hd4
    have e1 : d + 1 - 1 = d := by omega
    refine ⟨_, rfl, p, _, dp, _, _, rfl, hi2, t.c_Press, t.n_Press__done, pk3 _ _ _ _, _, _, rfl, rfl, _, _, _, .str z, rfl, rfl, ip _, by rw [e1]; exact hz, ?_⟩
    exact k z n (d + 1) us c _ (.word z (by omega) (by omega) hd4 hz) ⟨dp, hi2⟩ (hh.off hi nph) fun b o e n1 _ _ => by rw [upd_ne n1]; exact e
  · rw [decide_eq_false z0]
    refine iteF ⟨_, rfl, p, _, dp, _, _, rfl, hi, t.c_Press, t.n_Press__done, pk3 _ _ _ _, rfl, _, rfl, ?_⟩
    rw [ieq, decide_eq_false z0]
    refine iteF ?_
    by_cases hd4 : d < 4
    · refine ⟨_, rfl, p, _, dp, _, _, rfl, hi, t.c_Press, t.n_Press__done, pk3 _ _ _ _, _, _, rfl, .inr (ip _), rfl, _, rfl, ?_⟩
      rw [ieq, decide_eq_false (show ¬ d = (((stageS.map V.str).length : Nat) : Int) by show ¬ d = 4; omega)]
      refine iteF ⟨_, rfl, p, _, dp, _, _, rfl, hi, t.c_Press, t.n_Press__done, pk3 _ _ _ _, _, _, rfl, rfl, dp, prF wl hp n d, hi, (by show 4 < 1000; decide), ?_⟩
      rw [pp3]
      have hi2 := upd_same (H := H) (a := p) (o := .ins (He.ga K "Press") dp (prF wl hp n (d + 1)))
      obtain ⟨z, hz⟩ := words (by omega) hd4
      have e1 : d + 1 - 1 = d := by omega
      refine ⟨_, rfl, p, _, dp, _, _, rfl, hi2, t.c_Press, t.n_Press__done, pk3 _ _ _ _, _, _, rfl, rfl, _, _, _, .str z, rfl, rfl, ip _, by rw [e1]; exact hz, ?_⟩
      exact k z n (d + 1) us c _ (.word z (by omega) (by omega) hd4 hz) ⟨dp, hi2⟩ (hh.off hi nph) fun b o e n1 _ _ => by rw [upd_ne n1]; exact e
    have e4 : d = 4 := by omega
    obtain ⟨v, hv⟩ := hv e4
    refine ⟨_, rfl, p, _, dp, _, _, rfl, hi, t.c_Press, t.n_Press__done, pk3 _ _ _ _, _, _, rfl, .inr (ip _), rfl, _, rfl, ?_⟩
    rw [ieq, decide_eq_true (show d = (((stageS.map V.str).length : Nat) : Int) by show d = 4; omega)]
    refine iteT ⟨_, rfl, p, _, dp, _, _, rfl, hi, t.c_Press, t.n_Press__heap, pk1 _ _ _ _, hp, dh, hpF l c, rfl, hdh, rfl, _, rfl, p, _, dp, _, _, rfl, hi, t.c_Press, t.n_Press__wanted, pk0 _ _ _ _, _, rfl, p, _, dp, _, _, rfl, hi, t.c_Press, t.n_Press__noted, pk2 _ _ _ _, wl, _, _, v, rfl, rfl, SqL.of hw, hv, hp, l, us, c, v, rfl, hh, hul, fun H1 hh1 fr => ?_⟩
    have hi1 := fr _ _ hi nph (ne_of hi hh.lst (by intro z; cases z))
    refine ⟨_, rfl, p, _, dp, _, rfl, hi1, t.c_Press, t.n_Press__done, (by show 4 < 1000; decide), ?_⟩
    rw [pp3]
    exact k "drop" n 0 (us ++ [v]) (c + 1) _ (.drop e4 v hv) ⟨dp, upd_same⟩ (hh1.off hi1 nph) fun b o e n1 n2 n3 => by rw [upd_ne n1]; exact fr _ _ e n2 n3
end
end Sx

set_option Elab.async false
set_option linter.all false
namespace Sx
open PySem PyProof.Rows
def lastG (P : Nat → Bool) (n : Nat) : Option Nat := (List.range n).foldl (fun l i => if P i = true then some i else l) none
theorem lastG_off {P : Nat → Bool} {a : Nat} : ∀ b, (∀ i, a ≤ i → i < a + b → P i = false) → lastG P (a + b) = lastG P a
  | 0, _ => rfl
  | b + 1, h => by
    have ih := lastG_off b fun i h1 h2 => h i h1 (by omega)
    unfold lastG at ih ⊢
    rw [show a + (b + 1) = (a + b) + 1 by omega, List.range_succ, List.foldl_append, ih, List.foldl_cons, List.foldl_nil, h (a + b) (by omega) (by omega)]
    rfl
theorem lastG_hit {P : Nat → Bool} {a : Nat} (h : P a = true) : lastG P (a + 1) = some a := by
  unfold lastG
  rw [List.range_succ, List.foldl_append, List.foldl_cons, List.foldl_nil, if_pos h]
theorem last_go (C : Nat → Prop) [DecidablePred C] : ∀ (l : List Nat) (o : Option Nat),
    (forIn (m := Id) l o fun i s => if C i then pure (ForInStep.yield (some i)) else pure (ForInStep.yield s)).run = l.foldl (fun l i => if C i then some i else l) o
  | [], o => rfl
  | a :: l, o => by
    rw [List.forIn_cons, List.foldl_cons]
    by_cases h : C a
    · rw [if_pos h, if_pos h]
      exact last_go C l _
    · rw [if_neg h, if_neg h]
      exact last_go C l _
theorem lastO_eq (s sub : Str) (hi : Nat) : Builtin.Str.lastOccurrence s sub 0 hi = lastG (fun i => decide (i + sub.length ≤ hi) && Builtin.Str.subAt s sub i) (hi + 1) := by
  unfold Builtin.Str.lastOccurrence lastG
  simp [List.range_eq_range']
  exact last_go (fun i => i + sub.length ≤ hi ∧ Builtin.Str.subAt s sub i = true) _ _
abbrev nlS : Str := Str.ofString "\n"
theorem sub_nl (z : Str) (i : Nat) : Builtin.Str.subAt z nlS i = true ↔ (z.cps.toList)[i]? = some 10 := by
  rw [StrLaws.subAt_eq]
  show ((((z.cps.toList).drop i).take 1 == [10]) = true) ↔ _
  rw [beq_iff_eq]
  constructor
  · intro h
    have e : (((z.cps.toList).drop i).take 1)[0]? = some 10 := by rw [h]; rfl
    rw [List.getElem?_take, List.getElem?_drop] at e
    simpa using e
  · intro h
    obtain ⟨hi, e⟩ := List.getElem?_eq_some_iff.mp h
    rw [List.drop_eq_getElem_cons hi, e]
    rfl
theorem rfind_nl {z : Str} {xs r : List Nat} (h : z.cps.toList = xs ++ r) (hr : 10 ∉ r) (hx : xs = [] ∨ ∃ ys, xs = ys ++ [10]) : Txt.rfind z nlS + 1 = (xs.length : Int) := by
  have zl : z.length = xs.length + r.length := by
    show z.cps.size = _
    rw [← Array.length_toList, h, List.length_append]
  have n1 : nlS.length = 1 := by decide +kernel
  have off : ∀ i, xs.length ≤ i → (decide (i + nlS.length ≤ z.length) && Builtin.Str.subAt z nlS i) = false := fun i hi => by
    cases q : (decide (i + nlS.length ≤ z.length) && Builtin.Str.subAt z nlS i) with
    | false => rfl
    | true =>
      rw [Bool.and_eq_true] at q
      have q2 := (sub_nl z i).mp q.2
      rw [h, List.getElem?_append_right hi] at q2
      exact absurd (List.mem_of_getElem? q2) hr
  unfold Txt.rfind
  rw [lastO_eq]
  rw [show z.length + 1 = xs.length + (r.length + 1) by omega, lastG_off _ fun i h1 _ => off i h1]
  rcases hx with rfl | ⟨ys, rfl⟩
  · rfl
  · rw [List.length_append, List.length_cons, List.length_nil]
    rw [lastG_hit]
    · show ((ys.length : Nat) : Int) + 1 = _
      omega
    · rw [Bool.and_eq_true]
      refine ⟨decide_eq_true ?_, (sub_nl z _).mpr ?_⟩
      · rw [n1, zl, List.length_append, List.length_cons, List.length_nil]
        omega
      · rw [h, List.append_assoc, List.getElem?_append_right (Nat.le_refl _), Nat.sub_self]
        rfl
theorem spl_count : ∀ (l acc : List Nat), (TL.spl [10] 0 acc l).length = l.count 10 + 1
  | [], acc => rfl
  | c :: r, acc => by
    by_cases h : c = 10
    · subst h
      rw [TL.spl_hit (by rfl)]
      show (TL.spl [10] 0 [] r).length + 1 = _
      rw [spl_count r, List.count_cons_self]
    · have : TL.pre [10] (c :: r) = false := by
        show ([c] == [10]) = false
        rw [beq_eq_false_iff_ne]
        intro e
        exact h (List.cons.inj e).1
      rw [TL.spl_miss this, spl_count r, List.count_cons_of_ne h]
theorem split_count (z : Str) : (Txt.split z nlS).length = z.cps.toList.count 10 + 1 := by
  have e := TL.split_spl z nlS (by decide +kernel) (TL.kind_ok (by decide +kernel))
  have e1 : TL.tl nlS = [10] := by decide +kernel
  rw [e1] at e
  rw [← spl_count z.cps.toList [], ← List.length_map (f := TL.tl), e]
end Sx

set_option Elab.async false
set_option linter.all false
set_option maxRecDepth 100000
set_option maxHeartbeats 2000000
namespace Sx
open PySem PySem.Spec PyProof.Rows L2 SxA SxK
theorem sl_inj : ∀ {a b : Str}, sl a = sl b → a = b
  | ⟨⟨a⟩⟩, ⟨⟨b⟩⟩, h => by
    have : a = b := h
    rw [this]
def spNoted : Sp := fun vs H Q _ => ∃ (t : Str) (x r : List Nat) (m : Nat), vs = [.str t] ∧ sl t = x ++ r ∧ 10 ∉ r ∧ (x = [] ∨ ∃ y, x = y ++ [10]) ∧ x.count 10 = m ∧ m ≤ 100 ∧ t.length ≤ 5000 ∧ ∀ H', Same H H' → Q (if x = sl (notesS m) then .int (m : Int) else .non) H'
section
variable {P : Program} {w : World} {K : PySem.W.Frag} {mg : Str → Option Value} {base : Heap}
abbrev nsNotedIn : List Str := ["journal", "lines", "number"]
theorem scNotedIn : FnScope nsNotedIn ["journal"] (defScope sNotedIn) := ⟨rfl, rfl, rfl, by decide +kernel, rfl, by decide +kernel, by decide +kernel⟩
theorem ok_noted_in (t : T K mg) : Ok P w K mg base 2 "noted_in" ["journal"] spNoted := by
  refine mkOk t.d_noted_in t.g_noted_in scNotedIn (fun vs H Q E h => ?_) (fun _ _ _ _ _ _ us hl => match us, hl with | [_], _ => rfl) fun cdv A outer s H vs Q E hr h => ?_
  · obtain ⟨z, x, r, m, rfl, _⟩ := h; rfl
  obtain ⟨z, x, r, m, rfl, hz, hr10, hx, hm, hm1, hzl, k⟩ := h
  have hr1 : Room 1 _ := hr.mono (by decide)
  refine ⟨_, pss_cons (ps_set (i := 1) scNotedIn.nd rfl (Or.inl rfl) (pe_slice sl_list (pe_bm PySem.F.plainAttrs_str PySem.F.slot_str_split PySem.F.type_str_split mt_split (pv 0) (pa_cons pe_str pa_nil)) po_none (po_some (pe_un un_neg pe_int))))
    (pss_cons (ps_if (pt_cmpR op_ne (pe_slice sl_str (pv 0) po_none (po_some (pe_op op_add (pe_bm PySem.F.plainAttrs_str PySem.F.slot_str_rfind PySem.F.type_str_rfind mt_rfind (pv 0) (pa_cons pe_str pa_nil)) pe_int))) (pe_join pe_str (pe_lc (own := [("number", 2)]) (g := gName 2) (tt := tYes) rfl scNotedIn.nd (pi_range1 rfl t.f_range (pa_cons (pe_callB call_len_seq rfl t.f_len boot_len (pa_cons (pv 1) pa_nil)) pa_nil)) (blkOk_by (own := [("number", 2)]) (N := nsNotedIn) (sc := defScope sNotedIn) (by decide +kernel)) (fun _ _ _ _ _ => pg_name (i := 2) scNotedIn.nd rfl (Or.inl rfl)) (fun _ _ _ _ _ => pts_nil) (fun _ _ _ _ _ => (pe_ok (ok_note_of t) hr1 rfl (pa_cons (pv 2) pa_nil))))) (nomark _))
      (pss_one (ps_ret pe_non))
      pss_nil)
    (pss_one (ps_ret (pe_callB call_len_seq rfl t.f_len boot_len (pa_cons (pv 1) pa_nil))))), ?_⟩
  have nl1 : (nlS.length == 0) = false := by decide +kernel
  have big : 10000 ≤ sizeLine := by decide
  refine ⟨_, rfl, rfl, z, nlS, rfl, rfl, nl1, by omega, fun p hp => ⟨_, rfl, _, rfl, p, _, rfl, SqL.of upd_same, fun q hq => ?_⟩⟩
  have s1 : Same H (upd H p (.lst ((Txt.split z nlS).map V.str))) := Same.new hp
  have e0 : cutV ((Txt.split z nlS).map V.str) none (some (-1)) = ((Txt.split z nlS).dropLast).map V.str := by
    have l1 := split_count z
    unfold cutV
    rw [HT.sIx_none, List.drop_zero, Nat.sub_zero, List.length_map]
    have : HT.sIx (Txt.split z nlS).length (Txt.split z nlS).length (some (-1)) = (Txt.split z nlS).length - 1 := by
      rw [l1]
      show ((-1 : Int) + (((z.cps.toList).count 10 + 1 : Nat) : Int)).toNat = (z.cps.toList).count 10 + 1 - 1
      generalize (z.cps.toList).count 10 = n
      omega
    rw [this, ← List.map_take, List.dropLast_eq_take]
  rw [e0]
  have s2 := s1.trans (Same.new (o := .lst (((Txt.split z nlS).dropLast).map V.str)) hq)
  have hq2 := upd_same (H := upd H p (.lst ((Txt.split z nlS).map V.str))) (a := q) (o := .lst (((Txt.split z nlS).dropLast).map V.str))
  generalize upd (upd H p (.lst ((Txt.split z nlS).map V.str))) q (.lst (((Txt.split z nlS).dropLast).map V.str)) = H2 at s2 hq2 ⊢
  have ll : (((Txt.split z nlS).dropLast).map V.str).length = m := by
    rw [List.length_map, List.length_dropLast, split_count, show z.cps.toList = x ++ r from hz, List.count_append, List.count_eq_zero.mpr hr10, hm]
    rfl
  refine ⟨_, rfl, _, rfl, rfl, z, nlS, rfl, rfl, _, _, rfl, rfl, _, rfl, z, rfl, by omega, ?_⟩
  rw [rfind_nl hz hr10 hx]
  have b62 : (100 : Int) < 2 ^ 62 := by decide
  have le : (Str.ofString "").length = 0 := by decide +kernel
  refine ⟨⟨_, rfl⟩, _, rfl, q, _, rfl, .inl (SqL.of hq2), _, rfl, by omega, by omega, fun D hD => ?_⟩
  rw [ll]
  refine lc_range (lo := 0) (n := ((m : Int)).toNat) (fun i H' => H' D = some (.lst (((List.range i).map fun k : Nat => noteS (k : Int)).map V.str)) ∧ Same H2 H') ⟨upd_same, Same.new hD⟩ ?_ ?_
  · rintro i H' hi ⟨hd, s3⟩
    have i1 : i < m := by omega
    refine ⟨rfl, _, rfl, _, rfl, by omega, by omega, _, hd, by rw [List.length_map, List.length_map, List.length_range]; omega, ?_, fun c o e => by rw [upd_ne (ne_of_none e hD)]; exact s3 _ _ e⟩
    rw [upd_same, List.range_succ, List.map_append, List.map_append]
    show some (HO.lst (_ ++ [V.str (noteS (0 + (i : Int)))])) = some (HO.lst (_ ++ [V.str (noteS (i : Int))]))
    rw [Int.zero_add]
  rintro H3 ⟨hd, s3⟩
  rw [show ((m : Int)).toNat = m by omega] at hd
  refine ⟨_, D, _, rfl, rfl, .inl (SqL.of hd), ?_, ?_⟩
  · rw [le]
    have hs : ∀ m, m ≤ 100 → (((List.range m).map fun k : Nat => noteS (k : Int)).map (·.length)).sum ≤ 16 * m := fun m => by
      induction m with
      | zero => intro _; exact Nat.le_refl _
      | succ m ih =>
        intro hm
        have := ih (by omega)
        have q := note_len (n := (m : Int)) (by omega) (by omega)
        rw [List.range_succ, List.map_append, List.map_append, List.sum_append]
        show _ + ((noteS (m : Int)).length + 0) ≤ _
        omega
    have := hs m hm1
    omega
  have cut : sl (cutS z none (some (x.length : Int))) = x := by
    unfold cutS
    rw [HT.sIx_none, HT.sIx_nat, List.drop_zero, Nat.sub_zero]
    have zl : z.length = x.length + r.length := by rw [sl_len z, hz, List.length_append]
    rw [Nat.min_eq_left (by omega)]
    show (sl z).take x.length = x
    rw [hz, List.take_left']
    rfl
  have eqv : decide (V.str (cutS z none (some (x.length : Int))) = V.str (notesS m)) = decide (x = sl (notesS m)) := by
    refine decide_eq_decide.mpr ⟨fun e => ?_, fun e => ?_⟩
    · rw [← V.str.inj e, cut]
    · have : cutS z none (some (x.length : Int)) = notesS m := by
        apply sl_inj
        rw [cut, e]
      rw [this]
  refine ⟨rfl, _, rfl, ?_⟩
  show ite ((!decide (V.str (cutS z none (some (x.length : Int))) = V.str (notesS m))) = true) _ _
  rw [eqv]
  have k := k H3 (s2.trans s3)
  by_cases hc : x = sl (notesS m)
  · rw [if_pos hc] at k
    rw [decide_eq_true hc]
    refine iteF ⟨_, rfl, q, _, rfl, .inl (SqL.of (s3 _ _ hq2)), ?_⟩
    rw [ll]
    exact k
  · rw [if_neg hc] at k
    rw [decide_eq_false hc]
    exact iteT k
end
end Sx

set_option Elab.async false
set_option linter.all false
set_option maxRecDepth 100000
set_option maxHeartbeats 2000000
namespace Sx
open PySem PySem.Spec PyProof.Rows L2 SxA SxK
/-- a journal that says m -/
def JnAt (t : Str) (m : Nat) (good : Bool) : Prop := ∃ x r : List Nat, sl t = x ++ r ∧ 10 ∉ r ∧ (x = [] ∨ ∃ y, x = y ++ [10]) ∧ x.count 10 = m ∧ m ≤ 100 ∧ t.length ≤ 5000 ∧ good = decide (x = sl (notesS m))
def spPress (K : PySem.W.Frag) : Sp := fun vs H Q E => ∃ (p dp a hp l : Addr) (ws us : List V) (c : Int) (t : Str) (m : Nat) (good : Bool), vs = [.ref p, .ref a, .ref hp, .str t] ∧ H p = some (.ins (He.ga K "Press") dp []) ∧ H a = some (.lst ws) ∧ HpAt K H hp l us c ∧ JnAt t m good ∧
  ((good && (decide ((m : Int) ≤ c) && decide (m ≤ ws.length))) = true → ∀ H' wl, H wl = none → PrAt K H' p wl hp (m : Int) 0 → H' wl = some (.lst ws) → But p H H' → Q .non H') ∧
  ((good && (decide ((m : Int) ≤ c) && decide (m ≤ ws.length))) = false → ∀ H', Same H H' → E (.ref (He.ga K "InvalidJournal")) none H')
theorem prF_put (wl hp : Addr) (n d : Int) : putF "_done" (.int d) (putF "_noted" (.int n) (putF "_heap" (.ref hp) (putF "_wanted" (.ref wl) []))) = prF wl hp n d := by
  rw [put_new "_wanted" _ [] (by simp)]
  rw [put_new "_heap" _ _ (by simp only [List.nil_append, List.cons_append, List.mem_cons, List.not_mem_nil, or_false, forall_eq_or_imp, forall_eq]; decide +kernel)]
  rw [put_new "_noted" _ _ (by simp only [List.nil_append, List.cons_append, List.mem_cons, List.not_mem_nil, or_false, forall_eq_or_imp, forall_eq]; decide +kernel)]
  rw [put_new "_done" _ _ (by simp only [List.nil_append, List.cons_append, List.mem_cons, List.not_mem_nil, or_false, forall_eq_or_imp, forall_eq]; decide +kernel)]
  rfl
section
variable {P : Program} {w : World} {K : PySem.W.Frag} {mg : Str → Option Value} {base : Heap}
abbrev psPress : List Str := ["self", "sheets", "heap", "journal"]
abbrev nsPressInit : List Str := ["self", "sheets", "heap", "journal", "noted"]
theorem scPressInit : FnScope nsPressInit psPress (defScope sPressInit) := ⟨rfl, rfl, rfl, by decide +kernel, rfl, by decide +kernel, by decide +kernel⟩
def OkPress (P : Program) (w : World) (K : PySem.W.Frag) (mg : Str → Option Value) (base : Heap) : Prop :=
  ∃ fd, FnOk P w K mg base (L2.CX P w) 3 (He.ma K (He.ga K "Press") "__init__") fd psPress (spPress K) ∧ (∃ ds, Vals [V.str (Str.ofString "")] ds ∧ Binds K fd psPress ds) ∧ KBn K fd psPress 3 ["journal"] (fun us ws => us ++ ws) (fun vs zs => vs ++ zs)
theorem ok_press (t : T K mg) (px : PexC K mg "InvalidJournal") : OkPress P w K mg base := by
  obtain ⟨fd, F⟩ := t.d_Press_init
  refine ⟨fd, F.ok scPressInit (fun vs H Q E h => ?_) (fun cdv A outer s H vs Q E hr h => ?_), ?_, ?_⟩
  · obtain ⟨p, dp, a, hp, l, ws, us, c, z, m, good, rfl, _⟩ := h; rfl
  · obtain ⟨p, dp, a, hp, l, ws, us, c, z, m, good, rfl, hP, ha, hh, ⟨x, r, hz, hr10, hx, hm, hm1, hzl, hg⟩, kt, kf⟩ := h
    have hr1 : Room 1 _ := hr.mono (by decide)
    have hr2 : Room 2 _ := hr.mono (by decide)
    refine ⟨_, pss_cons (ps_set (i := 4) scPressInit.nd rfl (Or.inl rfl) (pe_ok (ok_noted_in t) hr2 rfl (pa_cons (pv 3) pa_nil)))
    (pss_cons (ps_if (PW.pt (pw_or (pt_cmpR op_isN (pv 4) pe_non (nomark _)) (pw_or (pt_cmpR op_gt (pv 4) (pe_met0 (met_Heap_dropped t) t.c_Heap t.k_Heap_dropped hr1 (pv 2)) (nomark _)) (pw_or1 (pt_cmpR op_gt (pv 4) (pe_callB call_len_seq rfl t.f_len boot_len (pa_cons (pv 1) pa_nil)) (nomark _))))))
      (pss_one (ps_raise rfl (takes_of rfl rfl rfl rfl) (pmk_own0 px rfl)))
      pss_nil)
    (pss_cons (ps_fld (pv 0) (pe_callTy call_list_of rfl t.f_list (by decide +kernel) (pa_cons (pv 1) pa_nil)) rfl)
    (pss_cons (ps_fld (pv 0) (pv 2) rfl)
    (pss_cons (ps_fld (pv 0) (pv 4) rfl)
    (pss_one (ps_fld (pv 0) pe_int rfl)))))), ?_⟩
    obtain ⟨dh, hdh⟩ := hh.ins
    refine ⟨_, rfl, z, x, r, m, rfl, hz, hr10, hx, hm, hm1, hzl, fun H1 s1 => ?_⟩
    have hh1 := hh.same s1
    have hdh1 := s1 _ _ hdh
    have ha1 := s1 _ _ ha
    have hP1 := s1 _ _ hP
    by_cases hc : x = sl (notesS m)
    · rw [decide_eq_true hc] at hg
      subst hg
      rw [if_pos hc]
      refine ⟨_, rfl, rfl, _, rfl, iteF ?_⟩
      refine ⟨_, rfl, _, rfl, hp, dh, hpF l c, rfl, hdh1, rfl, hp, l, us, c, rfl, hh1, _, _, rfl, rfl, _, rfl, ?_⟩
      refine ite2 (fun h1 => ?_) (fun h1 => ?_)
      · have : ¬ ((m : Int) ≤ c) := by have : (m : Int) > c := of_decide_eq_true h1
                                       omega
        exact iteT (kf (by rw [decide_eq_false this]; rfl) _ s1)
      have h1' : (m : Int) ≤ c := by have : ¬ (m : Int) > c := fun e => h1 (decide_eq_true e)
                                     omega
      refine ⟨_, rfl, _, rfl, a, _, rfl, .inl (SqL.of ha1), _, _, rfl, rfl, _, rfl, ?_⟩
      refine ite2 (fun h2 => ?_) (fun h2 => ?_)
      · have : ¬ (m ≤ ws.length) := by have : (m : Int) > (ws.length : Int) := of_decide_eq_true h2
                                       omega
        exact kf (by rw [decide_eq_false this, Bool.and_false]; rfl) _ s1
      have h2' : m ≤ ws.length := by have : ¬ (m : Int) > (ws.length : Int) := fun e => h2 (decide_eq_true e)
                                     omega
      have kt := kt (by rw [decide_eq_true h1', decide_eq_true h2']; rfl)
      refine ⟨_, rfl, a, _, rfl, .inl (SqL.of ha1), fun wl hwl => ?_⟩
      have s2 := s1.trans (Same.new (o := .lst ws) hwl)
      have hP2 := (Same.new (o := .lst ws) hwl) _ _ hP1
      have hw2 := upd_same (H := H1) (a := wl) (o := .lst ws)
      have nwp : wl ≠ p := (ne_of_none hP1 hwl).symm
      have nwH : H wl = none := Sx.Same.none s1 _ hwl
      generalize upd H1 wl (.lst ws) = H2 at s2 hP2 hw2 ⊢
      have l0 : ([] : List (Str × V)).length ≤ 0 := Nat.le_refl _
      refine ⟨_, rfl, p, _, dp, _, rfl, hP2, t.c_Press, t.n_Press__wanted, by decide, ?_⟩
      refine ⟨_, rfl, _, rfl, p, _, dp, _, rfl, upd_same, t.c_Press, t.n_Press__heap, (Nat.lt_of_le_of_lt (len_put_lt l0) (by decide)), ?_⟩
      rw [upd_upd]
      refine ⟨_, rfl, _, rfl, p, _, dp, _, rfl, upd_same, t.c_Press, t.n_Press__noted, (Nat.lt_of_le_of_lt (len_put_lt (len_put_lt l0)) (by decide)), ?_⟩
      rw [upd_upd]
      refine ⟨_, rfl, p, _, dp, _, rfl, upd_same, t.c_Press, t.n_Press__done, (Nat.lt_of_le_of_lt (len_put_lt (len_put_lt (len_put_lt l0))) (by decide)), ?_⟩
      rw [upd_upd, prF_put]
      exact kt _ wl nwH ⟨dp, upd_same⟩ (by rw [upd_ne nwp]; exact hw2) fun b o e n => by rw [upd_ne n]; exact s2 _ _ e
    · rw [decide_eq_false hc] at hg
      subst hg
      rw [if_neg hc]
      exact ⟨_, rfl, rfl, _, rfl, iteT (kf rfl _ s1)⟩
  · exact F.binds0 3 (by show ¬ [_] = []; simp) rfl fun D doc pm an cdv ct us ks h1 h2 => match us, h1, ks, h2 with
      | [_, _, _], _, [_], _ => ⟨_, _, _, _, _, _, rfl, rfl, rfl⟩
  · obtain ⟨mv, hk⟩ := F.kbinds0 (ps := psPress) 3 ["journal"] [] (fun us mv ws => us ++ ws) (by show ¬ [_] = []; simp) (fun q hq => by cases hq) (fun r1 r2 r3 => r1.append r3) fun D doc pm an cdv ct us mv ws h1 h2 h3 => match us, h1, mv, h2, ws, h3 with
      | [_, _, _], _, [], _, [_], _ => by
        show bindArgs _ _ = pure _
        rfl
    exact hk
end
end Sx

set_option linter.all false
namespace Sx
/-! ### choices of what is missing, from the front -/
section
variable {α : Type} [DecidableEq α]
/-- c is a list of what is missing of w (places from off on) if l lies -/
inductive Sel : List α → List α → Nat → List Nat → Prop
  | nil (off : Nat) : Sel [] [] off []
  | hit {x : α} {w l : List α} {off : Nat} {c : List Nat} (h : Sel w l (off + 1) c) : Sel (x :: w) (x :: l) off c
  | skip {x : α} {w l : List α} {off : Nat} {c : List Nat} (h : Sel w l (off + 1) c) : Sel (x :: w) l off (off :: c)
theorem Sel.snoc_hit {w l : List α} {off : Nat} {c : List Nat} (x : α) (h : Sel w l off c) : Sel (w ++ [x]) (l ++ [x]) off c := by
  induction h with
  | nil off => exact .hit (.nil _)
  | hit h ih => exact .hit ih
  | skip h ih => exact .skip ih
theorem Sel.snoc_skip {w l : List α} {off : Nat} {c : List Nat} (x : α) (h : Sel w l off c) : Sel (w ++ [x]) l off (c ++ [off + w.length]) := by
  induction h with
  | nil off => exact .skip (.nil _)
  | @hit x w l off c h ih =>
    refine .hit ?_
    rw [List.length_cons, show off + (w.length + 1) = off + 1 + w.length by omega]
    exact ih
  | @skip x w l off c h ih =>
    refine .skip ?_
    rw [List.length_cons, show off + (w.length + 1) = off + 1 + w.length by omega]
    exact ih
theorem Sel.unsnoc {x : α} : ∀ {w l : List α} {off : Nat} {c : List Nat}, Sel (w ++ [x]) l off c → (∃ l', l = l' ++ [x] ∧ Sel w l' off c) ∨ ∃ c', c = c' ++ [off + w.length] ∧ Sel w l off c'
  | [], l, off, c, h => by
    cases h with
    | hit h =>
      cases h
      exact .inl ⟨[], rfl, .nil _⟩
    | skip h =>
      cases h
      exact .inr ⟨[], rfl, .nil _⟩
  | y :: w, l, off, c, h => by
    have h' : Sel (y :: (w ++ [x])) l off c := h
    clear h
    cases h' with
    | hit h =>
      rcases Sel.unsnoc (w := w) h with ⟨l', rfl, h2⟩ | ⟨c', rfl, h2⟩
      · exact .inl ⟨y :: l', rfl, .hit h2⟩
      · exact .inr ⟨c', by rw [List.length_cons, show off + (w.length + 1) = off + 1 + w.length by omega], .hit h2⟩
    | skip h =>
      rcases Sel.unsnoc (w := w) h with ⟨l', rfl, h2⟩ | ⟨c', rfl, h2⟩
      · exact .inl ⟨l', rfl, .skip h2⟩
      · exact .inr ⟨off :: c', by rw [List.length_cons, show off + (w.length + 1) = off + 1 + w.length by omega]; rfl, .skip h2⟩
theorem Sel.len {w l : List α} {off : Nat} {c : List Nat} (h : Sel w l off c) : c.length + l.length = w.length := by
  induction h with
  | nil => rfl
  | hit h ih => rw [List.length_cons, List.length_cons]; omega
  | skip h ih => rw [List.length_cons, List.length_cons]; omega
theorem Sel.lo {w l : List α} {off : Nat} {c : List Nat} (h : Sel w l off c) : ∀ i, i ∈ c → off ≤ i ∧ i < off + w.length := by
  induction h with
  | nil => intro i hi; cases hi
  | @hit x w l off c h ih =>
    intro i hi
    have := ih i hi
    rw [List.length_cons]
    omega
  | @skip x w l off c h ih =>
    intro i hi
    rw [List.length_cons]
    rcases List.mem_cons.mp hi with rfl | hi
    · omega
    · have := ih i hi
      omega
/-- what the greedy way takes as missing -/
def greedy : List α → List α → Nat → Option (List Nat)
  | [], [], _ => some []
  | [], _ :: _, _ => none
  | x :: w, [], off => (greedy w [] (off + 1)).map (off :: ·)
  | x :: w, y :: l, off => if x = y then greedy w l (off + 1) else (greedy w (y :: l) (off + 1)).map (off :: ·)
theorem greedy_sel : ∀ {w l : List α} {off : Nat} {c : List Nat}, greedy w l off = some c → Sel w l off c
  | [], [], off, c, h => by cases h; exact .nil _
  | [], _ :: _, off, c, h => by cases h
  | x :: w, [], off, c, h => by
    unfold greedy at h
    cases z : greedy w [] (off + 1) with
    | none => rw [z] at h; cases h
    | some c' => rw [z] at h; cases h; exact .skip (greedy_sel z)
  | x :: w, y :: l, off, c, h => by
    unfold greedy at h
    by_cases q : x = y
    · subst q
      rw [if_pos rfl] at h
      exact .hit (greedy_sel h)
    · rw [if_neg q] at h
      cases z : greedy w (y :: l) (off + 1) with
      | none => rw [z] at h; cases h
      | some c' => rw [z] at h; cases h; exact .skip (greedy_sel z)
/-- fewer lie: still found -/
theorem Sel.drop1 {w l : List α} {off : Nat} {c : List Nat} (h : Sel w l off c) : ∀ {y : α} {l' : List α}, l = y :: l' → ∃ c', Sel w l' off c' := by
  induction h with
  | nil => intro y l' e; cases e
  | hit h ih =>
    intro y l' e
    cases e
    exact ⟨_, .skip h⟩
  | skip h ih =>
    intro y l' e
    obtain ⟨c', h'⟩ := ih e
    exact ⟨_, .skip h'⟩
theorem greedy_some : ∀ {w l : List α} {off : Nat} {c : List Nat}, Sel w l off c → ∃ g, greedy w l off = some g
  | [], l, off, c, h => by
    cases h
    exact ⟨[], rfl⟩
  | x :: w, l, off, c, h => by
    cases h with
    | hit h =>
      obtain ⟨g, hg⟩ := greedy_some h
      unfold greedy
      exact ⟨g, by rw [if_pos rfl]; exact hg⟩
    | skip h =>
      cases l with
      | nil =>
        obtain ⟨g, hg⟩ := greedy_some h
        unfold greedy
        exact ⟨off :: g, by rw [hg]; rfl⟩
      | cons y l =>
        unfold greedy
        by_cases q : x = y
        · rw [if_pos q]
          obtain ⟨c', h'⟩ := h.drop1 rfl
          exact greedy_some h'
        · rw [if_neg q]
          obtain ⟨g, hg⟩ := greedy_some h
          exact ⟨off :: g, by rw [hg]; rfl⟩
/-- greedy's list is the greatest -/
theorem greedy_max : ∀ {w l : List α} {off : Nat} {c g : List Nat}, Sel w l off c → greedy w l off = some g → c = g ∨ ∃ p a b r s, c = p ++ a :: r ∧ g = p ++ b :: s ∧ a < b
  | [], l, off, c, g, h, hg => by
    cases h
    cases hg
    exact .inl rfl
  | x :: w, l, off, c, g, h, hg => by
    cases h with
    | hit h =>
      unfold greedy at hg
      rw [if_pos rfl] at hg
      exact greedy_max h hg
    | @skip _ _ _ _ c' h =>
      have skipped : ∀ {g'}, greedy w l (off + 1) = some g' → g = off :: g' → off :: c' = g ∨ ∃ p a b r s, off :: c' = p ++ a :: r ∧ g = p ++ b :: s ∧ a < b := fun {g'} z e => by
        rcases greedy_max h z with rfl | ⟨p, a, b, r, s, rfl, rfl, lt⟩
        · exact .inl e.symm
        · exact .inr ⟨off :: p, a, b, r, s, rfl, e, lt⟩
      cases l with
      | nil =>
        unfold greedy at hg
        cases z : greedy w [] (off + 1) with
        | none => rw [z] at hg; cases hg
        | some g' => rw [z] at hg; cases hg; exact skipped z rfl
      | cons y l =>
        unfold greedy at hg
        by_cases q : x = y
        · rw [if_pos q] at hg
          have hs := greedy_sel hg
          have l1 := h.len
          have l2 := hs.len
          rw [List.length_cons] at l1
          cases g with
          | nil =>
            rw [List.length_nil] at l2
            omega
          | cons b s =>
            have := hs.lo b List.mem_cons_self
            exact .inr ⟨[], off, b, c', s, rfl, rfl, by omega⟩
        · rw [if_neg q] at hg
          cases z : greedy w (y :: l) (off + 1) with
          | none => rw [z] at hg; cases hg
          | some g' => rw [z] at hg; cases hg; exact skipped z rfl
end
end Sx

set_option Elab.async false
set_option linter.all false
set_option maxRecDepth 100000
set_option maxHeartbeats 2000000
namespace Sx
open PySem PySem.Spec PyProof.Rows L2 SxA SxK
theorem zssh : ScSup (defScope sStrangeSheetInit) ["self", "place"] := ⟨rfl, rfl, rfl, by decide +kernel, by decide +kernel, by decide +kernel, by decide +kernel, by decide +kernel, by decide +kernel⟩
section
variable {P : Program} {w : World} {K : PySem.W.Frag} {mg : Str → Option Value} {base : Heap}
theorem ok_ssh (t : T K mg) (er : ErrC P K mg xStrangeSheet) : ∃ fd, FnOk P w K mg base (L2.CX P w) 2 (xStrangeSheet.I K) fd ["self", "place"] (spXInt K "StrangeSheet" "place") ∧ Binds K fd ["self", "place"] [] := by
  obtain ⟨cc, cda, fd, S⟩ := er.sup
  refine ⟨fd, ?_, ?_⟩
  · refine fn_sup (k := 1) (CX := L2.CX P w) S zssh rfl rfl (fun vs H Q E h => ?_) (fun A outer s H vs Q E hr h => ?_) (fun _ => rfl) (fun _ => rfl) (fun _ => rfl) (fun _ => rfl)
    · obtain ⟨a, l, rfl, _⟩ := h
      rfl
    · obtain ⟨a, l, rfl, ha, hl, hq⟩ := h
      refine ⟨_, _, a, _, pa_cons (pe_joined (.cons pe_str (.cons (pe_fmt (pe_ok (ok_number_word t) hr rfl (pa_cons (pv 1) pa_nil))) (.cons pe_str .nil)))) pa_nil, pss_one (ps_ost (pv 0) (pv 1)), rfl, ha, ?_⟩
      have tl : (Str.ofString (toString l)).length ≤ 10 := toString_length_le hl.1 (by decide) hl.2
      have e0 : Str.empty.length = 0 := rfl
      have e1 : (Str.ofString "the sheet at ").length = 13 := by decide +kernel
      have e2 : (Str.ofString " is strange").length = 11 := by decide +kernel
      refine ⟨_, rfl, (by rw [len_app, e0, e1, sizeLine_eq]; omega), ?_⟩
      refine ⟨_, rfl, l, rfl, hl, fun H1 s1 => .inl ⟨_, rfl, (by rw [sizeLine_eq]; omega), _, rfl, (by rw [len_app, len_app, e0, e1, sizeLine_eq]; omega), ?_⟩⟩
      have ha1 := s1 _ _ ha
      refine ⟨_, rfl, (by rw [len_app, len_app, len_app, e0, e1, e2, sizeLine_eq]; omega), ?_⟩
      refine ⟨(by show 1 ≤ 1000; decide), ha1, ?_⟩
      have hn : ∀ f ∈ xStrangeSheet.ats, PySem.W.findIn K (.ref (He.ga K "StrangeSheet")) f = some none := er.ats
      refine ⟨_, rfl, _, rfl, a, _, rfl, S.ex, hn "place" (by decide), .inl ⟨ha1, fun dx hdx ne => ?_⟩⟩
      have q := hq H1 dx s1 hdx ne
      have eH : ∀ (o1 o4 : HO), upd (upd H1 dx o1) a o4 = upd (upd H1 a o4) dx o1 := fun o1 o4 => funext fun b => by
        by_cases hb : b = dx
        · subst hb
          rw [upd_ne ne, upd_same, upd_same]
        · rw [upd_ne hb]
          by_cases hb2 : b = a
          · subst hb2
            rw [upd_same, upd_same]
          · rw [upd_ne hb2, upd_ne hb2, upd_ne hb]
      show Q .non _
      rw [eH]
      exact q
  · obtain ⟨oc, od, kV, doc, pm, an, ct, osl, efd, hf⟩ := S.fn
    subst efd
    intro s us _ hl
    rw [List.append_nil] at hl ⊢
    match us, hl with
    | [_, _], _ => exact .of_eq rfl
theorem pmk_ssh {X : Cx} {k : Nat} {p pos : Pos} {a : Expr} {as : List Expr} {ta : TA} (t : T X.K X.mg) (er : ErrC X.prog X.K X.mg xStrangeSheet) (hr : Room (k + 3) X.A) (hg : Gl X "StrangeSheet") (ha : PA X (a :: as) ta)
    (he : starEach (a :: as) X.env = (false, eval a X.env) :: starEach as X.env := by rfl) (hpl : (backTo pos (starEach as X.env)).any (·.1) = false := by rfl) :
    PMk X (.Call (.Name "StrangeSheet" p) (a :: as) [] pos) (tMkO (He.ga X.K "StrangeSheet") (spXInt X.K "StrangeSheet" "place") [] ta) := by
  obtain ⟨fd, F, b⟩ := ok_ssh (w := X.w) (base := X.base) t er
  obtain ⟨cc, cda, fd2, S⟩ := er.sup
  exact pmk_oex (k := 2) S.ex S.iC S.tI F (hr.mono (by omega)) b .nil (fun pins σ H s e s' I c => by
    obtain ⟨_, _, _, _, _, _, _, _, _, _, _, _, z⟩ := c
    exact z.elim) hg er.glob ha (by decide) he hpl
end
theorem znmi : ScSup (defScope sNotMissingInit) ["self", "number"] := ⟨rfl, rfl, rfl, by decide +kernel, by decide +kernel, by decide +kernel, by decide +kernel, by decide +kernel, by decide +kernel⟩
section
variable {P : Program} {w : World} {K : PySem.W.Frag} {mg : Str → Option Value} {base : Heap}
theorem ok_nmi (t : T K mg) (er : ErrC P K mg xNotMissing) : ∃ fd, FnOk P w K mg base (L2.CX P w) 2 (xNotMissing.I K) fd ["self", "number"] (spXInt K "NotMissing" "number") ∧ Binds K fd ["self", "number"] [] := by
  obtain ⟨cc, cda, fd, S⟩ := er.sup
  refine ⟨fd, ?_, ?_⟩
  · refine fn_sup (k := 1) (CX := L2.CX P w) S znmi rfl rfl (fun vs H Q E h => ?_) (fun A outer s H vs Q E hr h => ?_) (fun _ => rfl) (fun _ => rfl) (fun _ => rfl) (fun _ => rfl)
    · obtain ⟨a, l, rfl, _⟩ := h
      rfl
    · obtain ⟨a, l, rfl, ha, hl, hq⟩ := h
      refine ⟨_, _, a, _, pa_cons (pe_joined (.cons pe_str (.cons (pe_fmt (pe_ok (ok_number_word t) hr rfl (pa_cons (pv 1) pa_nil))) (.cons pe_str .nil)))) pa_nil, pss_one (ps_ost (pv 0) (pv 1)), rfl, ha, ?_⟩
      have tl : (Str.ofString (toString l)).length ≤ 10 := toString_length_le hl.1 (by decide) hl.2
      have e0 : Str.empty.length = 0 := rfl
      have e1 : (Str.ofString "the further sheet ").length = 18 := by decide +kernel
      have e2 : (Str.ofString " is not the one whose turn it is").length = 32 := by decide +kernel
      refine ⟨_, rfl, (by rw [len_app, e0, e1, sizeLine_eq]; omega), ?_⟩
      refine ⟨_, rfl, l, rfl, hl, fun H1 s1 => .inl ⟨_, rfl, (by rw [sizeLine_eq]; omega), _, rfl, (by rw [len_app, len_app, e0, e1, sizeLine_eq]; omega), ?_⟩⟩
      have ha1 := s1 _ _ ha
      refine ⟨_, rfl, (by rw [len_app, len_app, len_app, e0, e1, e2, sizeLine_eq]; omega), ?_⟩
      refine ⟨(by show 1 ≤ 1000; decide), ha1, ?_⟩
      have hn : ∀ f ∈ xNotMissing.ats, PySem.W.findIn K (.ref (He.ga K "NotMissing")) f = some none := er.ats
      refine ⟨_, rfl, _, rfl, a, _, rfl, S.ex, hn "number" (by decide), .inl ⟨ha1, fun dx hdx ne => ?_⟩⟩
      have q := hq H1 dx s1 hdx ne
      have eH : ∀ (o1 o4 : HO), upd (upd H1 dx o1) a o4 = upd (upd H1 a o4) dx o1 := fun o1 o4 => funext fun b => by
        by_cases hb : b = dx
        · subst hb
          rw [upd_ne ne, upd_same, upd_same]
        · rw [upd_ne hb]
          by_cases hb2 : b = a
          · subst hb2
            rw [upd_same, upd_same]
          · rw [upd_ne hb2, upd_ne hb2, upd_ne hb]
      show Q .non _
      rw [eH]
      exact q
  · obtain ⟨oc, od, kV, doc, pm, an, ct, osl, efd, hf⟩ := S.fn
    subst efd
    intro s us _ hl
    rw [List.append_nil] at hl ⊢
    match us, hl with
    | [_, _], _ => exact .of_eq rfl
theorem pmk_nmi {X : Cx} {k : Nat} {p pos : Pos} {a : Expr} {as : List Expr} {ta : TA} (t : T X.K X.mg) (er : ErrC X.prog X.K X.mg xNotMissing) (hr : Room (k + 3) X.A) (hg : Gl X "NotMissing") (ha : PA X (a :: as) ta)
    (he : starEach (a :: as) X.env = (false, eval a X.env) :: starEach as X.env := by rfl) (hpl : (backTo pos (starEach as X.env)).any (·.1) = false := by rfl) :
    PMk X (.Call (.Name "NotMissing" p) (a :: as) [] pos) (tMkO (He.ga X.K "NotMissing") (spXInt X.K "NotMissing" "number") [] ta) := by
  obtain ⟨fd, F, b⟩ := ok_nmi (w := X.w) (base := X.base) t er
  obtain ⟨cc, cda, fd2, S⟩ := er.sup
  exact pmk_oex (k := 2) S.ex S.iC S.tI F (hr.mono (by omega)) b .nil (fun pins σ H s e s' I c => by
    obtain ⟨_, _, _, _, _, _, _, _, _, _, _, _, z⟩ := c
    exact z.elim) hg er.glob ha (by decide) he hpl
end
end Sx

set_option Elab.async false
set_option linter.all false
set_option maxRecDepth 100000
set_option maxHeartbeats 2000000
namespace Sx
open PySem PySem.Spec PyProof.Rows L2 SxA SxK
theorem greedy_nil {α : Type} [DecidableEq α] : ∀ (w : List α) (off : Nat), greedy w [] off = some (List.range' off w.length)
  | [], off => rfl
  | x :: w, off => by
    unfold greedy
    rw [greedy_nil w (off + 1)]
    rfl
/-- the way so far -/
def GInv (ws ls : List Int) (i pl : Nat) (fd : List Nat) (first : Option Int) : Prop := pl ≤ ws.length ∧ fd.length ≤ pl ∧ ∀ l, (match first with | none => True | some y => ∃ l', l = y :: l') → greedy ws (ls.take i ++ l) 0 = (greedy (ws.drop pl) l pl).map (fd ++ ·)
theorem GInv.first {ws ls : List Int} {i pl : Nat} {fd : List Nat} (h : GInv ws ls i pl fd none) (y : Int) : GInv ws ls i pl fd (some y) := ⟨h.1, h.2.1, fun l _ => h.2.2 l trivial⟩
theorem GInv.skip {ws ls : List Int} {i pl : Nat} {fd : List Nat} {y x : Int} (h : GInv ws ls i pl fd (some y)) (hx : ws[pl]? = some x) (ne : x ≠ y) : GInv ws ls i (pl + 1) (fd ++ [pl]) (some y) := by
  have pl' := (List.getElem?_eq_some_iff.mp hx).1
  refine ⟨by omega, by rw [List.length_append]; exact Nat.succ_le_succ h.2.1, fun l hl => ?_⟩
  rw [h.2.2 l hl]
  obtain ⟨l', rfl⟩ := hl
  have e : ws.drop pl = x :: ws.drop (pl + 1) := by
    rw [List.drop_eq_getElem_cons pl']
    congr 1
    exact Option.some.inj ((List.getElem?_eq_getElem pl').symm.trans hx)
  rw [e]
  conv => lhs; unfold greedy
  rw [if_neg ne]
  cases greedy (ws.drop (pl + 1)) (y :: l') (pl + 1) with
  | none => rfl
  | some g => show some (fd ++ pl :: g) = some ((fd ++ [pl]) ++ g); rw [List.append_assoc]; rfl
theorem GInv.hit {ws ls : List Int} {i pl : Nat} {fd : List Nat} {y : Int} (h : GInv ws ls i pl fd (some y)) (hx : ws[pl]? = some y) (hy : ls[i]? = some y) : GInv ws ls (i + 1) (pl + 1) fd none := by
  have pl' := (List.getElem?_eq_some_iff.mp hx).1
  refine ⟨by omega, by have := h.2.1; omega, fun l _ => ?_⟩
  have e1 : ls.take (i + 1) ++ l = ls.take i ++ y :: l := by rw [List.take_add_one, hy]; simp
  rw [e1, h.2.2 (y :: l) ⟨l, rfl⟩]
  have e : ws.drop pl = y :: ws.drop (pl + 1) := by
    rw [List.drop_eq_getElem_cons pl']
    congr 1
    exact Option.some.inj ((List.getElem?_eq_getElem pl').symm.trans hx)
  rw [e]
  conv => lhs; unfold greedy
  rw [if_pos rfl]
theorem GInv.bad {ws ls : List Int} {i pl : Nat} {fd : List Nat} {y : Int} (h : GInv ws ls i pl fd (some y)) (hx : pl = ws.length) (hy : ls[i]? = some y) : greedy ws (ls.take (i + 1)) 0 = none := by
  have e1 : ls.take (i + 1) = ls.take i ++ y :: [] := by rw [List.take_add_one, hy]; rfl
  rw [e1, h.2.2 [y] ⟨[], rfl⟩, hx, List.drop_length]
  rfl

/-! ### sheets: a number, 'front', 'back' -/
def tpS (n : Int) : List V := [.int n, .str "front", .str "back"]
def pSh (n : Int) : PyData := .tuple [.int n, .str "front", .str "back"]
def AllSh (H : Hp) (f : Addr → Int) (rs : List Addr) : Prop := ∀ r ∈ rs, H r = some (.tup (tpS (f r)))
theorem AllSh.same {H H' : Hp} {f : Addr → Int} {rs : List Addr} (h : AllSh H f rs) (s : Same H H') : AllSh H' f rs := fun r hr => s _ _ (h r hr)
theorem dpSh {K : PySem.W.Frag} {H : Hp} {r : Addr} {n : Int} (h : H r = some (.tup (tpS n))) : Dp K H (.ref r) (pSh n) := .tup (SqT.of h) (.cons (.int _) (.cons (.str _) (.cons (.str _) .nil)))
theorem pSh_shaped (n : Int) : SeqAt.shaped (pSh n) = true := by
  have h1 : PyData.strOk "front" = true := by decide +kernel
  have h2 : PyData.strOk "back" = true := by decide +kernel
  simp [pSh, SeqAt.shaped, PyData.canLay0, PyData.canLayAll0, PyData.depth, PyData.depthAll, h1, h2]
theorem pSh_eqv (a b : Int) : PyData.eqv (pSh a) (pSh b) = decide (a = b) := by
  rw [Bool.eq_iff_iff]
  simp [pSh, PyData.eqv, PyData.eqvAll]
theorem refAt {ws : List Addr} {i : Nat} {v : V} (h : (ws.map V.ref)[i]? = some v) : ∃ y, ws[i]? = some y ∧ v = V.ref y := by
  rw [List.getElem?_map] at h
  cases z : ws[i]? with
  | none => rw [z] at h; cases h
  | some y => rw [z] at h; exact ⟨y, rfl, (Option.some.inj h).symm⟩
def spMiss (K : PySem.W.Frag) : Sp := fun vs H Q E => ∃ (p q : Addr) (f : Addr → Int) (ws ls : List Addr) (g : List Nat), vs = [.ref p, .ref q] ∧ H p = some (.lst (ws.map V.ref)) ∧ H q = some (.lst (ls.map V.ref)) ∧ AllSh H f ws ∧ AllSh H f ls ∧ ws.length ≤ 100 ∧ ls.length ≤ 100 ∧ greedy (ws.map f) (ls.map f) 0 = some g ∧
  ∀ r H', H r = none → Same H H' → H' r = some (.lst (g.map fun n : Nat => V.int (n : Int))) → Q (.ref r) H'
theorem Sel.pre {α : Type} [DecidableEq α] {w l : List α} {off : Nat} {c : List Nat} (h : Sel w l off c) : ∀ {l1 l2 : List α}, l = l1 ++ l2 → ∃ c', Sel w l1 off c' := by
  induction h with
  | nil off =>
    intro l1 l2 e
    cases l1 with
    | nil => exact ⟨_, .nil _⟩
    | cons x r => cases e
  | hit h ih =>
    intro l1 l2 e
    cases l1 with
    | nil => exact ⟨_, greedy_sel (greedy_nil _ _)⟩
    | cons y r =>
      injection e with e1 e2
      subst e1
      obtain ⟨c', h'⟩ := ih e2
      exact ⟨_, .hit h'⟩
  | skip h ih =>
    intro l1 l2 e
    obtain ⟨c', h'⟩ := ih e
    exact ⟨_, .skip h'⟩
theorem good_take {W L : List Int} {g : List Nat} (h : greedy W L 0 = some g) (k : Nat) : greedy W (L.take k) 0 ≠ none := by
  obtain ⟨c', h'⟩ := (greedy_sel h).pre (l1 := L.take k) (l2 := L.drop k) (List.take_append_drop k L).symm
  obtain ⟨g', hg'⟩ := greedy_some h'
  rw [hg']
  exact fun z => by cases z
end Sx

set_option Elab.async false
set_option linter.all false
set_option maxRecDepth 100000
set_option maxHeartbeats 2000000
namespace Sx
open PySem PySem.Spec PyProof.Rows L2 SxA SxK
section
variable {P : Program} {w : World} {K : PySem.W.Frag} {mg : Str → Option Value} {base : Heap}
abbrev nsMissing : List Str := ["wanted", "lying", "found", "place", "number", "sheet"]
theorem scMissing : FnScope nsMissing ["wanted", "lying"] (defScope sMissing) := ⟨rfl, rfl, rfl, by decide +kernel, rfl, by decide +kernel, by decide +kernel⟩
theorem ok_missing (t : T K mg) (er : ErrC P K mg xStrangeSheet) : OkX P w K mg base 4 "missing" ["wanted", "lying"] (spMiss K) := by
  refine mkOkX t.d_missing t.g_missing scMissing (fun vs H Q E h => ?_) (fun _ _ _ _ _ _ us hl => match us, hl with | [_, _], _ => rfl) fun cdv A outer s H vs Q E hr h => ?_
  · obtain ⟨p, q, f, ws, ls, g, rfl, _⟩ := h; rfl
  obtain ⟨p, q, f, ws, ls, gg, rfl, hp, hq, hwr, hlr, wl, ll, hgg, k⟩ := h
  refine ⟨_, pss_cons (ps_set (i := 2) scMissing.nd rfl (Or.inl rfl) (pe_lst pa_nil))
    (pss_cons (ps_set (i := 3) scMissing.nd rfl (Or.inl rfl) pe_int)
    (pss_cons (ps_for (passes_of rfl) rfl (pi_enum (by rfl) t.f_enumerate (pa_cons (pv 1) pa_nil)) (pg_tup rfl (pgs_cons (pg_name (i := 4) scMissing.nd rfl (Or.inl rfl)) (pgs_cons (pg_name (i := 5) scMissing.nd rfl (Or.inl rfl)) pgs_nil)))
      (C8.pss_cut (ps_while (passes_of rfl) (PW.pt (pw_and (pt_cmpR op_lt (pv 3) (pe_callB call_len_seq rfl t.f_len boot_len (pa_cons (pv 0) pa_nil)) (nomark _)) (pw_and1 (pt_cmpR (op_neD (hu64 hr)) (pe_ix ix_list (pv 0) (pv 3) (fun _ _ => rfl)) (pv 5) (nomark _)))))
      (pss_cons (ps_expr (pe_bm PySem.F.plainAttrs_list PySem.F.slot_list_append PySem.F.type_list_append mt_append (pv 2) (pa_cons (pv 3) pa_nil)))
    (pss_one (ps_aug (i := 3) scMissing.nd rfl (Or.inl rfl) pe_int ip_add))))
    (pss_cons (ps_if (pt_cmpR op_eq (pv 3) (pe_callB call_len_seq rfl t.f_len boot_len (pa_cons (pv 0) pa_nil)) (nomark _))
      (pss_one (ps_raise rfl (takes_of rfl rfl rfl rfl) (pmk_ssh (k := 0) t er hr rfl (pa_cons (pv 4) pa_nil))))
      pss_nil)
    (pss_one (ps_aug (i := 3) scMissing.nd rfl (Or.inl rfl) pe_int ip_add)))))
    (pss_one (ps_ret (pe_op op_cat (pv 2) (pe_listRg rfl rfl t.f_list (prg_2 rfl t.f_range (pv 3) (pe_callB call_len_seq rfl t.f_len boot_len (pa_cons (pv 0) pa_nil))))))))), ?_⟩
  have lw : (ws.map V.ref).length = ws.length := List.length_map ..
  refine ⟨(by show 0 ≤ sizeLine; decide), fun F hF => ?_⟩
  have sF : Same H (upd H F (.lst [])) := Same.new hF
  refine ⟨_, rfl, q, _, rfl, SqL.of (sF _ _ hq), ?_⟩
  refine for_it (walk_enum (K := K) (a := q) (xs := ls.map V.ref)) (fun i σ' H' => (∃ (pl : Nat) (fd : List Nat) (o4 o5 : Option V), σ' = [some (.ref p), some (.ref q), some (.ref F), some (.int (pl : Int)), o4, o5] ∧ H' F = some (.lst (fd.map fun n : Nat => V.int (n : Int))) ∧ GInv (ws.map f) (ls.map f) i pl fd none) ∧ Same H H') ⟨⟨0, [], _, _, rfl, upd_same, Nat.zero_le _, Nat.le_refl _, fun l _ => ?_⟩, sF⟩ (fun i σ' H' _ p => SqL.of (p.2 _ _ hq)) ?_ ?_
  · rw [List.take_zero, List.nil_append, List.drop_zero]
    cases greedy (ws.map f) l 0 <;> rfl
  · rintro i v σ' H1 H2 hi ⟨⟨pl, fd, o4, o5, rfl, hF1, hg⟩, s1⟩ ⟨T, x1, y, rfl, hT, rfl, ex, ey⟩
    have ex := (Option.some.inj ex).symm
    subst ex
    obtain ⟨y, hy, rfl⟩ := refAt ey
    have il := (List.getElem?_eq_some_iff.mp hy).1
    have hyf : (ls.map f)[i]? = some (f y) := by rw [List.getElem?_map, hy]; rfl
    have hyT := hlr y (List.mem_of_getElem? hy)
    have s2 : Same H (upd H1 T (.tup [V.int ((i : Nat) : Int), V.ref y])) := s1.trans (Same.new hT)
    have hF2 := Same.new (o := .tup [V.int ((i : Nat) : Int), V.ref y]) hT _ _ hF1
    refine ⟨T, _, rfl, SqT.of upd_same, rfl, _, _, rfl, _, _, rfl, rfl, ?_⟩
    generalize upd H1 T (.tup [V.int ((i : Nat) : Int), V.ref y]) = H2 at s2 hF2
    refine ⟨fun σ2 H3 => ∃ (pl : Nat) (fd : List Nat), σ2 = [some (.ref p), some (.ref q), some (.ref F), some (.int (pl : Int)), some (.int (i : Int)), some (.ref y)] ∧ H3 F = some (.lst (fd.map fun n : Nat => V.int (n : Int))) ∧ GInv (ws.map f) (ls.map f) i pl fd (some (f y)) ∧ Same H H3 ∧ (pl = ws.length ∨ (ws.map f)[pl]? = some (f y)), ?_, ?_⟩
    · refine ⟨fun μ σ' H' => ∃ (pl : Nat) (fd : List Nat), σ' = [some (.ref p), some (.ref q), some (.ref F), some (.int (pl : Int)), some (.int (i : Int)), some (.ref y)] ∧ μ = ws.length - pl ∧ H' F = some (.lst (fd.map fun n : Nat => V.int (n : Int))) ∧ GInv (ws.map f) (ls.map f) i pl fd (some (f y)) ∧ Same H H', ⟨_, pl, fd, rfl, rfl, hF2, hg.first (f y), s2⟩, ?_⟩
      rintro μ σ' H3 ⟨pl, fd, rfl, rfl, hF3, hg, s3⟩
      refine ⟨_, rfl, _, rfl, p, _, rfl, .inl (SqL.of (s3 _ _ hp)), _, _, rfl, rfl, _, rfl, ite2 (fun h1 => ?_) (fun h1 => ?_)⟩
      · have lt : pl < ws.length := by
          have := of_decide_eq_true h1
          rw [lw] at this
          omega
        obtain ⟨x, hx⟩ : ∃ x, ws[pl]? = some x := ⟨_, List.getElem?_eq_getElem lt⟩
        have hxf : (ws.map f)[pl]? = some (f x) := by rw [List.getElem?_map, hx]; rfl
        have hxT := hwr x (List.mem_of_getElem? hx)
        refine ⟨_, rfl, _, rfl, p, _, _, .ref x, rfl, rfl, SqL.of (s3 _ _ hp), atI_nat (by rw [List.getElem?_map, hx]; rfl), _, rfl, ⟨pSh (f x), pSh (f y), dpSh (s3 _ _ hxT), dpSh (s3 _ _ hyT), pSh_shaped _, pSh_shaped _, _, rfl, ?_⟩⟩
        rw [pSh_eqv]
        refine ite2 (fun h2 => ?_) (fun h2 => ?_)
        · have ne : f x ≠ f y := fun e => by rw [e] at h2; simp at h2
          have hN := hg.skip hxf ne
          refine ⟨fun σ' H' => ∃ m', m' < ws.length - pl ∧ ∃ (pl : Nat) (fd : List Nat), σ' = [some (.ref p), some (.ref q), some (.ref F), some (.int (pl : Int)), some (.int (i : Int)), some (.ref y)] ∧ m' = ws.length - pl ∧ H' F = some (.lst (fd.map fun n : Nat => V.int (n : Int))) ∧ GInv (ws.map f) (ls.map f) i pl fd (some (f y)) ∧ Same H H', fun σ' H' h => h, ?_⟩
          have fl : fd.length ≤ 100 := by have := hg.2.1; omega
          refine ⟨_, rfl, .inl ⟨rfl, _, SqL.of hF3⟩, _, rfl, F, _, _, rfl, rfl, hF3, by rw [List.length_map]; exact small1 (by omega), ?_⟩
          exact ⟨_, rfl, _, _, rfl, rfl, _, by omega, pl + 1, fd ++ [pl], rfl, rfl, by rw [upd_same, List.map_append]; rfl, hN, Same.put s3 hF⟩
        · have e : f x = f y := by
            by_cases q : f x = f y
            · exact q
            · exfalso
              apply h2
              rw [decide_eq_false q]
              rfl
          exact ⟨pl, fd, rfl, hF3, hg, s3, .inr (by rw [hxf, e])⟩
      · have e : pl = ws.length := by
          have h3 := hg.1
          rw [List.length_map] at h3
          have : ¬ pl < ws.length := fun z => h1 (decide_eq_true (by rw [lw]; omega))
          omega
        exact ⟨pl, fd, rfl, hF3, hg, s3, .inl e⟩
    rintro σ2 H3 ⟨pl, fd, rfl, hF3, hg, s3, hend⟩
    refine ⟨_, rfl, _, rfl, p, _, rfl, .inl (SqL.of (s3 _ _ hp)), rfl, _, rfl, ite2 (fun h1 => ?_) (fun h1 => ?_)⟩
    · have e : pl = ws.length := by
        have := V.int.inj (of_decide_eq_true h1)
        rw [lw] at this
        omega
      exact absurd (hg.bad (by rw [List.length_map]; exact e) hyf) (good_take hgg _)
    · have ne : pl ≠ ws.length := fun z => h1 (by rw [lw, z]; exact decide_eq_true rfl)
      have hx := hend.resolve_left ne
      exact ⟨_, rfl, _, _, rfl, rfl, ⟨pl + 1, fd, _, _, rfl, hF3, hg.hit hx hyf⟩, s3⟩
  · rintro σ' H' ⟨⟨pl, fd, o4, o5, rfl, hF1, hg⟩, s1⟩
    have h3 := hg.1
    have h4 := hg.2.1
    rw [List.length_map] at hg h3
    have hgr : gg = fd ++ List.range' pl ((ws.map f).drop pl).length := by
      have := hg.2.2 [] trivial
      have tl : (ls.map f).take ls.length = ls.map f := List.take_of_length_le (by rw [List.length_map]; exact Nat.le_refl _)
      rw [tl, List.append_nil, hgg, greedy_nil] at this
      exact Option.some.inj this
    refine ⟨_, rfl, _, rfl, _, rfl, p, _, rfl, .inl (SqL.of (s1 _ _ hp)), _, _, rfl, rfl, ?_⟩
    show RgOk (pl : Int) ((((ws.map V.ref).length : Nat) : Int)) ∧ _
    rw [lw]
    refine ⟨⟨by omega, by omega, by omega, by omega, by omega⟩, fun r hr => ?_⟩
    have s2 := s1.trans (Same.new (o := .lst (rgV (pl : Int) ((ws.length : Nat) : Int))) hr)
    have hr2 := upd_same (H := H') (a := r) (o := .lst (rgV (pl : Int) ((ws.length : Nat) : Int)))
    have hF2 := Same.new (o := .lst (rgV (pl : Int) ((ws.length : Nat) : Int))) hr _ _ hF1
    have erg : rgV (pl : Int) ((ws.length : Nat) : Int) = (List.range' pl ((ws.map f).drop pl).length).map fun n : Nat => V.int (n : Int) := by
      unfold rgV
      rw [List.range'_eq_map_range, List.map_map, List.length_drop, List.length_map, show ((((ws.length : Nat) : Int) - (pl : Int)).toNat) = ws.length - pl by omega]
      refine List.map_congr_left fun j _ => ?_
      show V.int ((pl : Int) + (j : Int)) = V.int (((pl + j : Nat) : Int))
      rw [Int.natCast_add]
    generalize upd H' r (.lst (rgV (pl : Int) ((ws.length : Nat) : Int))) = H9 at s2 hr2 hF2
    rw [erg] at hr2
    refine ⟨F, r, _, _, rfl, rfl, hF2, hr2, Nat.le_of_lt (small1 (by rw [List.length_map, List.length_map, List.length_range', List.length_drop, List.length_map]; omega)), fun u hu => ?_⟩
    refine k u _ (Sx.Same.none s2 _ hu) (s2.trans (Same.new hu)) ?_
    rw [upd_same, hgr, List.map_append]
end
end Sx

set_option Elab.async false
set_option linter.all false
set_option maxRecDepth 100000
set_option maxHeartbeats 2000000
namespace Sx
open PySem PySem.Spec PyProof.Rows L2 SxA SxK
def dueR (ws : List Addr) (g : List Nat) : List Addr := g.map fun i => ws.getD i 0
def spFill (K : PySem.W.Frag) : Sp := fun vs H Q E => ∃ (p q u : Addr) (f : Addr → Int) (ws ls : List Addr) (g : List Nat), vs = [.ref p, .ref q, .ref u] ∧ H p = some (.lst (ws.map V.ref)) ∧ H q = some (.lst (ls.map V.ref)) ∧ H u = some (.lst ((dueR ws g).map V.ref)) ∧ AllSh H f ws ∧ AllSh H f ls ∧ ws.length ≤ 100 ∧ ls.length ≤ 100 ∧ greedy (ws.map f) (ls.map f) 0 = some g ∧
  ∀ r H', H r = none → Same H H' → H' r = some (.lst (ws.map V.ref)) → Q (.ref r) H'
section
variable {P : Program} {w : World} {K : PySem.W.Frag} {mg : Str → Option Value} {base : Heap}
abbrev nsFilled : List Str := ["wanted", "lying", "more", "due", "place", "number", "sheet"]
theorem scFilled : FnScope nsFilled ["wanted", "lying", "more"] (defScope sFilled) := ⟨rfl, rfl, rfl, by decide +kernel, rfl, by decide +kernel, by decide +kernel⟩
theorem ok_filled (t : T K mg) (er : ErrC P K mg xStrangeSheet) (er2 : ErrC P K mg xNotMissing) : OkX P w K mg base 5 "filled" ["wanted", "lying", "more"] (spFill K) := by
  refine mkOkX t.d_filled t.g_filled scFilled (fun vs H Q E h => ?_) (fun _ _ _ _ _ _ us hl => match us, hl with | [_, _, _], _ => rfl) fun cdv A outer s H vs Q E hr h => ?_
  · obtain ⟨p, q, u, f, ws, ls, g, rfl, _⟩ := h; rfl
  obtain ⟨p, q, u, f, ws, ls, g, rfl, hp, hq, hu, hws, hls, wl, ll, hg, k⟩ := h
  refine ⟨_, pss_cons (ps_setLc (i := 3) (own := [("place", 4)]) (g := gName 4) (tt := tYes) (by rfl) scFilled.nd rfl rfl (sw_true rfl rfl rfl (by decide +kernel)) (pi_list (pe_okX (ok_missing t er) hr rfl (takes_of rfl rfl rfl rfl) (pa_cons (pv 0) (pa_cons (pv 1) pa_nil)))) (blkOk_by (own := [("place", 4)]) (N := nsFilled) (sc := defScope sFilled) (by decide +kernel)) (fun _ _ _ _ _ => pg_name (i := 4) scFilled.nd rfl (Or.inl rfl)) (fun _ _ _ _ _ => pts_nil) (fun _ _ _ _ _ => (pe_ix (ix_listK (K := K) rfl) (pv 0) (pv 4) (fun _ _ => rfl))))
    (pss_cons (ps_for (passes_of rfl) rfl (pi_enum (by rfl) t.f_enumerate (pa_cons (pv 2) pa_nil)) (pg_tup rfl (pgs_cons (pg_name (i := 5) scFilled.nd rfl (Or.inl rfl)) (pgs_cons (pg_name (i := 6) scFilled.nd rfl (Or.inl rfl)) pgs_nil)))
      (pss_one (ps_if (PW.pt (pw_or (pt_cmpR op_eq (pv 5) (pe_callB call_len_seq rfl t.f_len boot_len (pa_cons (pv 3) pa_nil)) (nomark _)) (pw_or1 (pt_cmpR (op_neD (hu64 hr)) (pv 6) (pe_ix ix_list (pv 3) (pv 5) (fun _ _ => rfl)) (nomark _)))))
      (pss_one (ps_raise rfl (takes_of rfl rfl rfl rfl) (pmk_nmi (k := 0) t er2 (hr.mono (by decide)) rfl (pa_cons (pv 5) pa_nil))))
      pss_nil)))
    (pss_cons (ps_if (pt_cmpR op_lt (pe_callB call_len_seq rfl t.f_len boot_len (pa_cons (pv 2) pa_nil)) (pe_callB call_len_seq rfl t.f_len boot_len (pa_cons (pv 3) pa_nil)) (nomark _))
      (pss_one (ps_raise rfl (takes_of rfl rfl rfl rfl) (pmk_nmi (k := 0) t er2 (hr.mono (by decide)) rfl (pa_cons (pe_callB call_len_seq rfl t.f_len boot_len (pa_cons (pv 2) pa_nil)) pa_nil))))
      pss_nil)
    (pss_one (ps_ret (pe_callTy call_list_of rfl t.f_list (by decide +kernel) (pa_cons (pv 0) pa_nil)))))), ?_⟩
  have glo : ∀ i, i ∈ g → i < ws.length := fun i hi => by
    have := (greedy_sel hg).lo i hi
    rw [List.length_map] at this
    omega
  have gl : g.length ≤ 100 := by
    have := (greedy_sel hg).len
    rw [List.length_map, List.length_map] at this
    omega
  refine ⟨_, rfl, _, rfl, p, q, f, ws, ls, g, rfl, hp, hq, hws, hls, wl, ll, hg, fun r H1 hr1 s1 hr2 => ?_⟩
  refine ⟨r, rfl, ⟨_, SqL.of hr2⟩, fun D hD => ?_⟩
  refine lc_list (K := K) (a := r) (xs := g.map fun n : Nat => V.int (n : Int)) (g := gName 4) (fun j H' => H' D = some (.lst ((dueR ws (g.take j)).map V.ref)) ∧ Same H1 H') ⟨upd_same, Same.new hD⟩ (fun j H' _ h => SqL.of (h.2 _ _ hr2)) ?_ ?_
  · rintro j v H' hv ⟨hc, s2⟩
    rw [List.getElem?_map] at hv
    obtain ⟨n, hn, rfl⟩ := Option.map_eq_some_iff.mp hv
    have nlt := glo n (List.mem_of_getElem? hn)
    have tk : g.take (j + 1) = g.take j ++ [n] := by rw [List.take_add_one, hn]; rfl
    refine ⟨rfl, _, rfl, _, rfl, p, _, _, .ref (ws.getD n 0), rfl, rfl, SqL.of (s2 _ _ (s1 _ _ hp)), atI_nat (by rw [List.getElem?_map, List.getD_eq_getElem?_getD, List.getElem?_eq_getElem nlt]; rfl), _, hc, ?_, ?_, Same.put s2 hD⟩
    · unfold dueR
      rw [List.length_map, List.length_map, List.length_take]
      exact small1 (by omega)
    · rw [upd_same, tk]
      unfold dueR
      rw [List.map_append, List.map_append]
      rfl
  rintro H2 ⟨hD2, s2⟩
  rw [List.length_map, List.take_length] at hD2
  have hms : AllSh H f (dueR ws g) := fun x hx => by
    obtain ⟨i, hi, rfl⟩ := List.mem_map.mp hx
    have := glo i hi
    refine hws _ ?_
    rw [List.getD_eq_getElem?_getD, List.getElem?_eq_getElem this]
    exact List.getElem_mem _
  have dl0 : (dueR ws g).length = g.length := by unfold dueR; rw [List.length_map]
  generalize dueR ws g = ds at *
  have dl : ds.length ≤ 100 := by omega
  have s3 := s1.trans s2
  have lds : (ds.map V.ref).length = ds.length := List.length_map ..
  refine ⟨_, rfl, u, _, rfl, SqL.of (s3 _ _ hu), ?_⟩
  refine for_it (walk_enum (K := K) (a := u) (xs := ds.map V.ref)) (fun i σ' H' => (∃ o5 o6 : Option V, σ' = [some (.ref p), some (.ref q), some (.ref u), some (.ref D), none, o5, o6]) ∧ Same H H' ∧ H' D = some (.lst (ds.map V.ref))) ⟨⟨_, _, rfl⟩, s3, hD2⟩ (fun i σ' H' _ h => SqL.of (h.2.1 _ _ hu)) ?_ ?_
  · rintro i v σ' H3 H4 hi ⟨⟨o5, o6, rfl⟩, s4, hD4⟩ ⟨T, x1, y, rfl, hT, rfl, ex, ey⟩
    have ex := (Option.some.inj ex).symm
    subst ex
    obtain ⟨y, hy, rfl⟩ := refAt ey
    have il := (List.getElem?_eq_some_iff.mp hy).1
    have hyT := hms y (List.mem_of_getElem? hy)
    have s5 := s4.trans (Same.new (o := .tup [V.int ((i : Nat) : Int), V.ref y]) hT)
    have hD5 := Same.new (o := .tup [V.int ((i : Nat) : Int), V.ref y]) hT _ _ hD4
    refine ⟨T, _, rfl, SqT.of upd_same, rfl, _, _, rfl, _, _, rfl, rfl, ?_⟩
    generalize upd H3 T (.tup [V.int ((i : Nat) : Int), V.ref y]) = H5 at s5 hD5
    refine ⟨_, rfl, _, rfl, D, _, rfl, .inl (SqL.of hD5), rfl, _, rfl, ite2 (fun h1 => ?_) (fun h1 => ?_)⟩
    · have e : i = ds.length := by
        have := V.int.inj (of_decide_eq_true h1)
        rw [lds] at this
        omega
      omega
    · refine ⟨_, rfl, _, rfl, _, rfl, D, _, _, .ref y, rfl, rfl, SqL.of hD5, atI_nat (by rw [List.getElem?_map, hy]; rfl), ⟨pSh (f y), pSh (f y), dpSh (s5 _ _ hyT), dpSh (s5 _ _ hyT), pSh_shaped _, pSh_shaped _, _, rfl, ?_⟩⟩
      rw [pSh_eqv, decide_eq_true rfl]
      exact iteF ⟨⟨_, _, rfl⟩, s5, hD5⟩
  · rintro σ' H3 ⟨⟨o5, o6, rfl⟩, s4, hD4⟩
    refine ⟨_, rfl, u, _, rfl, .inl (SqL.of (s4 _ _ hu)), _, rfl, D, _, rfl, .inl (SqL.of hD4), _, _, rfl, rfl, _, rfl, ?_⟩
    rw [decide_eq_false (by omega)]
    refine iteF ⟨_, rfl, p, _, rfl, .inl (SqL.of (s4 _ _ hp)), fun rr hrr => ?_⟩
    exact k rr _ (Sx.Same.none s4 _ hrr) (s4.trans (Same.new hrr)) upd_same
end
end Sx

set_option Elab.async false
set_option linter.all false
set_option maxRecDepth 100000
set_option maxHeartbeats 2000000
namespace Sx
open PySem PySem.Spec PyProof.Rows L2 SxA SxK
/-- Press(sheets, heap, journal=text) is refused -/
def spRefused (K : PySem.W.Frag) : Sp := fun vs H Q _ => ∃ (a hp l : Addr) (ws us : List V) (c : Int) (t : Str) (m : Nat) (good : Bool), vs = [.ref a, .ref hp, .str t] ∧ H a = some (.lst ws) ∧ HpAt K H hp l us c ∧ JnAt t m good ∧
  (good && (decide ((m : Int) ≤ c) && decide (m ≤ ws.length))) = false ∧ ∀ H', Same H H' → Q (.bl true) H'
section
variable {P : Program} {w : World} {K : PySem.W.Frag} {mg : Str → Option Value} {base : Heap}
abbrev nsLawRefused : List Str := ["sheets", "heap", "text"]
theorem scLawRefused : FnScope nsLawRefused ["sheets", "heap", "text"] (defScope sLawRefused) := ⟨rfl, rfl, rfl, by decide +kernel, rfl, by decide +kernel, by decide +kernel⟩
theorem ok_law_refused (t : T K mg) (px : PexC K mg "InvalidJournal") : Ok P w K mg base 5 "_law_refused" ["sheets", "heap", "text"] (spRefused K) := by
  obtain ⟨fp, FP, _, kb⟩ := ok_press (P := P) (w := w) (base := base) t px
  refine mkOk t.d_law_refused t.g_law_refused scLawRefused (fun vs H Q E h => ?_) (fun _ _ _ _ _ _ us hl => match us, hl with | [_, _, _], _ => rfl) fun cdv A outer s H vs Q E hr h => ?_
  · obtain ⟨a, hp, l, ws, us, c, z, m, good, rfl, _⟩ := h; rfl
  obtain ⟨a, hp, l, ws, us, c, z, m, good, rfl, ha, hh, hj, bad, k⟩ := h
  refine ⟨_, pss_cons (ps_try_only (c := .ref (He.ga K "InvalidJournal")) (tb := fun W => tDrop (tMakeK (He.ga K "Press") 2 1 (spPress K) (fun vs zs => vs ++ zs) (fun cls d H => ∀ σ, W cls d σ H) (tCons (tVar 0) (tCons (tVar 1) tNil)) (tCons (tVar 2) tNil))) (ts := fun a cls d => tRet (tC (.bl true)))
      rfl rfl ⟨rfl, by decide, .inl px.glob⟩ takes0
      (fun W pn xe tk _ => pss_one (ps_expr (pe_makeK (n := 2) (ks := ["journal"]) t.m_Press FP hr rfl t.g_Press kb (passes_call tk fun _ _ σ _ h => h σ) (pa_cons (pv 0) (pa_cons (pv 1) pa_nil)) (pk_cons (pv 2) pk_nil))))
      (fun a oe cls d pn hz2 hf => pss_one (ps_ret pe_bl)))
    (pss_one (ps_ret pe_bl)), ?_⟩
  refine ⟨_, rfl, _, rfl, _, rfl, rfl, rfl, fun x dx hx hdx ne => ?_⟩
  have s2 : Same H (upd (upd H dx (.own x)) x (.ins (He.ga K "Press") dx [])) := Same.put (Same.new hdx) hx
  refine ⟨x, dx, a, hp, l, ws, us, c, z, m, good, rfl, upd_same, s2 _ _ ha, hh.same s2, hj, fun ok => (by rw [bad] at ok; cases ok), fun _ H' s3 => fun σ => ⟨true, px.exm, fun _ a' _ => k H' (s2.trans s3), fun e => (by cases e)⟩⟩
end
end Sx

set_option Elab.async false
set_option linter.all false
set_option maxRecDepth 100000
set_option maxHeartbeats 2000000
namespace Sx
open PySem PySem.Spec PyProof.Rows L2 SxA SxK
/-! ### journals that are cut -/
def nl (n : Nat) : List Nat := (List.range n).flatMap fun k => [100, 111, 110, 101, 32, 48 + k, 10]
theorem sl_notes : ∀ n, n < 7 → sl (notesS n) = nl n := by decide +kernel
theorem nl_end : ∀ n, n < 7 → (nl n = [] ∨ nl n = (nl n).dropLast ++ [10]) ∧ (nl n).count 10 = n ∧ (nl n).length = 7 * n := by decide +kernel
theorem nl_cut : ∀ n, n < 6 → ∀ j, j < 43 → (nl n).take j = nl (min n (j / 7)) ++ ((nl n).take j).drop (7 * min n (j / 7)) ∧ ¬ 10 ∈ ((nl n).take j).drop (7 * min n (j / 7)) ∧ ((nl n).take j).count 10 = min n (j / 7) := by decide +kernel
theorem notes_len {n : Nat} (h : n < 7) : (notesS n).length = 7 * n := by rw [sl_len, sl_notes n h, (nl_end n h).2.2]
theorem jn_whole {n : Nat} (h : n < 7) : JnAt (notesS n) n true := by
  refine ⟨sl (notesS n), [], by rw [List.append_nil], (by simp), ?_, ?_, by omega, ?_, (decide_eq_true rfl).symm⟩
  · rw [sl_notes n h]
    rcases (nl_end n h).1 with e | e
    · exact .inl e
    · exact .inr ⟨_, e⟩
  · rw [sl_notes n h]
    exact (nl_end n h).2.1
  · rw [notes_len h]
    omega
theorem jn_cut {n : Nat} (h : n < 6) {t : Str} {j : Nat} (hj : j < 43) (ht : sl t = (sl (notesS n)).take j) : ∃ m, m ≤ n ∧ JnAt t m true ∧ (sl t).count 10 = m := by
  obtain ⟨h1, h2, h3⟩ := nl_cut n h j hj
  have hm : min n (j / 7) < 7 := by omega
  rw [sl_notes n (by omega)] at ht
  refine ⟨min n (j / 7), Nat.min_le_left _ _, ⟨nl (min n (j / 7)), _, ht.trans h1, h2, ?_, (nl_end _ hm).2.1, by omega, ?_, ?_⟩, by rw [ht]; exact h3⟩
  · rcases (nl_end _ hm).1 with e | e
    · exact .inl e
    · exact .inr ⟨_, e⟩
  · rw [sl_len, ht, List.length_take]
    omega
  · rw [sl_notes _ hm]
    exact (decide_eq_true rfl).symm
theorem jn_bad : JnAt (Str.ofString "done 1\n") 1 false := by
  refine ⟨sl (Str.ofString "done 1\n"), [], by rw [List.append_nil], (by simp), .inr ⟨[100, 111, 110, 101, 32, 49], by decide +kernel⟩, by decide +kernel, by decide, by decide +kernel, by decide +kernel⟩
end Sx

set_option Elab.async false
set_option linter.all false
set_option maxRecDepth 100000
set_option maxHeartbeats 2000000
namespace Sx
open PySem PySem.Spec PyProof.Rows L2 SxA SxK
/-! ### what stands between two deeds -/
def lyR (ws : List Addr) (lv : List Int) : List V := lv.map fun k => V.ref (ws.getD k.toNat 0)
structure Rel5 (c n s d pd : Int) : Prop where
  n0 : 0 ≤ n
  nd : n ≤ d
  dc : d ≤ c
  c5 : c ≤ 5
  s0 : 0 ≤ s
  s5 : s ≤ 5
  l5 : s = 5 → n < d
  mid : 1 ≤ s → s ≤ 4 → d = n ∧ n < c
  pd : pd = if s = 5 then 0 else s
structure Up5 (lv : List Int) (d : Int) : Prop where
  pw : lv.Pairwise (· < ·)
  lo : ∀ k ∈ lv, 0 ≤ k ∧ k < d
  len : (lv.length : Int) ≤ d
theorem Up5.snoc {lv : List Int} {d n : Int} (h : Up5 lv d) (e : n = d) (h0 : 0 ≤ n) : Up5 (lv ++ [n]) (d + 1) where
  pw := by
    rw [List.pairwise_append]
    refine ⟨h.pw, List.pairwise_singleton _ _, fun a ha b hb => ?_⟩
    rw [List.mem_singleton.mp hb, e]
    exact (h.lo a ha).2
  lo := fun k hk => by
    rcases List.mem_append.mp hk with q | q
    · have := h.lo k q; omega
    · rw [List.mem_singleton.mp q]; omega
  len := by
    have := h.len
    rw [List.length_append, List.length_singleton]
    omega
theorem Up5.pop {lv : List Int} {d x : Int} (h : Up5 (lv ++ [x]) d) : Up5 lv d where
  pw := (List.pairwise_append.mp h.pw).1
  lo := fun k hk => h.lo k (List.mem_append_left _ hk)
  len := by
    have := h.len
    rw [List.length_append, List.length_singleton] at this
    omega
structure Q5 (K : PySem.W.Frag) (H : Hp) (r W hp hl p wl m ly : Addr) (f : Addr → Int) (ws : List Addr) (n s d pd : Int) (lv : List Int) : Prop where
  dr : Dr H r
  w : H W = some (.lst (ws.map V.ref))
  sh : AllSh H f ws
  h : HpAt K H hp hl (lyR ws lv) d
  pr : PrAt K H p wl hp n pd
  wL : H wl = some (.lst (ws.map V.ref))
  m : H m = some (.dK (mdK n s (ws.length : Int) ly d))
  lY : H ly = some (.lst (lv.map V.int))
  ne : r ≠ W ∧ r ≠ wl ∧ r ≠ hl ∧ r ≠ ly ∧ W ≠ hl ∧ W ≠ ly ∧ wl ≠ hl ∧ wl ≠ ly ∧ hl ≠ ly ∧ hp ≠ p
  rel : Rel5 (ws.length : Int) n s d pd
  up : Up5 lv d
section
variable {K : PySem.W.Frag} {H H' : Hp} {r W hp hl p wl m ly : Addr} {f : Addr → Int} {ws : List Addr} {n s d pd : Int} {lv : List Int}
theorem Q5.same (q : Q5 K H r W hp hl p wl m ly f ws n s d pd lv) (e : Same H H') : Q5 K H' r W hp hl p wl m ly f ws n s d pd lv :=
  ⟨q.dr.same e, e _ _ q.w, q.sh.same e, q.h.same e, ⟨_, e _ _ q.pr.choose_spec⟩, e _ _ q.wL, e _ _ q.m, e _ _ q.lY, q.ne, q.rel, q.up⟩
/-- only the draws change -/
theorem Q5.take (q : Q5 K H r W hp hl p wl m ly f ws n s d pd lv) (D : Dr H' r) (B : But r H H') : Q5 K H' r W hp hl p wl m ly f ws n s d pd lv := by
  obtain ⟨ns, hr⟩ := q.dr
  obtain ⟨dh, h1⟩ := q.h.ins
  obtain ⟨dp, h2⟩ := q.pr
  obtain ⟨n1, n2, n3, n4, n5, n6, n7, n8, n9, n10⟩ := q.ne
  exact ⟨D, B _ _ q.w n1.symm, fun x hx => B _ _ (q.sh x hx) (ne_of (q.sh x hx) hr (by intro z; cases z)), ⟨⟨dh, B _ _ h1 (ne_of h1 hr (by intro z; cases z))⟩, B _ _ q.h.lst n3.symm⟩, ⟨dp, B _ _ h2 (ne_of h2 hr (by intro z; cases z))⟩, B _ _ q.wL n2.symm, B _ _ q.m (ne_of q.m hr (by intro z; cases z)), B _ _ q.lY n4.symm, q.ne, q.rel, q.up⟩
/-- the model and the press change -/
theorem Q5.move (q : Q5 K H r W hp hl p wl m ly f ws n s d pd lv) {n' s' pd' : Int} (hm : H' m = some (.dK (mdK n' s' (ws.length : Int) ly d))) (hp' : PrAt K H' p wl hp n' pd') (B : ∀ b o, H b = some o → b ≠ m → b ≠ p → H' b = some o) (rel : Rel5 (ws.length : Int) n' s' d pd') : Q5 K H' r W hp hl p wl m ly f ws n' s' d pd' lv := by
  obtain ⟨ns, hr⟩ := q.dr
  obtain ⟨dh, h1⟩ := q.h.ins
  obtain ⟨dp, h2⟩ := q.pr
  obtain ⟨n1, n2, n3, n4, n5, n6, n7, n8, n9, n10⟩ := q.ne
  have k : ∀ {b : Addr} {o : HO}, H b = some o → (∀ kvs, o ≠ .dK kvs) → (∀ a x y, o ≠ .ins a x y) → H' b = some o := fun e z1 z2 => B _ _ e (ne_of e q.m (z1 _)) (ne_of e h2 (z2 _ _ _))
  exact ⟨⟨ns, k hr (by intro _ z; cases z) (by intro _ _ _ z; cases z)⟩, k q.w (by intro _ z; cases z) (by intro _ _ _ z; cases z), fun x hx => k (q.sh x hx) (by intro _ z; cases z) (by intro _ _ _ z; cases z), ⟨⟨dh, B _ _ h1 (ne_of h1 q.m (by intro z; cases z)) n10⟩, k q.h.lst (by intro _ z; cases z) (by intro _ _ _ z; cases z)⟩, hp', k q.wL (by intro _ z; cases z) (by intro _ _ _ z; cases z), hm, k q.lY (by intro _ z; cases z) (by intro _ _ _ z; cases z), q.ne, rel, q.up⟩
end
theorem lyR_snoc (ws : List Addr) (lv : List Int) (x : Int) : lyR ws (lv ++ [x]) = lyR ws lv ++ [V.ref (ws.getD x.toNat 0)] := by
  unfold lyR
  rw [List.map_append]
  rfl
theorem word_stage {s : Int} (h0 : 0 ≤ s) (h4 : s < 4) {z z2 : Str} (h : atI (stageS.map V.str) s = some (.str z)) (h2 : atI (wordS.map V.str) s = some (.str z2)) : z = z2 := by
  have : s = 0 ∨ s = 1 ∨ s = 2 ∨ s = 3 := by omega
  rcases this with rfl | rfl | rfl | rfl <;> (cases h; cases h2; rfl)
theorem step_same {ws : List Addr} {n st d pd : Int} {lv : List Int} {z : Str} {n' pd' : Int} {us' : List V} {c' : Int} {z2 : Str} {n2' s' : Int} {lv' : List Int} {d' : Int} (g : Rel5 (ws.length : Int) n st d pd) (up : Up5 lv d)
    (S : PStep n pd (ws.map V.ref) (lyR ws lv) d z n' pd' us' c') (D : DueStep n st (ws.length : Int) d lv z2 n2' s' lv' d') : z = z2 ∧ n' = n2' ∧ us' = lyR ws lv' ∧ c' = d' ∧ Rel5 (ws.length : Int) n2' s' d' pd' ∧ Up5 lv' d' := by
  have wsl : ((ws.map V.ref).length : Int) = (ws.length : Int) := by rw [List.length_map]
  obtain ⟨n0, nd, dc, c5, s0, s5, l5, mid, hpd⟩ := g
  have pd5 : st = 5 → pd = 0 := fun e => by rw [hpd, if_pos e]
  have pdn : st ≠ 5 → pd = st := fun e => by rw [hpd, if_neg e]
  cases D with
  | over h =>
    have hs : st = 0 := by
      by_cases e : st = 5
      · have := l5 e; omega
      · by_cases e1 : 1 ≤ st
        · have := mid e1 (by omega); omega
        · omega
    have hp0 : pd = 0 := by rw [pdn (by omega)]; exact hs
    cases S with
    | over h0 h1 => exact ⟨rfl, rfl, rfl, rfl, ⟨n0, nd, dc, c5, s0, s5, l5, mid, hpd⟩, up⟩
    | note h0 h1 h2 => rw [wsl] at h1; exact absurd h h1
    | drop hd v hv => omega
    | word z h1 h2 hd hz => rw [wsl] at h1; exact absurd ⟨hp0, h⟩ h1
  | note h h2 =>
    have hp0 : pd = 0 := by
      by_cases e : st = 5
      · exact pd5 e
      · by_cases e1 : 1 ≤ st
        · have := mid e1 (by omega); omega
        · rw [pdn e]; omega
    cases S with
    | over h0 h1 => rw [wsl] at h1; exact absurd h1 h
    | note h0 h1 h3 => exact ⟨rfl, rfl, rfl, rfl, ⟨by omega, by omega, dc, c5, by omega, by omega, fun e => by omega, fun a b => by omega, by rw [hp0]; rfl⟩, up⟩
    | drop hd v hv => omega
    | word z h1 h3 hd hz => exact absurd ⟨hp0, h2⟩ h3
  | word z2 h h2 hs hz2 =>
    have hp : pd = st := pdn (by omega)
    cases S with
    | over h0 h1 => rw [wsl] at h1; exact absurd h1 h
    | note h0 h1 h3 => exact absurd h3 h2
    | drop hd v hv => omega
    | word z h1 h3 hd hz =>
      rw [hp] at hz
      refine ⟨word_stage s0 hs hz hz2, rfl, rfl, rfl, ⟨n0, nd, dc, c5, by omega, by omega, fun e => by omega, fun a b => by omega, ?_⟩, up⟩
      rw [if_neg (by omega), hp]
  | drop h h2 hs =>
    have hp : pd = 4 := by rw [pdn (by omega)]; exact hs
    cases S with
    | over h0 h1 => omega
    | note h0 h1 h3 => omega
    | drop hd v hv =>
      have hnd : n = d := by omega
      refine ⟨rfl, rfl, ?_, rfl, ⟨n0, by omega, by omega, c5, by omega, by omega, fun e => by omega, fun a b => by omega, ?_⟩, up.snoc hnd n0⟩
      · rw [lyR_snoc]
        congr 2
        rw [show n = ((n.toNat : Nat) : Int) by omega] at hv
        have e := hv.symm.trans (atI_nat (j := n.toNat) (v := .ref (ws.getD n.toNat 0)) (by rw [List.getElem?_map, List.getD_eq_getElem?_getD, List.getElem?_eq_getElem (by omega)]; rfl))
        exact Option.some.inj e
      · rw [if_pos (by omega)]
    | word z h1 h3 hd hz => omega
def spDeed (K : PySem.W.Frag) : Sp := fun vs H Q _ => ∃ (r W hp hl p wl m ly : Addr) (f : Addr → Int) (ws : List Addr) (n s d pd : Int) (lv : List Int), vs = [.ref r, .ref W, .ref hp, .ref p, .ref m] ∧ Q5 K H r W hp hl p wl m ly f ws n s d pd lv ∧
  ∀ T p' wl' n' s' d' pd' lv' H', Q5 K H' r W hp hl p' wl' m ly f ws n' s' d' pd' lv' → H' T = some (.tup [.ref p', .bl true]) → Q (.ref T) H'
section
variable {P : Program} {w : World} {K : PySem.W.Frag} {mg : Str → Option Value} {base : Heap}
abbrev nsLawDeed : List Str := ["row", "sheets", "heap", "press", "model", "turn", "spoilt", "text", "kept", "char", "due"]
theorem scLawDeed : FnScope nsLawDeed ["row", "sheets", "heap", "press", "model"] (defScope sLawDeed) := ⟨rfl, rfl, rfl, by decide +kernel, rfl, by decide +kernel, by decide +kernel⟩
theorem ok_law_deed (t : T K mg) (ip : InP K) (px : PexC K mg "InvalidJournal") : Ok P w K mg base 5 "_law_deed" ["row", "sheets", "heap", "press", "model"] (spDeed K) := by
  obtain ⟨fp, FP, _, kb⟩ := ok_press (P := P) (w := w) (base := base) t px
  refine mkOk t.d_law_deed t.g_law_deed scLawDeed (fun vs H Q E h => ?_) (fun _ _ _ _ _ _ us hl => match us, hl with | [_, _, _, _, _], _ => rfl) fun cdv A outer s H vs Q E hr h => ?_
  · obtain ⟨r, W, hp, hl, p, wl, m, ly, f, ws, n, s, d, pd, lv, rfl, _⟩ := h; rfl
  obtain ⟨r, W, hp, hl, p, wl, m, ly, f, ws, n, st, d, pd, lv, rfl, q, k⟩ := h
  have hr1 : Room 1 _ := hr.mono (by decide)
  have hr2 : Room 2 _ := hr.mono (by decide)
  have hr4 : Room 4 _ := hr.mono (by decide)
  refine ⟨_, pss_cons (ps_set (i := 5) scLawDeed.nd rfl (Or.inl rfl) (pe_ok (ok_law_take t) hr1 rfl (pa_cons (pv 0) (pa_cons pe_int pa_nil))))
    (pss_cons (ps_if (pt_cmpR op_eq (pv 5) pe_int (nomark _))
      (pss_cons (ps_set (i := 6) scLawDeed.nd rfl (Or.inl rfl) (pe_cmpR op_notN (pe_ok (ok_law_inside t) hr1 rfl (pa_cons (pv 4) pa_nil)) pe_non (nomark _)))
    (C8.pss_cut (ps_if (pt_val (pv 6))
      (pss_one (ps_dput (hu_of hr) (pv 4) pe_str pe_int rfl))
      pss_nil)
    (pss_one (ps_ret (pe_tup (pa_cons (pv 3) (pa_cons (pe_cmpR op_eq (pe_met0 (met_Press_jam t) t.c_Press t.k_Press_jam hr1 (pv 3)) (pv 6) (nomark _)) pa_nil)))))))
      pss_nil)
    (pss_cons (ps_if (pt_cmpR op_eq (pv 5) pe_int (nomark _))
      (pss_cons (ps_set (i := 7) scLawDeed.nd rfl (Or.inl rfl) (pe_met0 (met_Press_journal t) t.c_Press t.k_Press_journal hr2 (pv 3)))
    (pss_cons (ps_set (i := 8) scLawDeed.nd rfl (Or.inl rfl) (pe_slice sl_str (pv 7) po_none (po_some (pe_ok (ok_law_take t) hr1 rfl (pa_cons (pv 0) (pa_cons (pe_op op_add (pe_callB call_len_str rfl t.f_len boot_len (pa_cons (pv 7) pa_nil)) pe_int) pa_nil))))))
    (pss_cons (ps_dput (hu_of hr) (pv 4) pe_str (pe_callB call_len_seq rfl t.f_len boot_len (pa_cons (pe_lc (own := [("char", 9)]) (g := gName 9) rfl scLawDeed.nd (pi_str (pv 8)) (blkOk_by (own := [("char", 9)]) (N := nsLawDeed) (sc := defScope sLawDeed) (by decide +kernel)) (fun _ _ _ _ _ => pg_name (i := 9) scLawDeed.nd rfl (Or.inl rfl)) (fun _ _ _ _ _ => pts_one (pt_cmpR op_eq (pv 9) pe_str (nomark _))) (fun _ _ _ _ _ => (pv 9))) pa_nil)) rfl)
    (pss_cons (ps_dput (hu_of hr) (pv 4) pe_str pe_int rfl)
    (pss_one (ps_ret (pe_tup (pa_cons (pe_makeK (n := 2) (ks := ["journal"]) t.m_Press FP hr4 rfl t.g_Press kb (passes_call takes0 fun _ _ _ _ h => h) (pa_cons (pe_callTy call_list_of rfl t.f_list (by decide +kernel) (pa_cons (pv 1) pa_nil)) (pa_cons (pv 2) pa_nil)) (pk_cons (pv 8) pk_nil)) (pa_cons pe_bl pa_nil)))))))))
      pss_nil)
    (C8.pss_cut (ps_if (PW.pt (pw_and (pt_cmpR op_eq (pv 5) pe_int (nomark _)) (pw_and1 (pt_cmpR op_eq (pe_ok (ok_law_take t) hr1 rfl (pa_cons (pv 0) (pa_cons pe_int pa_nil))) pe_int (nomark _)))))
      (pss_cons (ps_set (i := 10) scLawDeed.nd rfl (Or.inl rfl) pe_non)
    (C8.pss_cut (ps_if (pt_truth (pe_dget (hu_of hr) (pv 4) pe_str (fun _ _ => rfl)) (by intro _; rfl))
      (pss_one (ps_set (i := 10) scLawDeed.nd rfl (Or.inl rfl) (pe_ix ix_list (pv 1) (pe_bm0 PySem.F.plainAttrs_list PySem.F.slot_list_pop PySem.F.type_list_pop mt_pop (pe_dget (hu_of hr) (pv 4) pe_str (fun _ _ => rfl))) (fun _ _ => rfl))))
      pss_nil)
    (pss_one (ps_ret (pe_tup (pa_cons (pv 3) (pa_cons (pe_cmpR (op_eqD (hu64 hr)) (pe_met0 (met_Heap_fall t) t.c_Heap t.k_Heap_fall hr1 (pv 2)) (pv 10) (nomark _)) pa_nil)))))))
      pss_nil)
    (pss_one (ps_ret (pe_tup (pa_cons (pv 3) (pa_cons (pe_cmpR op_eq (pe_met0 (met_Press_step t ip) t.c_Press t.k_Press_step hr2 (pv 3)) (pe_ok (ok_law_due t) hr1 rfl (pa_cons (pv 4) pa_nil)) (nomark _)) pa_nil)))))))), ?_⟩
  have ieq : ∀ (x y : Int), decide (V.int x = V.int y) = decide (x = y) := fun x y => decide_eq_decide.mpr ⟨fun e => V.int.inj e, fun e => by rw [e]⟩
  have l5 : ∀ {n s c d : Int}, (mdK n s c ly d).length < sizeLine := fun {n s c d} => (by show 5 < sizeLine; decide)
  refine ⟨_, rfl, r, 14, rfl, q.dr, by decide, fun v H1 v0 v1 D1 B1 => ?_⟩
  have q := q.take D1 B1
  refine ⟨_, rfl, rfl, _, rfl, ?_⟩
  rw [ieq]
  have rel := q.rel
  have up := q.up
  obtain ⟨n1, n2, n3, n4, n5, n6, n7, n8, n9, n10⟩ := q.ne
  obtain ⟨dp, hpr⟩ := q.pr
  obtain ⟨dh, hhi⟩ := q.h.ins
  have nmp : m ≠ p := ne_of q.m hpr (by intro z; cases z)
  have nmh : m ≠ hp := ne_of q.m hhi (by intro z; cases z)
  refine ite2 (fun c0 => ?_) (fun c0 => ?_)
  · obtain ⟨sp, hsp⟩ : ∃ b : Bool, b = decide (1 ≤ st ∧ st ≤ 4) := ⟨_, rfl⟩
    have hjam : decide (pd > 0) = sp := by
      rw [hsp]
      refine decide_eq_decide.mpr ?_
      have := rel.pd
      have := rel.s0
      have := rel.s5
      split at * <;> omega
    refine ⟨_, rfl, m, n, st, _, ly, d, rfl, q.m, fun v2 H2 s2 hv => ⟨rfl, ?_⟩⟩
    have hv2 : (!decide (v2 = V.non)) = sp := by
      rcases hv with ⟨a1, a2, T, z, rfl, _⟩ | ⟨a, rfl⟩
      · rw [hsp, decide_eq_true (show 1 ≤ st ∧ st ≤ 4 from ⟨a1, a2⟩)]; rfl
      · rw [hsp, decide_eq_false a]; rfl
    rw [hv2]
    have q2 := q.same s2
    refine ⟨fun σ2 H3 => σ2 = [some (.ref r), some (.ref W), some (.ref hp), some (.ref p), some (.ref m), some (.int v), some (.bl sp), none, none, none, none] ∧ H3 m = some (.dK (mdK n (if sp = true then 0 else st) (ws.length : Int) ly d)) ∧ But m H2 H3, ?_, ?_⟩
    · refine ⟨_, rfl, sp, rfl, ?_⟩
      cases sp with
      | false => exact iteF ⟨rfl, q2.m, fun b o e _ => e⟩
      | true =>
        refine iteT ⟨_, rfl, m, _, rfl, DPut.k (k := .inr "stage") q2.m l5, ?_⟩
        rw [mp_s]
        exact ⟨rfl, upd_same, fun b o e n => by rw [upd_ne n]; exact e⟩
    rintro σ2 H3 ⟨rfl, hm3, B3⟩
    have hp3 := B3 _ _ (s2 _ _ hpr) nmp.symm
    refine ⟨_, rfl, _, rfl, p, dp, _, rfl, hp3, rfl, p, wl, hp, n, pd, rfl, ⟨dp, hp3⟩, fun H4 hP4 B4 => ⟨_, rfl, rfl, (by show 2 ≤ sizeLine; decide), fun T hT => ?_⟩⟩
    rw [hjam, decide_eq_true rfl]
    refine k T p wl n (if sp = true then 0 else st) d 0 lv _ ((q2.move (B4 _ _ hm3 nmp) hP4 (fun b o e a1 a2 => B4 _ _ (B3 _ _ e a1) a2) ?_).same (Same.new hT)) upd_same
    have g := rel
    constructor
    · exact g.n0
    · exact g.nd
    · exact g.dc
    · exact g.c5
    · split
      · omega
      · exact g.s0
    · split
      · omega
      · exact g.s5
    · intro e
      split at e
      · cases e
      · exact g.l5 e
    · intro a b
      split at a
      · omega
      · exfalso
        rename_i hn
        apply hn
        rw [hsp]
        split at b
        · rename_i hn2
          exact absurd hn2 hn
        · exact decide_eq_true ⟨a, b⟩
    · split
      · rfl
      · split
        · rfl
        · rename_i h1 h2
          rw [hsp] at h1
          have : ¬ (1 ≤ st ∧ st ≤ 4) := fun e => h1 (decide_eq_true e)
          have := g.s0
          have := g.s5
          omega
  refine ⟨_, rfl, rfl, _, rfl, ?_⟩
  rw [ieq]
  refine ite2 (fun c1 => ?_) (fun c1 => ?_)
  · obtain ⟨nn, rfl⟩ : ∃ nn : Nat, n = (nn : Int) := ⟨n.toNat, by have := rel.n0; omega⟩
    have nn5 : nn ≤ 5 := by have := rel.nd; have := rel.dc; have := rel.c5; omega
    refine ⟨_, rfl, p, dp, _, rfl, hpr, rfl, p, wl, hp, nn, pd, rfl, ⟨dp, hpr⟩, by omega, fun H2 s2 => ?_⟩
    have q2 := q.same s2
    have nlen := notes_len (n := nn) (by omega)
    refine ⟨_, rfl, _, rfl, _, rfl, notesS nn, rfl, by rw [nlen, sizeLine_eq]; omega, _, _, rfl, rfl, ?_⟩
    rw [nlen]
    refine ⟨r, _, rfl, q2.dr, by omega, fun j H3 j0 j1 D3 B3 => ⟨j, rfl, notesS nn, rfl, by rw [nlen, sizeLine_eq]; omega, ?_⟩⟩
    have q3 := q2.take D3 B3
    obtain ⟨jn, rfl⟩ : ∃ jn : Nat, j = (jn : Int) := ⟨j.toNat, by omega⟩
    have hcut : sl (cutS (notesS nn) none (some (jn : Int))) = (sl (notesS nn)).take jn := by
      unfold cutS
      rw [HT.sIx_none, HT.sIx_nat, List.drop_zero, Nat.sub_zero]
      show (sl (notesS nn)).take (min jn (notesS nn).length) = _
      rw [Nat.min_eq_left (by omega)]
    obtain ⟨m', hm', hj, hcnt⟩ := jn_cut (n := nn) (by omega) (j := jn) (by omega) hcut
    generalize cutS (notesS nn) none (some (jn : Int)) = kt at hj hcnt hcut
    have ktl : kt.length ≤ 100 := by
      rw [sl_len, hcut, List.length_take]
      omega
    refine ⟨_, rfl, kt, rfl, fun D hD => ?_⟩
    refine lc_it (walk_str (z := kt)) (g := gName 9) (fun i H' => ∃ acc : List V, H' D = some (.lst acc) ∧ acc.length = ((sl kt).take i).count 10 ∧ Same H3 H') ⟨[], upd_same, rfl, Same.new hD⟩ (fun _ _ _ _ => trivial) ?_ ?_
    · rintro i x H4 H5 hi ⟨acc, hacc, la, s4⟩ ⟨rfl, c, hc, rfl⟩
      have hc' : (sl kt)[i]? = some c := by rw [← hc]; simp
      have il := (List.getElem?_eq_some_iff.mp hc').1
      have tk : (sl kt).take (i + 1) = (sl kt).take i ++ [c] := by rw [List.take_add_one, hc']; rfl
      have hle : ((sl kt).take i).count 10 ≤ i := Nat.le_trans List.count_le_length (by rw [List.length_take]; omega)
      have kl : (sl kt).length ≤ 100 := by rw [← sl_len]; exact ktl
      refine ⟨rfl, _, rfl, rfl, _, rfl, ?_⟩
      have hdec : decide (V.str ⟨#[c]⟩ = V.str (Str.ofString "\n")) = decide (c = 10) := by
        refine decide_eq_decide.mpr ⟨fun e => ?_, fun e => by rw [e]; rfl⟩
        have := congrArg sl (V.str.inj e)
        have e2 : sl (Str.ofString "\n") = [10] := by decide +kernel
        rw [e2] at this
        exact (List.cons.inj this).1
      show ite (decide (V.str ⟨#[c]⟩ = V.str (Str.ofString "\n")) = true) _ _
      rw [hdec]
      refine ite2 (fun h => ?_) (fun h => ?_)
      · have : c = 10 := of_decide_eq_true h
        subst this
        refine ⟨_, rfl, acc, hacc, small1 (by omega), acc ++ [_], upd_same, ?_, Same.put s4 hD⟩
        rw [tk, List.length_append, la, List.count_append]
        rfl
      · have : ¬ c = 10 := fun e => h (decide_eq_true e)
        refine ⟨acc, hacc, ?_, s4⟩
        rw [tk, List.count_append, la]
        have : List.count 10 [c] = 0 := List.count_eq_zero.mpr (by simp; exact fun e => this e.symm)
        omega
    rintro H4 ⟨acc, hacc, la, s4⟩
    have ksz : kt.cps.size = (sl kt).length := by simp
    rw [ksz, List.take_length, hcnt] at la
    have q4 := q3.same s4
    refine ⟨D, acc, rfl, .inl (SqL.of hacc), _, rfl, m, _, rfl, DPut.k (k := .inr "noted") q4.m l5, ?_⟩
    rw [mp_n, la]
    refine ⟨_, rfl, m, _, rfl, DPut.k (k := .inr "stage") upd_same l5, ?_⟩
    rw [mp_s, upd_upd]
    have hm5 := upd_same (H := H4) (a := m) (o := .dK (mdK (m' : Int) 0 (ws.length : Int) ly d))
    have B5 : But m H4 (upd H4 m (.dK (mdK (m' : Int) 0 (ws.length : Int) ly d))) := fun b o e n => by rw [upd_ne n]; exact e
    generalize upd H4 m (.dK (mdK (m' : Int) 0 (ws.length : Int) ly d)) = H5 at hm5 B5
    have nW : W ≠ m := ne_of q4.w q4.m (by intro z; cases z)
    refine ⟨_, rfl, W, _, rfl, .inl (SqL.of (B5 _ _ q4.w nW)), fun wc hwc => ⟨_, rfl, _, rfl, rfl, rfl, fun x dx hx hdx nex => ?_⟩⟩
    have s6 : Same H5 (upd (upd (upd H5 wc (.lst (ws.map V.ref))) dx (.own x)) x (.ins (He.ga K "Press") dx [])) := (Same.new hwc).trans (Same.put (Same.new hdx) hx)
    have hx5 : H5 x = none := Sx.Same.none (Same.new hwc) _ hx
    have hh4 : HpAt K H5 hp hl (lyR ws lv) d := by
      obtain ⟨dh4, h4⟩ := q4.h.ins
      exact ⟨⟨dh4, B5 _ _ h4 (ne_of h4 q4.m (by intro z; cases z))⟩, B5 _ _ q4.h.lst (ne_of q4.h.lst q4.m (by intro z; cases z))⟩
    have gok : (true && (decide ((m' : Int) ≤ d) && decide (m' ≤ (ws.map V.ref).length))) = true := by
      have := rel.nd
      have := rel.dc
      rw [List.length_map, decide_eq_true (by omega), decide_eq_true (by omega)]
      rfl
    refine ⟨x, dx, wc, hp, hl, ws.map V.ref, lyR ws lv, d, kt, m', true, rfl, upd_same, ?_, hh4.same s6, hj, fun _ H7 wl' hwl hP7 hw7 B7 => ⟨rfl, (by show 2 ≤ sizeLine; decide), fun T hT => ?_⟩, fun z => (by rw [gok] at z; cases z)⟩
    · have nwx : wc ≠ x := fun e => by rw [e, upd_same] at hx; cases hx
      have nwd : wc ≠ dx := fun e => by rw [e, upd_same] at hdx; cases hdx
      rw [upd_ne nwx, upd_ne nwd, upd_same]
    have s7 : Same H5 H7 := fun b o e => B7 _ _ (s6 _ _ e) (ne_of_none e hx5)
    have fr : ∀ {b o}, H4 b = some o → b ≠ m → H7 b = some o := fun e n => s7 _ _ (B5 _ _ e n)
    have nol : ∀ {b o}, H4 b = some o → b ≠ m → b ≠ wl' := fun e n z => by
      have := s6 _ _ (B5 _ _ e n)
      rw [z, hwl] at this
      cases this
    obtain ⟨ns, hr4'⟩ := q4.dr
    have nrm : r ≠ m := ne_of hr4' q4.m (by intro z; cases z)
    obtain ⟨dh4, h4⟩ := q4.h.ins
    have g : Q5 K H7 r W hp hl x wl' m ly f ws (m' : Int) 0 d 0 lv := by
      refine ⟨⟨ns, fr hr4' nrm⟩, fr q4.w nW, fun y hy => fr (q4.sh y hy) (ne_of (q4.sh y hy) q4.m (by intro z; cases z)), hh4.same s7, hP7, hw7, s7 _ _ hm5, fr q4.lY (ne_of q4.lY q4.m (by intro z; cases z)), ?_, ?_, up⟩
      · exact ⟨n1, nol hr4' nrm, n3, n4, n5, n6, (nol q4.h.lst (ne_of q4.h.lst q4.m (by intro z; cases z))).symm, (nol q4.lY (ne_of q4.lY q4.m (by intro z; cases z))).symm, n9, ne_of_none (B5 _ _ h4 (ne_of h4 q4.m (by intro z; cases z))) hx5⟩
      · exact ⟨by omega, by have := rel.nd; omega, rel.dc, rel.c5, by omega, by omega, fun e => by omega, fun a b => by omega, rfl⟩
    exact k T x wl' (m' : Int) 0 d 0 lv _ (g.same (Same.new hT)) upd_same
  refine ⟨fun σ2 H3 => σ2 = [some (.ref r), some (.ref W), some (.ref hp), some (.ref p), some (.ref m), some (.int v), none, none, none, none, none] ∧ Q5 K H3 r W hp hl p wl m ly f ws n st d pd lv, ?_, ?_⟩
  · refine ⟨_, rfl, rfl, _, rfl, ?_⟩
    rw [ieq]
    refine ite2 (fun c2 => ?_) (fun c2 => ⟨rfl, q⟩)
    refine ⟨_, rfl, r, 3, rfl, q.dr, by decide, fun v2 H2 w0 w1 D2 B2 => ?_⟩
    have q := q.take D2 B2
    refine ⟨rfl, _, rfl, ?_⟩
    rw [ieq]
    refine ite2 (fun c3 => ?_) (fun c3 => ⟨rfl, q⟩)
    have lvl : lv.length ≤ 100 := by have := up.len; have := rel.dc; have := rel.c5; omega
    refine ⟨fun σ2 H3 => ∃ dv : V, σ2 = [some (.ref r), some (.ref W), some (.ref hp), some (.ref p), some (.ref m), some (.int v), none, none, none, none, some dv] ∧ ((lv = [] ∧ dv = .non ∧ H3 = H2) ∨ ∃ lv' x, lv = lv' ++ [x] ∧ dv = .ref (ws.getD x.toNat 0) ∧ ws.getD x.toNat 0 ∈ ws ∧ H3 = upd H2 ly (.lst (lv'.map V.int))), ?_, ?_⟩
    · refine ⟨_, rfl, m, .ref ly, rfl, DGet.k (k := .inr "lying") q.m, !(lv.map V.int).isEmpty, .inl ⟨_, SqL.of q.lY, rfl⟩, ?_⟩
      rcases List.eq_nil_or_concat lv with e | ⟨lv', x, e⟩
      · subst e
        exact iteF ⟨_, rfl, .inl ⟨rfl, rfl, rfl⟩⟩
      · rw [List.concat_eq_append] at e
        subst e
        have he : (!((lv' ++ [x]).map V.int).isEmpty) = true := by
          rw [List.map_append]
          cases lv'.map V.int <;> rfl
        rw [he]
        have hx := up.lo x (List.mem_append_right _ (List.mem_singleton.mpr rfl))
        have hxl : x.toNat < ws.length := by have := rel.dc; omega
        have hl0 : ((lv' ++ [x]).map V.int)[((lv' ++ [x]).map V.int).length - 1]? = some (.int x) := by
          rw [List.map_append, List.length_append, List.getElem?_append_right (by show _ ≤ _ + 1 - 1; omega)]
          show [V.int x][(lv'.map V.int).length + 1 - 1 - (lv'.map V.int).length]? = _
          rw [show (lv'.map V.int).length + 1 - 1 - (lv'.map V.int).length = 0 by omega]
          rfl
        have hdl : ((lv' ++ [x]).map V.int).dropLast = lv'.map V.int := by
          rw [List.map_append]
          exact List.dropLast_concat
        have nWly : W ≠ ly := n6
        refine iteT ⟨_, rfl, _, rfl, m, .ref ly, rfl, DGet.k (k := .inr "lying") q.m, .inl ⟨rfl, _, SqL.of q.lY⟩, ly, _, _, rfl, rfl, q.lY, hl0, W, _, x, .ref (ws.getD x.toNat 0), rfl, rfl, SqL.of (by rw [upd_ne nWly]; exact q.w), ?_, ?_⟩
        · rw [show x = ((x.toNat : Nat) : Int) by omega]
          refine atI_nat ?_
          rw [List.getElem?_map, List.getD_eq_getElem?_getD, Int.toNat_natCast, List.getElem?_eq_getElem hxl]
          rfl
        · rw [hdl]
          refine ⟨_, rfl, .inr ⟨lv', x, rfl, rfl, ?_, rfl⟩⟩
          rw [List.getD_eq_getElem?_getD, List.getElem?_eq_getElem hxl]
          exact List.getElem_mem _
    rintro σ2 H3 ⟨dv, rfl, hcase⟩
    have hh3 : HpAt K H3 hp hl (lyR ws lv) d := by
      rcases hcase with ⟨_, _, rfl⟩ | ⟨lv', x, _, _, _, rfl⟩
      · exact q.h
      · obtain ⟨dh2, h2⟩ := q.h.ins
        exact ⟨⟨dh2, by rw [upd_ne (ne_of h2 q.lY (by intro z; cases z))]; exact h2⟩, by rw [upd_ne n9]; exact q.h.lst⟩
    obtain ⟨dh3, h3⟩ := hh3.ins
    refine ⟨_, rfl, _, rfl, hp, dh3, _, rfl, h3, rfl, hp, hl, lyR ws lv, d, rfl, hh3, fun e => ?_, fun us vv e H4 S4 B4 => ?_⟩
    · rcases hcase with ⟨rfl, rfl, rfl⟩ | ⟨lv', x, rfl, _, _, _⟩
      · refine ⟨_, rfl, .none, .none, .non, .non, by decide, by decide, (by show 2 ≤ sizeLine; decide), fun T hT => ?_⟩
        have : PyData.eqv .none .none = true := by decide
        rw [this]
        exact k T p wl n st d pd [] _ (q.same (Same.new hT)) upd_same
      · unfold lyR at e
        simp at e
    · rcases hcase with ⟨rfl, rfl, rfl⟩ | ⟨lv', x, rfl, rfl, hmem, rfl⟩
      · unfold lyR at e
        simp at e
      · unfold lyR at e
        rw [List.map_append] at e
        obtain ⟨e1, e2⟩ := List.append_inj' e rfl
        have e3 : V.ref (ws.getD x.toNat 0) = vv := (List.cons.inj e2).1
        subst e3
        have kp : ∀ {b o}, H2 b = some o → b ≠ ly → b ≠ hl → H4 b = some o := fun e a1 a2 => B4 _ _ (by rw [upd_ne a1]; exact e) a2
        obtain ⟨ns, hr2⟩ := q.dr
        have shx := q.sh _ hmem
        have offl : ∀ {b xs}, H2 b = some (.tup xs) → H4 b = some (.tup xs) := fun e => kp e (ne_of e q.lY (by intro z; cases z)) (ne_of e q.h.lst (by intro z; cases z))
        refine ⟨_, rfl, pSh (f (ws.getD x.toNat 0)), pSh (f (ws.getD x.toNat 0)), dpSh (offl shx), dpSh (offl shx), pSh_shaped _, pSh_shaped _, (by show 2 ≤ sizeLine; decide), fun T hT => ?_⟩
        rw [pSh_eqv, decide_eq_true rfl]
        have hly4 : H4 ly = some (.lst (lv'.map V.int)) := B4 _ _ upd_same n9.symm
        obtain ⟨dp2, hp2⟩ := q.pr
        have g : Q5 K H4 r W hp hl p wl m ly f ws n st d pd lv' := by
          refine ⟨⟨ns, kp hr2 n4 n3⟩, kp q.w n6 n5, fun y hy => offl (q.sh y hy), ?_, ⟨dp2, kp hp2 (ne_of hp2 q.lY (by intro z; cases z)) (ne_of hp2 q.h.lst (by intro z; cases z))⟩, kp q.wL n8 n7, kp q.m (ne_of q.m q.lY (by intro z; cases z)) (ne_of q.m q.h.lst (by intro z; cases z)), hly4, q.ne, rel, up.pop⟩
          have e4 : us = lyR ws lv' := e1.symm
          rw [← e4]
          exact S4
        exact k T p wl n st d pd lv' _ (g.same (Same.new hT)) upd_same
  rintro σ2 H3 ⟨rfl, q⟩
  obtain ⟨dp, hpr⟩ := q.pr
  obtain ⟨dh, hhi⟩ := q.h.ins
  have g := q.rel
  have up := q.up
  have wsl : (ws.map V.ref).length = ws.length := List.length_map ..
  have lyl : (lyR ws lv).length = lv.length := by unfold lyR; rw [List.length_map]
  have lvl : lv.length ≤ 100 := by have := up.len; have := rel.dc; have := rel.c5; omega
  have pd0 : 0 ≤ pd ∧ pd ≤ 4 := by
    have := g.pd
    have := g.s0
    have := g.s5
    split at * <;> omega
  refine ⟨_, rfl, _, rfl, p, dp, _, rfl, hpr, rfl, p, wl, hp, n, pd, ws.map V.ref, lyR ws lv, hl, d, rfl, ⟨dp, hpr⟩, q.wL, q.h, n10.symm, by rw [lyl]; omega, pd0.1, pd0.2, fun e => ?_, fun z n' pd' us' c' H4 S hP4 hH4 B4 => ?_⟩
  · have : 1 ≤ st ∧ st ≤ 4 := by
      have := g.pd
      have := g.s0
      have := g.s5
      split at * <;> omega
    have h1 := g.mid this.1 this.2
    have := g.n0
    refine ⟨.ref (ws.getD n.toNat 0), ?_⟩
    rw [show n = ((n.toNat : Nat) : Int) by omega]
    refine atI_nat ?_
    rw [List.getElem?_map, List.getD_eq_getElem?_getD, Int.toNat_natCast, List.getElem?_eq_getElem (by omega)]
    rfl
  have keep : ∀ {b o}, H3 b = some o → b ≠ p → b ≠ hp → b ≠ hl → H4 b = some o := fun e a1 a2 a3 => B4 _ _ e a1 a2 a3
  have keepK : ∀ {b o}, H3 b = some o → (∀ a x y, o ≠ .ins a x y) → b ≠ hl → H4 b = some o := fun e z1 a3 => keep e (ne_of e hpr (z1 _ _ _)) (ne_of e hhi (z1 _ _ _)) a3
  have hm4 := keepK q.m (by intro _ _ _ z; cases z) (ne_of q.m q.h.lst (by intro z; cases z))
  have hly4 := keepK q.lY (by intro _ _ _ z; cases z) n9.symm
  refine ⟨_, rfl, m, n, st, _, ly, d, lv, rfl, hm4, hly4, by omega, ?_, fun z2 n2' s' lv' d' H5 D hm5 hly5 B5 => ?_⟩
  · by_cases e : st = 5
    · exact .inr (.inl (g.l5 e))
    · refine .inr (.inr ⟨g.s0, ?_⟩)
      have := g.s5
      omega
  have nmp : m ≠ p := ne_of q.m hpr (by intro z; cases z)
  have key : z = z2 ∧ n' = n2' ∧ us' = lyR ws lv' ∧ c' = d' ∧ Rel5 (ws.length : Int) n2' s' d' pd' ∧ Up5 lv' d' := step_same g up S D
  obtain ⟨rfl, rfl, rfl, rfl, rel', up'⟩ := key
  refine ⟨rfl, (by show 2 ≤ sizeLine; decide), fun T hT => ?_⟩
  rw [decide_eq_true rfl]
  obtain ⟨ns, hr3⟩ := q.dr
  have nrm : r ≠ m := ne_of hr3 q.m (by intro z; cases z)
  have fin : Q5 K H5 r W hp hl p wl m ly f ws n' s' c' pd' lv' := by
    refine ⟨⟨ns, B5 _ _ (keepK hr3 (by intro _ _ _ z; cases z) n3) nrm n4⟩, B5 _ _ (keepK q.w (by intro _ _ _ z; cases z) n5) (ne_of q.w q.m (by intro z; cases z)) n6, fun y hy => B5 _ _ (keepK (q.sh y hy) (by intro _ _ _ z; cases z) (ne_of (q.sh y hy) q.h.lst (by intro z; cases z))) (ne_of (q.sh y hy) q.m (by intro z; cases z)) (ne_of (q.sh y hy) q.lY (by intro z; cases z)), ?_, ?_, B5 _ _ (keepK q.wL (by intro _ _ _ z; cases z) n7) (ne_of q.wL q.m (by intro z; cases z)) n8, hm5, hly5, q.ne, rel', up'⟩
    · obtain ⟨dh4, h4⟩ := hH4.ins
      exact ⟨⟨dh4, B5 _ _ h4 (ne_of h4 hm4 (by intro z; cases z)) (ne_of h4 hly4 (by intro z; cases z))⟩, B5 _ _ hH4.lst (ne_of hH4.lst hm4 (by intro z; cases z)) n9⟩
    · obtain ⟨dp4, h4⟩ := hP4
      exact ⟨dp4, B5 _ _ h4 (ne_of h4 hm4 (by intro z; cases z)) (ne_of h4 hly4 (by intro z; cases z))⟩
  exact k T p wl n' s' c' pd' lv' _ (fin.same (Same.new hT)) upd_same
end
end Sx

set_option Elab.async false
set_option linter.all false
set_option maxRecDepth 100000
set_option maxHeartbeats 2000000
namespace Sx
open PySem PySem.Spec PyProof.Rows L2 SxA SxK
/-! ### lists of sheets as data -/
def pShs (ns : List Int) : PyData := .list (ns.map pSh)
theorem dpAll_shs {K : PySem.W.Frag} {H : Hp} {f : Addr → Int} : ∀ {rs : List Addr}, AllSh H f rs → DpAll K H (rs.map V.ref) ((rs.map f).map pSh)
  | [], _ => .nil
  | r :: rs, h => .cons (dpSh (h r List.mem_cons_self)) (dpAll_shs fun x hx => h x (List.mem_cons_of_mem _ hx))
theorem dp_shs {K : PySem.W.Frag} {H : Hp} {f : Addr → Int} {rs : List Addr} {a : Addr} (h : AllSh H f rs) (e : H a = some (.lst (rs.map V.ref))) : Dp K H (.ref a) (pShs (rs.map f)) := .lst (SqL.of e) (dpAll_shs h)
theorem lay_shs : ∀ ns : List Int, PyData.canLayAll0 (ns.map pSh) = true
  | [] => rfl
  | n :: ns => by
    have h1 : PyData.strOk "front" = true := by decide +kernel
    have h2 : PyData.strOk "back" = true := by decide +kernel
    rw [List.map_cons, PyData.canLayAll0, lay_shs ns]
    simp [pSh, PyData.canLay0, PyData.canLayAll0, h1, h2]
theorem dep_shs : ∀ ns : List Int, PyData.depthAll (ns.map pSh) ≤ 2
  | [] => Nat.zero_le _
  | n :: ns => by
    rw [List.map_cons, PyData.depthAll]
    exact Nat.max_le.mpr ⟨by simp [pSh, PyData.depth, PyData.depthAll], dep_shs ns⟩
theorem shaped_shs (ns : List Int) : SeqAt.shaped (pShs ns) = true := by
  unfold SeqAt.shaped pShs
  rw [PyData.canLay0, lay_shs, PyData.depth]
  have := dep_shs ns
  simp
  omega
theorem eqvAll_shs : ∀ xs : List Int, PyData.eqvAll (xs.map pSh) (xs.map pSh) = true
  | [] => by simp [PyData.eqvAll]
  | x :: xs => by
    rw [List.map_cons, PyData.eqvAll, eqvAll_shs xs, pSh_eqv, decide_eq_true rfl]
    rfl
theorem eqv_shs (xs : List Int) : PyData.eqv (pShs xs) (pShs xs) = true := by
  unfold pShs
  rw [PyData.eqv]
  exact eqvAll_shs xs
/-! ### what is missing, if all sheets differ -/
section
variable {α : Type} [DecidableEq α]
theorem Sel.sub {w l : List α} {off : Nat} {c : List Nat} (h : Sel w l off c) : ∀ x ∈ l, x ∈ w := by
  induction h with
  | nil off => intro x hx; exact hx
  | hit h ih =>
    intro x hx
    rcases List.mem_cons.mp hx with rfl | hx
    · exact List.mem_cons_self
    · exact List.mem_cons_of_mem _ (ih x hx)
  | skip h ih => exact fun x hx => List.mem_cons_of_mem _ (ih x hx)
theorem Sel.one {w l : List α} {off : Nat} {c : List Nat} (h : Sel w l off c) : ∀ {c' : List Nat}, w.Nodup → Sel w l off c' → c = c' := by
  induction h with
  | nil off => intro c' _ g; cases g; rfl
  | @hit x w l off c h ih =>
    intro c' nd g
    cases g with
    | hit g => exact ih (List.nodup_cons.mp nd).2 g
    | skip g => exact absurd (g.sub x List.mem_cons_self) (List.nodup_cons.mp nd).1
  | @skip x w l off c h ih =>
    intro c' nd g
    cases g with
    | hit g => exact absurd (h.sub x List.mem_cons_self) (List.nodup_cons.mp nd).1
    | skip g => rw [ih (List.nodup_cons.mp nd).2 g]
theorem range'_filter_cons {n off : Nat} {p : Nat → Bool} : (List.range' off (n + 1)).filter p = (if p off = true then [off] else []) ++ (List.range' (off + 1) n).filter p := by
  rw [show List.range' off (n + 1) = off :: List.range' (off + 1) n from rfl, List.filter_cons]
  split <;> rfl
theorem sel_comp (a0 : α) : ∀ (w : List α) (off : Nat) (lv : List Nat), lv.Pairwise (· < ·) → (∀ k ∈ lv, off ≤ k ∧ k < off + w.length) →
    Sel w (lv.map fun k => w.getD (k - off) a0) off ((List.range' off w.length).filter fun k => decide (k ∉ lv))
  | [], off, lv, _, h => by
    have : lv = [] := by
      cases lv with
      | nil => rfl
      | cons k r =>
        have := h k List.mem_cons_self
        simp at this
        omega
    subst this
    exact .nil _
  | x :: w, off, lv, pw, h => by
    have tail : ∀ (l : List Nat), (∀ k ∈ l, off + 1 ≤ k) → (l.map fun k => (x :: w).getD (k - off) a0) = l.map fun k => w.getD (k - (off + 1)) a0 := fun l hl => List.map_congr_left fun k hk => by
      have := hl k hk
      rw [show k - off = (k - (off + 1)) + 1 by omega]
      rfl
    have fl : ∀ (l1 l2 : List Nat), (∀ k, off + 1 ≤ k → (k ∈ l1 ↔ k ∈ l2)) → ((List.range' (off + 1) w.length).filter fun k => decide (k ∉ l1)) = (List.range' (off + 1) w.length).filter fun k => decide (k ∉ l2) := fun l1 l2 hl => List.filter_congr fun k hk => by
      have := (List.mem_range'_1.mp hk).1
      exact decide_eq_decide.mpr (not_congr (hl k this))
    rw [List.length_cons, range'_filter_cons]
    cases lv with
    | nil =>
      have ih := sel_comp a0 w (off + 1) [] List.Pairwise.nil (fun k hk => by cases hk)
      rw [if_pos (by simp)]
      exact .skip ih
    | cons k r =>
      obtain ⟨p1, p2⟩ := List.pairwise_cons.mp pw
      have hk := h k List.mem_cons_self
      by_cases e : k = off
      · subst e
        have hr : ∀ j ∈ r, k + 1 ≤ j ∧ j < k + 1 + w.length := fun j hj => by
          have := p1 j hj
          have := h j (List.mem_cons_of_mem _ hj)
          rw [List.length_cons] at this
          omega
        have ih := sel_comp a0 w (k + 1) r p2 hr
        rw [if_neg (by simp), List.nil_append, List.map_cons, tail r (fun j hj => (hr j hj).1), fl (k :: r) r (fun j hj => ⟨fun q => (List.mem_cons.mp q).resolve_left (by omega), fun q => List.mem_cons_of_mem _ q⟩)]
        rw [show (x :: w).getD (k - k) a0 = x by rw [Nat.sub_self]; rfl]
        exact .hit ih
      · have hr : ∀ j ∈ k :: r, off + 1 ≤ j ∧ j < off + 1 + w.length := fun j hj => by
          have h2 := h j hj
          rw [List.length_cons] at h2
          rcases List.mem_cons.mp hj with rfl | hj
          · omega
          · have := p1 j hj
            omega
        have ih := sel_comp a0 w (off + 1) (k :: r) pw hr
        have hno : off ∉ k :: r := fun q => by
          have := (hr off q).1
          omega
        rw [if_pos (show decide (off ∉ k :: r) = true from decide_eq_true hno), tail _ (fun j hj => (hr j hj).1)]
        exact .skip ih
end
end Sx

set_option Elab.async false
set_option linter.all false
set_option maxRecDepth 100000
set_option maxHeartbeats 2000000
namespace Sx
open PySem PySem.Spec PyProof.Rows L2 SxA SxK
theorem inV_ints (z : Int) (l : List Int) : inV (.int z) (l.map V.int) = decide (z ∈ l) := by
  induction l with
  | nil => rfl
  | cons x l ih =>
    show (eqV (.int x) (.int z) || inV (.int z) (l.map V.int)) = _
    rw [ih]
    have : eqV (.int x) (.int z) = decide (x = z) := rfl
    rw [this, Bool.eq_iff_iff]
    simp only [Bool.or_eq_true, decide_eq_true_eq, List.mem_cons]
    exact ⟨fun h => h.elim (fun e => .inl e.symm) .inr, fun h => h.elim (fun e => .inl e.symm) .inr⟩
/-- the sheets that lie -/
def rsl (ws : List Addr) (lv : List Int) : List Addr := lv.map fun k => ws.getD k.toNat 0
theorem lyR_rsl (ws : List Addr) (lv : List Int) : lyR ws lv = (rsl ws lv).map V.ref := by
  unfold lyR rsl
  rw [List.map_map]
  rfl
theorem getD_mem {ws : List Addr} {i : Nat} (h : i < ws.length) : ws.getD i 0 ∈ ws := by
  rw [List.getD_eq_getElem?_getD, List.getElem?_eq_getElem h]
  exact List.getElem_mem _
theorem rsl_sh {H : Hp} {f : Addr → Int} {ws : List Addr} {lv : List Int} {d : Int} (h : AllSh H f ws) (up : Up5 lv d) (hd : d ≤ (ws.length : Int)) : AllSh H f (rsl ws lv) := fun x hx => by
  obtain ⟨k, hk, rfl⟩ := List.mem_map.mp hx
  have := up.lo k hk
  exact h _ (getD_mem (by omega))
theorem ref_at {ws : List Addr} {k : Int} (h0 : 0 ≤ k) (h1 : k < (ws.length : Int)) : atI (ws.map V.ref) k = some (.ref (ws.getD k.toNat 0)) := by
  rw [show k = ((k.toNat : Nat) : Int) by omega]
  refine atI_nat ?_
  rw [List.getElem?_map, List.getD_eq_getElem?_getD, Int.toNat_natCast, List.getElem?_eq_getElem (by omega)]
  rfl
/-- both tell the same of what stands in the press -/
theorem ins_same {K : PySem.W.Frag} {H1 H2 : Hp} {v1 v2 : V} {n pd st : Int} (h1 : InsT H1 v1 n pd) (h2 : InsT H2 v2 n st) (s : Same H1 H2) (hs : pd = if st = 5 then 0 else st) (s0 : 0 ≤ st) (s5 : st ≤ 5) :
    ∃ dd, Dp K H2 v1 dd ∧ Dp K H2 v2 dd ∧ SeqAt.shaped dd = true ∧ PyData.eqv dd dd = true := by
  rcases h1 with ⟨a1, a2, T1, z1, rfl, hT1, hz1⟩ | ⟨a, rfl⟩
  · have e : pd = st := by
      split at hs
      · omega
      · exact hs
    subst e
    rcases h2 with ⟨b1, b2, T2, z2, rfl, hT2, hz2⟩ | ⟨b, _⟩
    · obtain rfl : z1 = z2 := V.str.inj (Option.some.inj (hz1.symm.trans hz2))
      have ok : PyData.strOk z1 = true := by
        have : pd = 1 ∨ pd = 2 ∨ pd = 3 ∨ pd = 4 := by omega
        rcases this with rfl | rfl | rfl | rfl <;> (cases hz1; decide +kernel)
      refine ⟨.tuple [.int n, .str z1], .tup (SqT.of (s _ _ hT1)) (.cons (.int _) (.cons (.str _) .nil)), .tup (SqT.of hT2) (.cons (.int _) (.cons (.str _) .nil)), ?_, ?_⟩
      · simp [SeqAt.shaped, PyData.canLay0, PyData.canLayAll0, PyData.depth, PyData.depthAll, ok]
      · simp [PyData.eqv, PyData.eqvAll]
    · exact absurd ⟨a1, a2⟩ b
  · rcases h2 with ⟨b1, b2, _⟩ | ⟨b, rfl⟩
    · rw [if_neg (by omega)] at hs
      exact absurd ⟨by omega, by omega⟩ a
    · exact ⟨.none, .non, .non, by decide, by decide⟩
section
variable {K : PySem.W.Frag} {H : Hp} {r W hp hl p wl m ly : Addr} {f : Addr → Int} {ws : List Addr} {n st d pd : Int} {lv : List Int}
/-- a step of the press, then one of the model -/
theorem Q5.stepS (q : Q5 K H r W hp hl p wl m ly f ws n st d pd lv) {Q : VK} {E : XK}
    (k : ∀ z H4, (∀ (Q2 : VK) (E2 : XK), (∀ n' s' d' pd' lv' H5, Q5 K H5 r W hp hl p wl m ly f ws n' s' d' pd' lv' → (n = (ws.length : Int) ∧ n' = n ∨ n ≠ (ws.length : Int) ∧ 6 * ((ws.length : Int) - n') - s' < 6 * ((ws.length : Int) - n) - st) → Q2 (.str z) H5) → spDue [.ref m] H4 Q2 E2) → Q (.str z) H4) : spStep K [.ref p] H Q E := by
  obtain ⟨n1, n2, n3, n4, n5, n6, n7, n8, n9, n10⟩ := q.ne
  obtain ⟨dp, hpr⟩ := q.pr
  obtain ⟨dh, hhi⟩ := q.h.ins
  have g := q.rel
  have up := q.up
  have lyl : (lyR ws lv).length = lv.length := by unfold lyR; rw [List.length_map]
  have lvl : lv.length ≤ 100 := by have := up.len; have := g.dc; have := g.c5; omega
  have pd0 : 0 ≤ pd ∧ pd ≤ 4 := by
    have := g.pd
    have := g.s0
    have := g.s5
    split at * <;> omega
  refine ⟨p, wl, hp, n, pd, ws.map V.ref, lyR ws lv, hl, d, rfl, ⟨dp, hpr⟩, q.wL, q.h, n10.symm, by rw [lyl]; omega, pd0.1, pd0.2, fun e => ?_, fun z n' pd' us' c' H4 S hP4 hH4 B4 => k z H4 fun Q2 E2 k2 => ?_⟩
  · have : 1 ≤ st ∧ st ≤ 4 := by
      have := g.pd
      have := g.s0
      have := g.s5
      split at * <;> omega
    have h1 := g.mid this.1 this.2
    exact ⟨_, ref_at g.n0 (by omega)⟩
  have keepK : ∀ {b o}, H b = some o → (∀ a x y, o ≠ .ins a x y) → b ≠ hl → H4 b = some o := fun e z1 a3 => B4 _ _ e (ne_of e hpr (z1 _ _ _)) (ne_of e hhi (z1 _ _ _)) a3
  have hm4 := keepK q.m (by intro _ _ _ z; cases z) (ne_of q.m q.h.lst (by intro z; cases z))
  have hly4 := keepK q.lY (by intro _ _ _ z; cases z) n9.symm
  refine ⟨m, n, st, _, ly, d, lv, rfl, hm4, hly4, by omega, ?_, fun z2 n2' s' lv' d' H5 D hm5 hly5 B5 => ?_⟩
  · by_cases e : st = 5
    · exact .inr (.inl (g.l5 e))
    · refine .inr (.inr ⟨g.s0, ?_⟩)
      have := g.s5
      omega
  obtain ⟨rfl, rfl, rfl, rfl, rel', up'⟩ := step_same g up S D
  obtain ⟨ns, hr3⟩ := q.dr
  have nrm : r ≠ m := ne_of hr3 q.m (by intro z; cases z)
  refine k2 n' s' c' pd' lv' H5 ?_ ?_
  · refine ⟨⟨ns, B5 _ _ (keepK hr3 (by intro _ _ _ z; cases z) n3) nrm n4⟩, B5 _ _ (keepK q.w (by intro _ _ _ z; cases z) n5) (ne_of q.w q.m (by intro z; cases z)) n6, fun y hy => B5 _ _ (keepK (q.sh y hy) (by intro _ _ _ z; cases z) (ne_of (q.sh y hy) q.h.lst (by intro z; cases z))) (ne_of (q.sh y hy) q.m (by intro z; cases z)) (ne_of (q.sh y hy) q.lY (by intro z; cases z)), ?_, ?_, B5 _ _ (keepK q.wL (by intro _ _ _ z; cases z) n7) (ne_of q.wL q.m (by intro z; cases z)) n8, hm5, hly5, q.ne, rel', up'⟩
    · obtain ⟨dh4, h4⟩ := hH4.ins
      exact ⟨⟨dh4, B5 _ _ h4 (ne_of h4 hm4 (by intro z; cases z)) (ne_of h4 hly4 (by intro z; cases z))⟩, B5 _ _ hH4.lst (ne_of hH4.lst hm4 (by intro z; cases z)) n9⟩
    · obtain ⟨dp4, h4⟩ := hP4
      exact ⟨dp4, B5 _ _ h4 (ne_of h4 hm4 (by intro z; cases z)) (ne_of h4 hly4 (by intro z; cases z))⟩
  · have := g.s0
    cases D with
    | over h => exact .inl ⟨h, rfl⟩
    | note h h2 =>
      have := g.s5
      refine .inr ⟨h, ?_⟩
      omega
    | word z h h2 hs hz =>
      refine .inr ⟨h, ?_⟩
      omega
    | drop h h2 hs =>
      refine .inr ⟨h, ?_⟩
      omega
/-- it is over -/
theorem Q5.over (q : Q5 K H r W hp hl p wl m ly f ws n st d pd lv) (hn : n = (ws.length : Int)) {Q : VK} {E : XK} (k : ∀ H4, Q5 K H4 r W hp hl p wl m ly f ws n st d pd lv → Q (.str "over") H4) : spStep K [.ref p] H Q E := by
  obtain ⟨n1, n2, n3, n4, n5, n6, n7, n8, n9, n10⟩ := q.ne
  obtain ⟨dp, hpr⟩ := q.pr
  obtain ⟨dh, hhi⟩ := q.h.ins
  have g := q.rel
  have up := q.up
  have lyl : (lyR ws lv).length = lv.length := by unfold lyR; rw [List.length_map]
  have lvl : lv.length ≤ 100 := by have := up.len; have := g.dc; have := g.c5; omega
  have pd0 : pd = 0 := by
    have := g.pd
    have := g.s0
    have := g.s5
    have := g.l5
    have := g.mid
    have := g.nd
    have := g.dc
    split at * <;> omega
  refine ⟨p, wl, hp, n, pd, ws.map V.ref, lyR ws lv, hl, d, rfl, ⟨dp, hpr⟩, q.wL, q.h, n10.symm, by rw [lyl]; omega, by omega, by omega, fun e => by omega, fun z n' pd' us' c' H4 S hP4 hH4 B4 => ?_⟩
  have keepK : ∀ {b o}, H b = some o → (∀ a x y, o ≠ .ins a x y) → b ≠ hl → H4 b = some o := fun e z1 a3 => B4 _ _ e (ne_of e hpr (z1 _ _ _)) (ne_of e hhi (z1 _ _ _)) a3
  have wsl : ((ws.map V.ref).length : Int) = (ws.length : Int) := by rw [List.length_map]
  cases S with
  | over h0 h =>
    obtain ⟨ns, hr3⟩ := q.dr
    exact k H4 ⟨⟨ns, keepK hr3 (by intro _ _ _ z; cases z) n3⟩, keepK q.w (by intro _ _ _ z; cases z) n5, fun y hy => keepK (q.sh y hy) (by intro _ _ _ z; cases z) (ne_of (q.sh y hy) q.h.lst (by intro z; cases z)), hH4, hP4, keepK q.wL (by intro _ _ _ z; cases z) n7, keepK q.m (by intro _ _ _ z; cases z) (ne_of q.m q.h.lst (by intro z; cases z)), keepK q.lY (by intro _ _ _ z; cases z) n9.symm, q.ne, g, up⟩
  | note h0 h h2 => rw [wsl] at h; exact absurd hn h
  | drop hd v hv => omega
  | word z h h2 hd hz => rw [wsl] at h; exact absurd ⟨pd0, hn⟩ h
end
end Sx

set_option Elab.async false
set_option linter.all false
set_option maxRecDepth 100000
set_option maxHeartbeats 4000000
namespace Sx
open PySem PySem.Spec PyProof.Rows L2 SxA SxK
def spLaw (K : PySem.W.Frag) : Sp := fun vs H Q _ => ∃ (a : Addr) (ns : List Int), vs = [.ref a] ∧ SqL K H a (ns.map V.int) ∧ ns.length ≤ 63 ∧ ∀ H', Q (.bl true) H'
theorem op_inDK {X : Cx} {K : PySem.W.Frag} (h : X.K = K) (hu : X.A.units + 65 < cLine) : OpR X (compareOp .In) (rInD K) := by
  subst h
  exact op_inD hu
theorem sl_listK {X : Cx} {K : PySem.W.Frag} (h : X.K = K) : SlR X (rSlL K) := by
  subst h
  exact sl_list
section
variable {P : Program} {w : World} {K : PySem.W.Frag} {mg : Str → Option Value} {base : Heap}
abbrev nsLaw : List Str := ["script", "row", "sheets", "k", "heap", "press", "model", "turn", "right", "gone", "more"]
theorem scLaw : FnScope nsLaw ["script"] (defScope sLaw) := ⟨rfl, rfl, rfl, by decide +kernel, rfl, by decide +kernel, by decide +kernel⟩
theorem ok_law (t : T K mg) (ip : InP K) (px : PexC K mg "InvalidJournal") (er : ErrC P K mg xStrangeSheet) (er2 : ErrC P K mg xNotMissing) {fd : FuncData} (F : FunD K "law" "law" (defArgs sLaw) (defBody sLaw) (defScope sLaw) [] [] (He.ga K "law") fd) : FnOk P w K mg base CX0 8 (He.ga K "law") fd ["script"] (spLaw K) := by
  obtain ⟨fp, FP, ⟨ds, hds, hbd⟩, _⟩ := ok_press (P := P) (w := w) (base := base) t px
  refine mkFn F scLaw (fun vs H Q E h => ?_) fun cdv A outer s H vs Q E hr h => ?_
  · obtain ⟨a, ns, rfl, _⟩ := h; rfl
  obtain ⟨sc, zs0, rfl, hS, hlen, k⟩ := h
  have hr1 : Room 1 _ := hr.mono (by decide)
  have hr2 : Room 2 _ := hr.mono (by decide)
  have hr4 : Room 4 _ := hr.mono (by decide)
  have hr5 : Room 5 _ := hr.mono (by decide)
  have hu65 := hr.un
  refine ⟨_, pss_cons (ps_set (i := 1) scLaw.nd rfl (Or.inr rfl) (pe_ok (ok_law_numbers t) hr2 rfl (pa_cons (pv 0) (pa_cons pe_int pa_nil))))
    (pss_cons (ps_set (i := 2) scLaw.nd rfl (Or.inr rfl) (pe_lc (own := [("k", 3)]) (g := gName 3) (tt := tYes) rfl scLaw.nd (pi_range1 rfl t.f_range (pa_cons (pe_ok (ok_law_take t) hr1 rfl (pa_cons (pv 1) (pa_cons pe_int pa_nil))) pa_nil)) (blkOk_by (own := [("k", 3)]) (N := nsLaw) (sc := defScope sLaw) (by decide +kernel)) (fun _ _ _ _ _ => pg_name (i := 3) scLaw.nd rfl (Or.inl rfl)) (fun _ _ _ _ _ => pts_nil) (fun _ _ _ _ _ => (pe_tup (pa_cons (pe_ok (ok_law_take t) hr1 rfl (pa_cons (pv 1) (pa_cons pe_int pa_nil))) (pa_cons pe_str (pa_cons pe_str pa_nil)))))))
    (pss_cons (ps_set (i := 4) scLaw.nd rfl (Or.inl rfl) (pe_make0 t.m_Heap (met_Heap_init (base := base) (P := P) (w := w) t).choose_spec.1 hr2 rfl t.g_Heap (met_Heap_init (base := base) (P := P) (w := w) t).choose_spec.2 .nil pass0))
    (pss_cons (ps_set (i := 5) scLaw.nd rfl (Or.inl rfl) (pe_make t.m_Press FP hr4 rfl t.g_Press hbd hds (passes_call takes0 fun _ _ _ _ h => h) (pa_cons (pe_callTy call_list_of rfl t.f_list (by decide +kernel) (pa_cons (pv 2) pa_nil)) (pa_cons (pv 4) pa_nil))))
    (pss_cons (ps_set (i := 6) scLaw.nd rfl (Or.inr rfl) (pe_disp (pps_cons pe_str pe_int (pps_cons pe_str pe_int (pps_cons pe_str (pe_callB call_len_seq rfl t.f_len boot_len (pa_cons (pv 2) pa_nil)) (pps_cons pe_str (pe_lst pa_nil) (pps_cons pe_str pe_int pps_nil))))) rfl rfl (by simp) (by decide)))
    (C8.pss_cut (ps_for PassesOwn.never rfl (pi_range1 rfl t.f_range (pa_cons (pe_ok (ok_law_take t) hr1 rfl (pa_cons (pv 1) (pa_cons pe_int pa_nil))) pa_nil)) (pg_name (i := 7) scLaw.nd rfl (Or.inl rfl))
      (pss_cons (ps_asg (pe_ok (ok_law_deed t ip px) hr5 rfl (pa_cons (pv 1) (pa_cons (pv 2) (pa_cons (pv 4) (pa_cons (pv 5) (pa_cons (pv 6) pa_nil)))))) (pg_tup rfl (pgs_cons (pg_name (i := 5) scLaw.nd rfl (Or.inl rfl)) (pgs_cons (pg_name (i := 8) scLaw.nd rfl (Or.inl rfl)) pgs_nil))))
    (C8.pss_cut (ps_if (PW.pt (pw_or (pt_not (pt_val (pv 8))) (pw_or (pt_cmpR (op_neD (hu64 hr)) (pe_met0 (met_Press_inside t ip) t.c_Press t.k_Press_inside hr1 (pv 5)) (pe_ok (ok_law_inside t) hr1 rfl (pa_cons (pv 6) pa_nil)) (nomark _)) (pw_or1 (pt_cmpR op_ne (pe_met0 (met_Press_journal t) t.c_Press t.k_Press_journal hr2 (pv 5)) (pe_ok (ok_law_lines t) hr1 rfl (pa_cons (pe_dget (hu_of hr) (pv 6) pe_str (fun _ _ => rfl)) pa_nil)) (nomark _))))))
      (pss_one (ps_ret pe_bl))
      pss_nil)
    (pss_one (ps_if (PW.pt (pw_or (pt_cmpR (op_neD (hu64 hr)) (pe_met0 (met_Heap_sheets t) t.c_Heap t.k_Heap_sheets hr1 (pv 4)) (pe_lc (own := [("k", 3)]) (g := gName 3) (tt := tYes) rfl scLaw.nd (pi_list (pe_dget (hu_of hr) (pv 6) pe_str (fun _ _ => rfl))) (blkOk_by (own := [("k", 3)]) (N := nsLaw) (sc := defScope sLaw) (by decide +kernel)) (fun _ _ _ _ _ => pg_name (i := 3) scLaw.nd rfl (Or.inl rfl)) (fun _ _ _ _ _ => pts_nil) (fun _ _ _ _ _ => (pe_ix (ix_listK (K := K) rfl) (pv 2) (pv 3) (fun _ _ => rfl)))) (nomark _)) (pw_or1 (pt_cmpR op_ne (pe_met0 (met_Heap_dropped t) t.c_Heap t.k_Heap_dropped hr1 (pv 4)) (pe_dget (hu_of hr) (pv 6) pe_str (fun _ _ => rfl)) (nomark _)))))
      (pss_one (ps_ret pe_bl))
      pss_nil)))))
    (C8.pss_cut (ps_for PassesOwn.never rfl (pi_range1 rfl t.f_range (pa_cons pe_int pa_nil)) (pg_name (i := 7) scLaw.nd rfl (Or.inl rfl))
      (pss_one (ps_if (pt_cmpR op_ne (pe_met0 (met_Press_step t ip) t.c_Press t.k_Press_step hr2 (pv 5)) (pe_ok (ok_law_due t) hr1 rfl (pa_cons (pv 6) pa_nil)) (nomark _))
      (pss_one (ps_ret pe_bl))
      pss_nil)))
    (C8.pss_cut (ps_if (PW.pt (pw_or (pt_cmpR op_ne (pe_met0 (met_Press_step t ip) t.c_Press t.k_Press_step hr2 (pv 5)) pe_str (nomark _)) (pw_or (pt_cmpR op_ne (pe_met0 (met_Heap_dropped t) t.c_Heap t.k_Heap_dropped hr1 (pv 4)) (pe_callB call_len_seq rfl t.f_len boot_len (pa_cons (pv 2) pa_nil)) (nomark _)) (pw_or1 (pt_cmpR op_ne (pe_met0 (met_Press_journal t) t.c_Press t.k_Press_journal hr2 (pv 5)) (pe_ok (ok_law_lines t) hr1 rfl (pa_cons (pe_callB call_len_seq rfl t.f_len boot_len (pa_cons (pv 2) pa_nil)) pa_nil)) (nomark _))))))
      (pss_one (ps_ret pe_bl))
      pss_nil)
    (C8.pss_cut (ps_if (PW.pt (pw_or (pt_cmpR (op_neD (hu64 hr)) (pe_dget (hu_of hr) (pv 6) pe_str (fun _ _ => rfl)) (pe_callB cr_sortedI rfl t.f_sorted boot_sorted (pa_cons (pe_dget (hu_of hr) (pv 6) pe_str (fun _ _ => rfl)) pa_nil)) (nomark _)) (pw_or1 (pt_cmpR (op_neD (hu64 hr)) (pe_met0 (met_Heap_sheets t) t.c_Heap t.k_Heap_sheets hr1 (pv 4)) (pe_lc (own := [("k", 3)]) (g := gName 3) (tt := tYes) rfl scLaw.nd (pi_list (pe_dget (hu_of hr) (pv 6) pe_str (fun _ _ => rfl))) (blkOk_by (own := [("k", 3)]) (N := nsLaw) (sc := defScope sLaw) (by decide +kernel)) (fun _ _ _ _ _ => pg_name (i := 3) scLaw.nd rfl (Or.inl rfl)) (fun _ _ _ _ _ => pts_nil) (fun _ _ _ _ _ => (pe_ix (ix_listK (K := K) rfl) (pv 2) (pv 3) (fun _ _ => rfl)))) (nomark _)))))
      (pss_one (ps_ret pe_bl))
      pss_nil)
    (pss_cons (ps_set (i := 9) scLaw.nd rfl (Or.inl rfl) (pe_okX (ok_missing t er) hr4 rfl takes0 (pa_cons (pv 2) (pa_cons (pe_met0 (met_Heap_sheets t) t.c_Heap t.k_Heap_sheets hr1 (pv 4)) pa_nil))))
    (C8.pss_cut (ps_if (pt_cmpR op_ne (pe_callB call_len_seq rfl t.f_len boot_len (pa_cons (pv 9) pa_nil)) (pe_op op_sub (pe_callB call_len_seq rfl t.f_len boot_len (pa_cons (pv 2) pa_nil)) (pe_callB call_len_seq rfl t.f_len boot_len (pa_cons (pe_dget (hu_of hr) (pv 6) pe_str (fun _ _ => rfl)) pa_nil))) (nomark _))
      (pss_one (ps_ret pe_bl))
      pss_nil)
    (C8.pss_cut (ps_if (pt_cmpR op_eq (pe_callB call_len_seq rfl t.f_len boot_len (pa_cons (pe_lc (own := [("k", 3)]) (g := gName 3) rfl scLaw.nd (pi_range1 rfl t.f_range (pa_cons (pe_callB call_len_seq rfl t.f_len boot_len (pa_cons (pv 2) pa_nil)) pa_nil)) (blkOk_by (own := [("k", 3)]) (N := nsLaw) (sc := defScope sLaw) (by decide +kernel)) (fun _ _ _ _ _ => pg_name (i := 3) scLaw.nd rfl (Or.inl rfl)) (fun _ _ _ _ _ => pts_one (pt_cmpR (op_inDK (K := K) rfl (by have := hr.un; exact Nat.lt_of_le_of_lt (Nat.le_refl _) (show (A.deeper _).units + 65 < cLine by omega))) (pe_ix (ix_listK (K := K) rfl) (pv 2) (pv 3) (fun _ _ => rfl)) (pe_slice (sl_listK (K := K) rfl) (pv 2) po_none (po_some (pv 3))) (by rfl))) (fun _ _ _ _ _ => (pv 3))) pa_nil)) pe_int (nomark _))
      (pss_one (ps_if (pt_cmpR (op_neD (hu64 hr)) (pv 9) (pe_lc (own := [("k", 3)]) (g := gName 3) rfl scLaw.nd (pi_range1 rfl t.f_range (pa_cons (pe_callB call_len_seq rfl t.f_len boot_len (pa_cons (pv 2) pa_nil)) pa_nil)) (blkOk_by (own := [("k", 3)]) (N := nsLaw) (sc := defScope sLaw) (by decide +kernel)) (fun _ _ _ _ _ => pg_name (i := 3) scLaw.nd rfl (Or.inl rfl)) (fun _ _ _ _ _ => pts_one (pt_cmpR (op_notInK (K := K) rfl) (pv 3) (pe_dget (hu_of hr) (pv 6) pe_str (fun _ _ => rfl)) (by rfl))) (fun _ _ _ _ _ => (pv 3))) (nomark _))
      (pss_one (ps_ret pe_bl))
      pss_nil))
      pss_nil)
    (C8.pss_cut (ps_if (pt_cmpR (op_neD (hu64 hr)) (pe_okX (ok_filled t er er2) hr5 rfl takes0 (pa_cons (pv 2) (pa_cons (pe_met0 (met_Heap_sheets t) t.c_Heap t.k_Heap_sheets hr1 (pv 4)) (pa_cons (pe_lc (own := [("k", 3)]) (g := gName 3) (tt := tYes) rfl scLaw.nd (pi_list (pv 9)) (blkOk_by (own := [("k", 3)]) (N := nsLaw) (sc := defScope sLaw) (by decide +kernel)) (fun _ _ _ _ _ => pg_name (i := 3) scLaw.nd rfl (Or.inl rfl)) (fun _ _ _ _ _ => pts_nil) (fun _ _ _ _ _ => (pe_ix (ix_listK (K := K) rfl) (pv 2) (pv 3) (fun _ _ => rfl)))) pa_nil)))) (pv 2) (nomark _))
      (pss_one (ps_ret pe_bl))
      pss_nil)
    (pss_cons (ps_set (i := 10) scLaw.nd rfl (Or.inl rfl) (pe_ok (ok_law_lines t) hr1 rfl (pa_cons (pe_op op_add (pe_callB call_len_seq rfl t.f_len boot_len (pa_cons (pv 2) pa_nil)) pe_int) pa_nil)))
    (pss_one (ps_ret (pe_and (pe_ok (ok_law_refused t px) hr5 rfl (pa_cons (pv 2) (pa_cons (pv 4) (pa_cons (pv 10) pa_nil)))) (pe_and (pe_ok (ok_law_refused t px) hr5 rfl (pa_cons (pv 2) (pa_cons (pv 4) (pa_cons pe_str pa_nil)))) (pe_one (pe_ok (ok_law_refused t px) hr5 rfl (pa_cons (pe_op op_cat (pv 2) (pe_lst (pa_cons (pe_tup (pa_cons pe_int (pa_cons pe_str (pa_cons pe_str pa_nil)))) pa_nil))) (pa_cons (pv 4) (pa_cons (pv 10) pa_nil)))))))))))))))))))))), ?_⟩
  refine ⟨_, rfl, sc, zs0, 150, rfl, hS, hlen, by decide, by decide, fun r H1 hr0 s1 D1 => ?_⟩
  refine ⟨_, rfl, r, 6, rfl, D1, by decide, fun c H2 c0 c6 D2 B2 => ?_⟩
  refine ⟨c, rfl, by omega, by omega, fun W hW => ?_⟩
  have nrW : r ≠ W := D2.ne hW
  refine lc_range (g := gName 3) (lo := 0) (n := c.toNat) (fun i H' => (∃ rs : List Addr, H' W = some (.lst (rs.map V.ref)) ∧ rs.length = i ∧ ∀ x ∈ rs, ∃ n, H' x = some (.tup (tpS n))) ∧ Dr H' r) ⟨⟨[], upd_same, rfl, fun x hx => by cases hx⟩, D2.new hW⟩ ?_ ?_
  · rintro i H3 hi ⟨⟨rs, hrs, rl, ht⟩, D3⟩
    refine ⟨rfl, ?_⟩
    refine ⟨_, rfl, r, 9, rfl, D3, by decide, fun u H4 u0 u1 D4 B4 => ⟨(by show 3 ≤ sizeLine; decide), fun T hT => ?_⟩⟩
    have hW4 := B4 _ _ hrs nrW.symm
    have nWT : W ≠ T := ne_of_none hW4 hT
    obtain ⟨ns, hr3⟩ := D3
    refine ⟨_, (Same.new hT) _ _ hW4, by rw [List.length_map]; exact small1 (by omega), ⟨rs ++ [T], ?_, by rw [List.length_append, rl]; rfl, fun x hx => ?_⟩, (D4.new hT).put nrW⟩
    · rw [upd_same, List.map_append]
      rfl
    · rcases List.mem_append.mp hx with q | q
      · obtain ⟨n, hn⟩ := ht x q
        have h4 := B4 _ _ hn (ne_of hn hr3 (by intro z; cases z))
        exact ⟨n, by rw [upd_ne (ne_of hn hrs (by intro z; cases z))]; exact (Same.new hT) _ _ h4⟩
      · rw [List.mem_singleton.mp q]
        exact ⟨u, by rw [upd_ne nWT.symm]; exact upd_same⟩
  rintro H3 ⟨⟨ws, hws, wl0, ht⟩, D3⟩
  have w5 : ws.length ≤ 5 := by omega
  obtain ⟨f, hf⟩ : ∃ f : Addr → Int, AllSh H3 f ws := ⟨fun a => match H3 a with | some (.tup (.int n :: _)) => n | _ => 0, fun x hx => by
    obtain ⟨n, hn⟩ := ht x hx
    show H3 x = some (.tup (tpS (match H3 x with | some (.tup (.int n :: _)) => n | _ => 0)))
    rw [hn]
    rfl⟩
  refine fun hp dh hhp hdh nehd => ⟨hp, dh, rfl, upd_same, fun hl H4 hhl S4 B4 => ⟨rfl, ?_⟩⟩
  have s4 : Same H3 H4 := fun b o e => by
    have n1 : b ≠ hp := ne_of_none e hhp
    refine B4 _ _ ?_ n1
    rw [upd_ne n1, upd_ne (ne_of_none e hdh)]
    exact e
  have hhl3 : H3 hl = none := Sx.Same.none (Same.put (Same.new hdh) hhp) _ hhl
  have D4 := D3.same s4
  have nrl : r ≠ hl := D3.ne hhl3
  have nWl : W ≠ hl := ne_of_none hws hhl3
  refine ⟨_, rfl, W, _, rfl, .inl (SqL.of (s4 _ _ hws)), fun wc hwc => ⟨_, rfl, fun p dp hhpp hdp nep => ?_⟩⟩
  have s5 : Same H4 (upd (upd (upd H4 wc (.lst (ws.map V.ref))) dp (.own p)) p (.ins (He.ga K "Press") dp [])) := (Same.new hwc).trans (Same.put (Same.new hdp) hhpp)
  have hp4 : H4 p = none := Sx.Same.none (Same.new hwc) _ hhpp
  have n0 : notesS 0 = Str.ofString "" := by decide +kernel
  have j0 : JnAt (Str.ofString "") 0 true := n0 ▸ jn_whole (n := 0) (by decide)
  have nwx : wc ≠ p := fun e => by rw [e, upd_same] at hhpp; cases hhpp
  have nwd : wc ≠ dp := fun e => by rw [e, upd_same] at hdp; cases hdp
  refine ⟨p, dp, wc, hp, hl, ws.map V.ref, [], 0, Str.ofString "", 0, true, rfl, upd_same, by rw [upd_ne nwx, upd_ne nwd, upd_same], S4.same s5, j0, fun _ H6 wl hwl hP6 hw6 B6 => ⟨rfl, ?_⟩, fun z => (by simp at z)⟩
  have s6 : Same H4 H6 := fun b o e => B6 _ _ (s5 _ _ e) (ne_of_none e hp4)
  have hwl4 : H4 wl = none := Sx.Same.none s5 _ hwl
  refine fun m hm => ⟨_, rfl, W, _, rfl, .inl (SqL.of ((Same.new hm) _ _ (s6 _ _ (s4 _ _ hws)))), (by show 0 ≤ sizeLine; decide), fun ly hly => ?_⟩
  have nmly : m ≠ ly := fun e => by rw [← e, upd_same] at hly; cases hly
  refine ⟨by rw [upd_ne nmly]; exact upd_same, [(.inr "noted", .int 0), (.inr "stage", .int 0), (.inr "count", .int ((ws.map V.ref).length : Nat)), (.inr "lying", .ref ly), (.inr "dropped", .int 0)], rfl, (by show 5 ≤ 15; decide), ?_⟩
  rw [show mergeK [] [(.inr "noted", .int 0), (.inr "stage", .int 0), (.inr "count", .int ((ws.map V.ref).length : Nat)), (.inr "lying", .ref ly), (.inr "dropped", .int 0)] = mdK 0 0 ((ws.map V.ref).length : Nat) ly 0 from rfl, List.length_map]
  have s7 : Same H6 (upd (upd (upd H6 m (.dK [])) ly (.lst [])) m (.dK (mdK 0 0 (ws.length : Int) ly 0))) := Same.put ((Same.new hm).trans (Same.new hly)) hm
  have hm7 := upd_same (H := upd (upd H6 m (.dK [])) ly (.lst [])) (a := m) (o := .dK (mdK 0 0 (ws.length : Int) ly 0))
  have hly7 : (upd (upd (upd H6 m (.dK [])) ly (.lst [])) m (.dK (mdK 0 0 (ws.length : Int) ly 0))) ly = some (.lst (([] : List Int).map V.int)) := by rw [upd_ne nmly.symm]; exact upd_same
  have hly6 : H6 ly = none := Sx.Same.none (Same.new hm) _ hly
  have q0 : Q5 K (upd (upd (upd H6 m (.dK [])) ly (.lst [])) m (.dK (mdK 0 0 (ws.length : Int) ly 0))) r W hp hl p wl m ly f ws 0 0 0 0 [] := by
    have s67 := s6.trans s7
    obtain ⟨ns, hr4⟩ := D4
    have hW4 := s4 _ _ hws
    refine ⟨⟨ns, s67 _ _ hr4⟩, s67 _ _ hW4, (hf.same s4).same s67, S4.same s67, ⟨_, s7 _ _ hP6.choose_spec⟩, s7 _ _ hw6, hm7, hly7, ?_, ?_, ⟨List.Pairwise.nil, fun k hk => (by cases hk), by decide⟩⟩
    · exact ⟨nrW, ne_of_none hr4 hwl4, nrl, ne_of_none (s6 _ _ hr4) hly6, nWl, ne_of_none (s6 _ _ hW4) hly6, (ne_of_none S4.lst hwl4).symm, ne_of_none hw6 hly6, ne_of_none (s6 _ _ S4.lst) hly6, ne_of_none S4.ins.choose_spec hp4⟩
    · exact ⟨by decide, by decide, by omega, by omega, by decide, by decide, (fun e => by cases e), (fun a b => by omega), rfl⟩
  generalize upd (upd (upd H6 m (.dK [])) ly (.lst [])) m (.dK (mdK 0 0 (ws.length : Int) ly 0)) = H7 at q0
  clear s7 hm7 hly7 s6 B6 hP6 hw6 hm hly s5 B4 S4 hf ht
  refine ⟨fun σ2 H => ∃ (p wl : Addr) (n s d pd : Int) (lv : List Int) (o7 o8 : Option V), σ2 = [some (.ref sc), some (.ref r), some (.ref W), none, some (.ref hp), some (.ref p), some (.ref m), o7, o8, none, none] ∧ Q5 K H r W hp hl p wl m ly f ws n s d pd lv, ?_, ?_⟩
  · refine ⟨_, rfl, r, 61, rfl, q0.dr, by decide, fun cnt H8 e0 e1 D8 B8 => ⟨cnt, rfl, by omega, by omega, ?_⟩⟩
    have q8 := q0.take D8 B8
    refine for_range (lo := 0) (n := cnt.toNat) (fun i σ2 H => ∃ (p wl : Addr) (n s d pd : Int) (lv : List Int) (o7 o8 : Option V), σ2 = [some (.ref sc), some (.ref r), some (.ref W), none, some (.ref hp), some (.ref p), some (.ref m), o7, o8, none, none] ∧ Q5 K H r W hp hl p wl m ly f ws n s d pd lv) ⟨p, wl, 0, 0, 0, 0, [], none, none, rfl, q8⟩ ?_ ?_
    · rintro i σ' H9 hi ⟨p, wl, n, st, d, pd, lv, o7, o8, rfl, q⟩
      refine ⟨_, rfl, _, rfl, _, rfl, _, rfl, _, rfl, r, W, hp, hl, p, wl, m, ly, f, ws, n, st, d, pd, lv, rfl, q, fun T p' wl' n' s' d' pd' lv' H10 q' hT => ?_⟩
      refine ⟨T, _, rfl, SqT.of hT, rfl, _, _, rfl, _, _, rfl, rfl, ?_⟩
      clear q
      have q := q'
      obtain ⟨nn, rfl⟩ : ∃ nn : Nat, n' = (nn : Int) := ⟨n'.toNat, by have := q.rel.n0; omega⟩
      have nn5 : nn ≤ 5 := by have := q.rel.nd; have := q.rel.dc; omega
      have pd0 : 0 ≤ pd' ∧ pd' ≤ 4 := by
        have := q.rel.pd
        have := q.rel.s0
        have := q.rel.s5
        split at * <;> omega
      refine ⟨fun σ2 H => σ2 = [some (.ref sc), some (.ref r), some (.ref W), none, some (.ref hp), some (.ref p'), some (.ref m), some (.int (0 + (i : Int))), some (.bl true), none, none] ∧ Q5 K H r W hp hl p' wl' m ly f ws (nn : Int) s' d' pd' lv', ?_, ?_⟩
      · obtain ⟨dp, hpr⟩ := q.pr
        refine ⟨_, rfl, true, rfl, iteF ?_⟩
        refine ⟨_, rfl, p', dp, _, rfl, hpr, rfl, p', wl', hp, _, pd', rfl, ⟨dp, hpr⟩, pd0.1, pd0.2, fun v1 H11 s11 i1 => ?_⟩
        have q1 := q.same s11
        refine ⟨_, rfl, m, _, s', _, ly, d', rfl, q1.m, fun v2 H12 s12 i2 => ?_⟩
        have q2 := q1.same s12
        obtain ⟨dd, e1, e2, e3, e4⟩ := ins_same i1 i2 s12 q.rel.pd q.rel.s0 q.rel.s5
        refine ⟨dd, dd, e1, e2, e3, e3, ?_⟩
        rw [e4]
        refine ⟨_, rfl, iteF ?_⟩
        obtain ⟨dp2, hpr2⟩ := q2.pr
        refine ⟨_, rfl, p', dp2, _, rfl, hpr2, rfl, p', wl', hp, nn, pd', rfl, ⟨dp2, hpr2⟩, by omega, fun H13 s13 => ?_⟩
        have q3 := q2.same s13
        refine ⟨_, rfl, m, .int (nn : Int), rfl, DGet.k (k := .inr "noted") q3.m, nn, rfl, by omega, fun H14 s14 => ?_⟩
        refine ⟨rfl, _, rfl, ?_⟩
        rw [decide_eq_true rfl]
        exact iteF ⟨rfl, q3.same s14⟩
      rintro σ2 H11 ⟨rfl, q1⟩
      obtain ⟨dh1, hh1⟩ := q1.h.ins
      refine ⟨_, rfl, hp, dh1, _, rfl, hh1, rfl, hp, hl, _, d', rfl, q1.h, fun pp hpp => ?_⟩
      have q2 := q1.same (Same.new (o := .lst (lyR ws lv')) hpp)
      have hpp2 := upd_same (H := H11) (a := pp) (o := .lst (lyR ws lv'))
      generalize upd H11 pp (.lst (lyR ws lv')) = H12 at q2 hpp2 ⊢
      have lvl : lv'.length ≤ 100 := by have := q2.up.len; have := q2.rel.dc; omega
      refine ⟨_, rfl, m, .ref ly, rfl, DGet.k (k := .inr "lying") q2.m, ly, rfl, ⟨_, SqL.of q2.lY⟩, fun D hD => ?_⟩
      have lyl : (lyR ws lv').length = lv'.length := by unfold lyR; rw [List.length_map]
      refine lc_known (xs := lv'.map V.int) (ys := lyR ws lv') hD (SqL.of q2.lY) (by rw [lyl, List.length_map]) (by rw [lyl]; exact Nat.le_of_lt (small1 (by omega))) (fun _ => rfl) (fun j x y H2 Q1 hx hy sm k1 => ?_) (fun H13 s13 hD13 => ?_)
      · rw [List.getElem?_map] at hx
        obtain ⟨kk, hkk, rfl⟩ := Option.map_eq_some_iff.mp hx
        unfold lyR at hy
        rw [List.getElem?_map, hkk] at hy
        obtain rfl := Option.some.inj hy
        have hlo := q2.up.lo kk (List.mem_of_getElem? hkk)
        have := q2.rel.dc
        exact ⟨_, rfl, _, rfl, W, _, _, _, rfl, rfl, SqL.of (sm _ _ q2.w), ref_at hlo.1 (by omega), k1 H2 fun _ _ z => z⟩
      have q3 := q2.same s13
      have shl := rsl_sh q3.sh q3.up q3.rel.dc
      rw [lyR_rsl] at hD13 hpp2
      refine ⟨pShs ((rsl ws lv').map f), pShs ((rsl ws lv').map f), dp_shs shl (s13 _ _ hpp2), dp_shs shl hD13, shaped_shs _, shaped_shs _, ?_⟩
      rw [eqv_shs]
      obtain ⟨dh3, hh3⟩ := q3.h.ins
      refine ⟨_, rfl, iteF ⟨_, rfl, hp, dh3, _, rfl, hh3, rfl, hp, hl, _, d', rfl, q3.h, _, rfl, m, .int d', rfl, DGet.k (k := .inr "dropped") q3.m, rfl, _, rfl, ?_⟩⟩
      rw [decide_eq_true rfl]
      exact iteF ⟨p', wl', (nn : Int), s', d', pd', lv', _, _, rfl, q3⟩
    · rintro σ' H9 ⟨p, wl, n, st, d, pd, lv, o7, o8, rfl, q⟩
      exact ⟨p, wl, n, st, d, pd, lv, o7, o8, rfl, q⟩
  rintro σ2 H8 ⟨p, wl, n, st, d, pd, lv, o7, o8, rfl, q⟩
  refine ⟨fun σ2 H => ∃ (s d pd : Int) (lv : List Int) (o7 : Option V), σ2 = [some (.ref sc), some (.ref r), some (.ref W), none, some (.ref hp), some (.ref p), some (.ref m), o7, o8, none, none] ∧ Q5 K H r W hp hl p wl m ly f ws (ws.length : Int) s d pd lv, ?_, ?_⟩
  · refine ⟨_, rfl, by decide, by decide, ?_⟩
    refine for_range (lo := 0) (n := 50) (fun i σ2 H => ∃ (n s d pd : Int) (lv : List Int) (o7 : Option V), σ2 = [some (.ref sc), some (.ref r), some (.ref W), none, some (.ref hp), some (.ref p), some (.ref m), o7, o8, none, none] ∧ Q5 K H r W hp hl p wl m ly f ws n s d pd lv ∧ (n = (ws.length : Int) ∨ 6 * ((ws.length : Int) - n) - s ≤ 30 - (i : Int))) ⟨n, st, d, pd, lv, _, rfl, q, .inr ?_⟩ ?_ ?_
    · have := q.rel.n0
      have := q.rel.s0
      omega
    · rintro i σ' H9 hi ⟨n, st, d, pd, lv, o7, rfl, q, hm⟩
      obtain ⟨dp, hpr⟩ := q.pr
      refine ⟨_, rfl, p, dp, _, rfl, hpr, rfl, ?_⟩
      unfold tNil
      refine q.stepS fun z H4 h4 => ?_
      refine ⟨_, rfl, h4 _ _ fun n' s' d' pd' lv' H5 q5 hms => ?_⟩
      refine ⟨rfl, _, rfl, ?_⟩
      rw [decide_eq_true rfl]
      refine iteF ⟨n', s', d', pd', lv', _, rfl, q5, ?_⟩
      rcases hms with ⟨e1, e2⟩ | h
      · exact .inl (e2.trans e1)
      · rcases hm with e | hm
        · exact absurd e h.1
        · refine .inr ?_
          have := h.2
          omega
    · rintro σ' H9 ⟨n, st, d, pd, lv, o7, rfl, q, hm⟩
      have e : n = (ws.length : Int) := by
        rcases hm with e | hm
        · exact e
        · have := q.rel.s5
          have := q.rel.nd
          have := q.rel.dc
          omega
      subst e
      exact ⟨st, d, pd, lv, o7, rfl, q⟩
  rintro σ2 H9 ⟨st, d, pd, lv, o7, rfl, q⟩
  have w5 := q.rel.c5
  have hde : d = (ws.length : Int) := by have := q.rel.nd; have := q.rel.dc; omega
  subst hde
  refine ⟨fun σ2 H => σ2 = [some (.ref sc), some (.ref r), some (.ref W), none, some (.ref hp), some (.ref p), some (.ref m), o7, o8, none, none] ∧ Q5 K H r W hp hl p wl m ly f ws (ws.length : Int) st (ws.length : Int) pd lv, ?_, ?_⟩
  · obtain ⟨dp, hpr⟩ := q.pr
    refine ⟨_, rfl, p, dp, _, rfl, hpr, rfl, ?_⟩
    unfold tNil
    refine q.over rfl fun H10 q1 => ⟨rfl, _, rfl, ?_⟩
    rw [decide_eq_true rfl]
    obtain ⟨dh1, hh1⟩ := q1.h.ins
    refine iteF ⟨_, rfl, hp, dh1, _, rfl, hh1, rfl, hp, hl, _, _, rfl, q1.h, _, rfl, W, _, rfl, .inl (SqL.of q1.w), rfl, _, rfl, ?_⟩
    rw [List.length_map, decide_eq_true rfl]
    obtain ⟨dp1, hpr1⟩ := q1.pr
    refine iteF ⟨_, rfl, p, dp1, _, rfl, hpr1, rfl, p, wl, hp, ws.length, pd, rfl, ⟨dp1, hpr1⟩, by omega, fun H13 s13 => ?_⟩
    have q3 := q1.same s13
    refine ⟨_, rfl, W, _, rfl, .inl (SqL.of q3.w), ws.length, (by rw [List.length_map]; rfl), by omega, fun H14 s14 => ⟨rfl, _, rfl, ?_⟩⟩
    rw [decide_eq_true rfl]
    exact iteF ⟨rfl, q3.same s14⟩
  rintro σ2 H10 ⟨rfl, q1⟩
  have lvl : lv.length ≤ 5 := by have := q1.up.len; omega
  have lyl : (lyR ws lv).length = lv.length := by unfold lyR; rw [List.length_map]
  refine ⟨fun σ2 H => σ2 = [some (.ref sc), some (.ref r), some (.ref W), none, some (.ref hp), some (.ref p), some (.ref m), o7, o8, none, none] ∧ Q5 K H r W hp hl p wl m ly f ws (ws.length : Int) st (ws.length : Int) pd lv, ?_, ?_⟩
  · refine ⟨_, rfl, m, .ref ly, rfl, DGet.k (k := .inr "lying") q1.m, _, rfl, m, .ref ly, rfl, DGet.k (k := .inr "lying") q1.m, ly, lv, rfl, SqL.of q1.lY, fun ns' pp hperm hpw hpp => ?_⟩
    have e : ns' = lv := List.Perm.eq_of_pairwise (fun x y _ _ h1 h2 => Int.le_antisymm h1 h2) hpw (q1.up.pw.imp fun h => Int.le_of_lt h) hperm
    subst e
    refine ⟨pInts ns', pInts ns', dp_ints (SqL.of ((Same.new hpp) _ _ q1.lY)), dp_ints (SqL.of upd_same), shaped_ints _, shaped_ints _, ?_⟩
    rw [eqv_ints, decide_eq_true rfl]
    have q2 := q1.same (Same.new (o := .lst (ns'.map V.int)) hpp)
    generalize upd H10 pp (.lst (ns'.map V.int)) = H11 at q2 ⊢
    obtain ⟨dh1, hh1⟩ := q2.h.ins
    refine ⟨_, rfl, iteF ⟨_, rfl, hp, dh1, _, rfl, hh1, rfl, hp, hl, _, _, rfl, q2.h, fun pp hpp => ?_⟩⟩
    have q2 := q2.same (Same.new (o := .lst (lyR ws ns')) hpp)
    have hpp2 := upd_same (H := H11) (a := pp) (o := .lst (lyR ws ns'))
    generalize upd H11 pp (.lst (lyR ws ns')) = H12 at q2 hpp2 ⊢
    refine ⟨_, rfl, m, .ref ly, rfl, DGet.k (k := .inr "lying") q2.m, ly, rfl, ⟨_, SqL.of q2.lY⟩, fun D hD => ?_⟩
    refine lc_known (xs := ns'.map V.int) (ys := lyR ws ns') hD (SqL.of q2.lY) (by rw [lyl, List.length_map]) (by rw [lyl]; exact Nat.le_of_lt (small1 (by omega))) (fun _ => rfl) (fun j x y H2 Q1 hx hy sm k1 => ?_) (fun H13 s13 hD13 => ?_)
    · rw [List.getElem?_map] at hx
      obtain ⟨kk, hkk, rfl⟩ := Option.map_eq_some_iff.mp hx
      unfold lyR at hy
      rw [List.getElem?_map, hkk] at hy
      obtain rfl := Option.some.inj hy
      have hlo := q2.up.lo kk (List.mem_of_getElem? hkk)
      exact ⟨_, rfl, _, rfl, W, _, _, _, rfl, rfl, SqL.of (sm _ _ q2.w), ref_at hlo.1 (by omega), k1 H2 fun _ _ z => z⟩
    have q3 := q2.same s13
    have shl := rsl_sh q3.sh q3.up (Int.le_refl _)
    rw [lyR_rsl] at hD13 hpp2
    refine ⟨pShs ((rsl ws ns').map f), pShs ((rsl ws ns').map f), dp_shs shl (s13 _ _ hpp2), dp_shs shl hD13, shaped_shs _, shaped_shs _, _, rfl, ?_⟩
    rw [eqv_shs]
    exact iteF ⟨rfl, q3⟩
  rintro σ2 H11 ⟨rfl, q2⟩
  have shl := rsl_sh q2.sh q2.up (Int.le_refl _)
  -- what is missing
  obtain ⟨lvn, rfl⟩ : ∃ l : List Nat, lv = l.map fun n : Nat => (n : Int) := ⟨lv.map Int.toNat, by
    rw [List.map_map]
    refine (List.map_id _).symm.trans (List.map_congr_left fun x hx => ?_)
    have := q2.up.lo x hx
    show x = ((x.toNat : Nat) : Int)
    omega⟩
  have hrsl : (rsl ws (lvn.map fun n : Nat => (n : Int))).map f = lvn.map fun k => (ws.map f).getD (k - 0) (f 0) := by
    unfold rsl
    rw [List.map_map, List.map_map]
    refine List.map_congr_left fun k hk => ?_
    show f (ws.getD (((k : Nat) : Int)).toNat 0) = _
    rw [Int.toNat_natCast, Nat.sub_zero, List.getD_eq_getElem?_getD, List.getD_eq_getElem?_getD, List.getElem?_map]
    cases ws[k]? <;> rfl
  have hsel : Sel (ws.map f) ((rsl ws (lvn.map fun n : Nat => (n : Int))).map f) 0 ((List.range' 0 (ws.map f).length).filter fun k => decide (k ∉ lvn)) := by
    rw [hrsl]
    refine sel_comp (f 0) (ws.map f) 0 lvn ?_ fun k hk => ⟨Nat.zero_le _, ?_⟩
    · have := q2.up.pw
      rw [List.pairwise_map] at this
      exact this.imp fun h => by omega
    · have := q2.up.lo (k : Int) (List.mem_map.mpr ⟨k, hk, rfl⟩)
      rw [List.length_map]
      omega
  obtain ⟨g, hg⟩ := greedy_some hsel
  have gsel := greedy_sel hg
  have glen := gsel.len
  have rl : (rsl ws (lvn.map fun n : Nat => (n : Int))).length = lvn.length := by unfold rsl; rw [List.length_map, List.length_map]
  rw [List.length_map, List.length_map, rl] at glen
  obtain ⟨dh2, hh2⟩ := q2.h.ins
  refine ⟨_, rfl, _, rfl, hp, dh2, _, rfl, hh2, rfl, hp, hl, _, _, rfl, q2.h, fun pp hpp => ?_⟩
  have q3 := q2.same (Same.new (o := .lst (lyR ws (lvn.map fun n : Nat => (n : Int)))) hpp)
  have hpp3 := upd_same (H := H11) (a := pp) (o := .lst (lyR ws (lvn.map fun n : Nat => (n : Int))))
  generalize upd H11 pp (.lst (lyR ws (lvn.map fun n : Nat => (n : Int)))) = H12 at q3 hpp3 ⊢
  rw [lyR_rsl] at hpp3
  have shl3 := rsl_sh q3.sh q3.up (Int.le_refl _)
  refine ⟨W, pp, f, ws, _, g, rfl, q3.w, hpp3, q3.sh, shl3, by omega, by omega, hg, fun G H13 hG s13 hG13 => ?_⟩
  have q4 := q3.same s13
  have Gn : G ≠ r := fun e => by
    obtain ⟨ns, h⟩ := q3.dr
    rw [e, h] at hG
    cases hG
  refine ⟨fun σ2 H => σ2 = [some (.ref sc), some (.ref r), some (.ref W), none, some (.ref hp), some (.ref p), some (.ref m), o7, o8, some (.ref G), none] ∧ Same H13 H, ?_, ?_⟩
  · refine ⟨_, rfl, G, _, rfl, .inl (SqL.of hG13), _, rfl, W, _, rfl, .inl (SqL.of q4.w), _, rfl, m, .ref ly, rfl, DGet.k (k := .inr "lying") q4.m, ly, _, rfl, .inl (SqL.of q4.lY), _, _, rfl, rfl, rfl, _, rfl, ?_⟩
    have e : V.int (((g.map fun n : Nat => V.int (n : Int)).length : Nat) : Int) = V.int ((((ws.map V.ref).length : Nat) : Int) - ((((lvn.map fun n : Nat => (n : Int)).map V.int).length : Nat) : Int)) := by
      congr 1
      simp only [List.length_map]
      omega
    rw [decide_eq_true e]
    exact iteF ⟨rfl, fun _ _ z => z⟩
  rintro σ2 H14 ⟨rfl, s14⟩
  have q5 := q4.same s14
  have hG14 := s14 _ _ hG13
  refine ⟨fun σ2 H => σ2 = [some (.ref sc), some (.ref r), some (.ref W), none, some (.ref hp), some (.ref p), some (.ref m), o7, o8, some (.ref G), none] ∧ Same H14 H, ?_, ?_⟩
  · have wl' : (ws.map V.ref).length = ws.length := List.length_map ..
    refine ⟨_, rfl, W, _, rfl, .inl (SqL.of q5.w), _, rfl, by rw [wl']; omega, by rw [wl']; omega, fun D hD => ?_⟩
    rw [wl']
    refine lc_range (g := gName 3) (lo := 0) (n := ((ws.length : Int)).toNat) (fun i H' => (∃ acc : List V, H' D = some (.lst acc) ∧ acc.length ≤ i ∧ (acc = [] → ∀ j, j < i → ∀ x, (ws.map f)[j]? = some x → x ∉ (ws.map f).take j)) ∧ Same H14 H') ⟨⟨[], upd_same, Nat.le_refl _, fun _ j hj => absurd hj (Nat.not_lt_zero _)⟩, Same.new hD⟩ ?_ ?_
    · rintro i H15 hi ⟨⟨acc, hacc, al, hn⟩, s15⟩
      have il : i < ws.length := by omega
      have q6 := q5.same s15
      have i0 : (0 : Int) + (i : Int) = (i : Int) := by omega
      refine ⟨rfl, _, rfl, _, rfl, W, _, _, .ref (ws.getD i 0), rfl, rfl, SqL.of q6.w, by rw [i0, show (i : Nat) = ((i : Int)).toNat by omega]; exact ref_at (by omega) (by omega), _, rfl, _, rfl, _, rfl, W, _, rfl, SqL.of q6.w, fun pp hpp => ?_⟩
      have ect : cutV (ws.map V.ref) none (some ((0 : Int) + (i : Int))) = (ws.take i).map V.ref := by
        rw [i0]
        unfold cutV
        rw [HT.sIx_nat, HT.sIx_none, List.drop_zero, Nat.sub_zero, wl', Nat.min_eq_left (by omega), List.map_take]
      rw [ect]
      have q7 := q6.same (Same.new (o := .lst ((ws.take i).map V.ref)) hpp)
      have shi := q7.sh _ (getD_mem il)
      have sht : AllSh (upd H15 pp (.lst ((ws.take i).map V.ref))) f (ws.take i) := fun x hx => q7.sh x (List.mem_of_mem_take hx)
      refine ⟨pSh (f (ws.getD i 0)), ((ws.take i).map f).map pSh, dpSh shi, dp_shs sht upd_same, pSh_shaped _, shaped_shs _, _, rfl, ?_⟩
      have hany : ((((ws.take i).map f).map pSh).any fun z => PyData.eqv z (pSh (f (ws.getD i 0)))) = decide (f (ws.getD i 0) ∈ (ws.take i).map f) := by
        rw [List.any_map, Bool.eq_iff_iff, List.any_eq_true, decide_eq_true_eq]
        constructor
        · rintro ⟨x, hx, h⟩
          have h : PyData.eqv (pSh x) (pSh (f (ws.getD i 0))) = true := h
          rw [pSh_eqv, decide_eq_true_eq] at h
          rw [← h]
          exact hx
        · intro h
          refine ⟨_, h, ?_⟩
          show PyData.eqv (pSh _) (pSh _) = true
          rw [pSh_eqv, decide_eq_true rfl]
      rw [hany]
      have s16 : Same H14 (upd H15 pp (.lst ((ws.take i).map V.ref))) := s15.trans (Same.new hpp)
      have hacc' := (Same.new (o := .lst ((ws.take i).map V.ref)) hpp) _ _ hacc
      generalize upd H15 pp (.lst ((ws.take i).map V.ref)) = H16 at s16 hacc' ⊢
      refine ite2 (fun h => ?_) (fun h => ?_)
      · exact ⟨_, rfl, acc, hacc', small1 (by omega), ⟨acc ++ [_], upd_same, by rw [List.length_append]; exact Nat.succ_le_succ al, fun e => by simp at e⟩, Same.put s16 hD⟩
      · refine ⟨⟨acc, hacc', by omega, fun e j hj x hx => ?_⟩, s16⟩
        by_cases q : j < i
        · exact hn e j q x hx
        · obtain rfl : j = i := by omega
          rw [List.getElem?_map, List.getElem?_eq_getElem il] at hx
          have ex : f (ws.getD j 0) = x := by
            rw [List.getD_eq_getElem?_getD, List.getElem?_eq_getElem il]
            exact Option.some.inj hx
          rw [← ex, ← List.map_take]
          exact fun z => h (decide_eq_true z)
    rintro H15 ⟨⟨acc, hacc, al, hn⟩, s15⟩
    rw [show ((ws.length : Int)).toNat = ws.length by omega] at al hn
    have q6 := q5.same s15
    refine ⟨D, acc, rfl, .inl (SqL.of hacc), rfl, _, rfl, ?_⟩
    refine ite2 (fun h => ?_) (fun _ => ⟨rfl, s15⟩)
    have an : acc = [] := by
      have := V.int.inj (of_decide_eq_true h)
      cases acc with
      | nil => rfl
      | cons a b => rw [List.length_cons] at this; omega
    have nd : (ws.map f).Nodup := List.pairwise_iff_getElem.mpr fun a b ha hb hab e =>
      hn an b (by rw [List.length_map] at hb; exact hb) _ (List.getElem?_eq_getElem hb) (List.mem_of_getElem? (i := a) (by rw [List.getElem?_take, if_pos hab, List.getElem?_eq_getElem ha, e]))
    have ge : g = (List.range' 0 ws.length).filter fun k => decide (k ∉ lvn) := by
      have := gsel.one nd hsel
      rw [List.length_map] at this
      exact this
    refine ⟨_, rfl, _, rfl, W, _, rfl, .inl (SqL.of q6.w), _, rfl, by rw [wl']; omega, by rw [wl']; omega, fun D2 hD2 => ?_⟩
    rw [wl']
    refine lc_range (g := gName 3) (lo := 0) (n := ((ws.length : Int)).toNat) (fun i H' => H' D2 = some (.lst (((List.range i).filter fun k => decide (k ∉ lvn)).map fun n : Nat => V.int (n : Int))) ∧ Same H15 H') ⟨upd_same, Same.new hD2⟩ ?_ ?_
    · rintro i H16 hi ⟨hd, s16⟩
      have q7 := q6.same s16
      have i0 : (0 : Int) + (i : Int) = (i : Int) := by omega
      have hin : (!inV (V.int ((0 : Int) + (i : Int))) ((lvn.map fun n : Nat => (n : Int)).map V.int)) = decide (i ∉ lvn) := by
        rw [inV_ints, i0]
        have : decide ((i : Int) ∈ lvn.map fun n : Nat => (n : Int)) = decide (i ∈ lvn) := decide_eq_decide.mpr ⟨fun h => by
          obtain ⟨a, ha, e⟩ := List.mem_map.mp h
          have : a = i := by omega
          rw [← this]; exact ha, fun h => List.mem_map.mpr ⟨i, h, rfl⟩⟩
        rw [this]
        by_cases h : i ∈ lvn
        · rw [decide_eq_true h, decide_eq_false (fun q => q h)]; rfl
        · rw [decide_eq_false h, decide_eq_true h]; rfl
      have fl : ((lvn.map fun n : Nat => (n : Int)).map V.int).all flatV = true := by
        rw [List.all_map]
        exact List.all_eq_true.mpr fun _ _ => rfl
      refine ⟨rfl, _, rfl, _, rfl, m, .ref ly, rfl, DGet.k (k := .inr "lying") q7.m, ly, _, rfl, .inl (SqL.of q7.lY), rfl, fl, _, rfl, ?_⟩
      show ite ((!inV (V.int ((0 : Int) + (i : Int))) ((lvn.map fun n : Nat => (n : Int)).map V.int)) = true) _ _
      rw [hin]
      have ft : (List.range (i + 1)).filter (fun k => decide (k ∉ lvn)) = (List.range i).filter (fun k => decide (k ∉ lvn)) ++ (if decide (i ∉ lvn) = true then [i] else []) := by
        rw [List.range_succ, List.filter_append]
        congr 1
        rw [List.filter_cons]
        split <;> rfl
      have fll : ((List.range i).filter fun k => decide (k ∉ lvn)).length ≤ i := Nat.le_trans (List.length_filter_le _ _) (by rw [List.length_range]; exact Nat.le_refl _)
      refine ite2 (fun h => ?_) (fun h => ?_)
      · refine ⟨_, rfl, _, hd, by rw [List.length_map]; exact small1 (by omega), ?_, Same.put s16 hD2⟩
        rw [upd_same, ft, if_pos h, List.map_append]
        show some (HO.lst (_ ++ [V.int ((0 : Int) + (i : Int))])) = some (HO.lst (_ ++ [V.int (i : Int)]))
        rw [i0]
      · refine ⟨?_, s16⟩
        rw [ft, if_neg h, List.append_nil]
        exact hd
    rintro H16 ⟨hd, s16⟩
    rw [show ((ws.length : Int)).toNat = ws.length by omega, List.range_eq_range', ← ge] at hd
    have im : ∀ l : List Nat, (l.map fun n : Nat => V.int (n : Int)) = (l.map fun n : Nat => (n : Int)).map V.int := fun l => by rw [List.map_map]; rfl
    rw [im] at hd
    have hG16 := s16 _ _ (s15 _ _ hG14)
    rw [im] at hG16
    refine ⟨pInts (g.map fun n : Nat => (n : Int)), pInts (g.map fun n : Nat => (n : Int)), dp_ints (SqL.of hG16), dp_ints (SqL.of hd), shaped_ints _, shaped_ints _, ?_⟩
    rw [eqv_ints, decide_eq_true rfl]
    exact ⟨_, rfl, iteF ⟨rfl, s15.trans s16⟩⟩
  rintro σ2 H15 ⟨rfl, s15⟩
  have q6 := q5.same s15
  have hG15 := s15 _ _ hG14
  have glo : ∀ i, i ∈ g → i < ws.length := fun i hi => by
    have := gsel.lo i hi
    rw [List.length_map] at this
    omega
  refine ⟨fun σ2 H => σ2 = [some (.ref sc), some (.ref r), some (.ref W), none, some (.ref hp), some (.ref p), some (.ref m), o7, o8, some (.ref G), none] ∧ Same H15 H, ?_, ?_⟩
  · obtain ⟨dh6, hh6⟩ := q6.h.ins
    refine ⟨_, rfl, _, rfl, hp, dh6, _, rfl, hh6, rfl, hp, hl, _, _, rfl, q6.h, fun pp hpp => ?_⟩
    have s16 := Same.new (o := .lst (lyR ws (lvn.map fun n : Nat => (n : Int)))) hpp
    have hpp7 := upd_same (H := H15) (a := pp) (o := .lst (lyR ws (lvn.map fun n : Nat => (n : Int))))
    generalize upd H15 pp (.lst (lyR ws (lvn.map fun n : Nat => (n : Int)))) = H16 at s16 hpp7 ⊢
    have q7 := q6.same s16
    rw [lyR_rsl] at hpp7
    have hG16 := s16 _ _ hG15
    refine ⟨_, rfl, G, rfl, ⟨_, SqL.of hG16⟩, fun D hD => ?_⟩
    have dl : (dueR ws g).length = g.length := by unfold dueR; rw [List.length_map]
    refine lc_known (xs := g.map fun n : Nat => V.int (n : Int)) (ys := (dueR ws g).map V.ref) hD (SqL.of hG16) (by rw [List.length_map, List.length_map, dl]) (by rw [List.length_map, dl]; exact Nat.le_of_lt (small1 (by omega))) (fun _ => rfl) (fun j x y H2 Q1 hx hy sm k1 => ?_) (fun H17 s17 hD17 => ?_)
    · rw [List.getElem?_map] at hx
      obtain ⟨kk, hkk, rfl⟩ := Option.map_eq_some_iff.mp hx
      unfold dueR at hy
      rw [List.getElem?_map, List.getElem?_map, hkk] at hy
      obtain rfl := Option.some.inj hy
      have hlo := glo kk (List.mem_of_getElem? hkk)
      exact ⟨_, rfl, _, rfl, W, _, _, _, rfl, rfl, SqL.of (sm _ _ q7.w), ref_at (k := (kk : Int)) (by omega) (by omega), k1 H2 fun _ _ z => z⟩
    have q8 := q7.same s17
    refine ⟨W, pp, D, f, ws, _, g, rfl, q8.w, s17 _ _ hpp7, hD17, q8.sh, rsl_sh q8.sh q8.up (Int.le_refl _), by omega, by omega, hg, fun rr H18 hrr s18 hr18 => ?_⟩
    have q9 := q8.same s18
    refine ⟨_, rfl, pShs (ws.map f), pShs (ws.map f), dp_shs q9.sh hr18, dp_shs q9.sh q9.w, shaped_shs _, shaped_shs _, ?_⟩
    rw [eqv_shs]
    exact ⟨_, rfl, iteF ⟨rfl, s16.trans (s17.trans s18)⟩⟩
  rintro σ2 H16 ⟨rfl, s16⟩
  have q7 := q6.same s16
  refine ⟨_, rfl, W, _, rfl, .inl (SqL.of q7.w), _, _, rfl, rfl, ws.length + 1, (by rw [List.length_map]; rfl), by omega, fun H17 s17 => ?_⟩
  have q8 := q7.same s17
  have b1 : (true && (decide (((ws.length + 1 : Nat) : Int) ≤ (ws.length : Int)) && decide (ws.length + 1 ≤ (ws.map V.ref).length))) = false := by
    rw [decide_eq_false (by omega)]
    rfl
  refine ⟨_, rfl, _, rfl, _, rfl, W, hp, hl, ws.map V.ref, _, _, notesS (ws.length + 1), ws.length + 1, true, rfl, q8.w, q8.h, jn_whole (by omega), b1, fun H18 s18 => ⟨_, rfl, iteT ?_⟩⟩
  have q9 := q8.same s18
  refine ⟨_, rfl, _, rfl, W, hp, hl, ws.map V.ref, _, _, Str.ofString "done 1\n", 1, false, rfl, q9.w, q9.h, jn_bad, rfl, fun H19 s19 => ⟨_, rfl, iteT ?_⟩⟩
  have qa := q9.same s19
  refine ⟨_, rfl, (by show 3 ≤ sizeLine; decide), fun T hT => ⟨(by show 1 ≤ sizeLine; decide), fun L hL => ?_⟩⟩
  have qb := (qa.same (Same.new (o := .tup [V.int 9, V.str "front", V.str "back"]) hT)).same (Same.new (o := .lst [V.ref T]) hL)
  refine ⟨W, L, _, _, rfl, rfl, qb.w, upd_same, Nat.le_of_lt (small1 (by rw [List.length_map, List.length_singleton]; omega)), fun u hu => ?_⟩
  have qc := qb.same (Same.new (o := .lst (ws.map V.ref ++ [V.ref T])) hu)
  have b2 : (true && (decide (((ws.length + 1 : Nat) : Int) ≤ (ws.length : Int)) && decide (ws.length + 1 ≤ (ws.map V.ref ++ [V.ref T]).length))) = false := by
    rw [decide_eq_false (by omega)]
    rfl
  exact ⟨_, rfl, _, rfl, u, hp, hl, _, _, _, notesS (ws.length + 1), ws.length + 1, true, rfl, upd_same, qc.h, jn_whole (by omega), b2, fun H20 s20 => k H20⟩
end
end Sx

set_option Elab.async false
set_option linter.all false
set_option maxRecDepth 100000
set_option maxHeartbeats 0
namespace Sx
open PySem PySem.Spec PyProof.Rows L2 SxK
theorem facts {P : Program} (hfile : P.main.file = xStrangeSheet.file) (htop : (P.main.scope.names.lookup ("super" : Str)).isSome = false) {w : World} {K : PySem.W.Frag} {h : Heap} {mg : Str → Option Value} {f : Addr} (X : K.In h) (G : h.Ns mainGlobals mg) (hfa : mg ("law" : Str) = some (.ref f)) (c : SxK.SaysXU fa fn xs ts us ys w K) :
    ∃ fd : FuncData, (∀ (s : Shared) (v : Value), BindsTo s fd ⟨[v], []⟩ [("script", v)]) ∧ ∀ base : Heap, K.In base → base.Ns mainGlobals mg → FnOk P w K mg base CX0 8 f fd ["script"] (spLaw K) := by
  have t : T K mg := ⟨c.x, h, X, G⟩
  have ip : InP K := fun H => c.tup 0 rfl H
  have px := c.pex 0 (x := "InvalidJournal") rfl X G
  obtain ⟨fd, F⟩ := t.d_law
  have e := hfa.symm.trans t.g_law
  cases e
  have b := FunD.bindsA (ps := ["script"]) F fun _ _ _ _ _ _ us hl => match us, hl with | [_], _ => rfl
  exact ⟨fd, fun s v => b s [v] rfl, fun base _ _ => ok_law t ip px (t.e_StrangeSheet hfile htop) (t.e_NotMissing hfile htop) F⟩
end Sx
open PySem PySem.W PySem.Calls PyProof.Rows
set_option maxRecDepth 100000 in
set_option maxHeartbeats 0 in
theorem PySem.Challenge.cw_sixdot_k50_whole_presses_press_each_shee_holds : PySem.Challenge.rw_sixdot_k50_whole_presses_press_each_shee.Holds := by
  w_on; o_law
  refine HandSHeadRun.head_any (r := OpenLaw.row PySem.Challenge.rw_sixdot_k50_whole_presses_press_each_shee) (q := view (OpenLaw.row PySem.Challenge.rw_sixdot_k50_whole_presses_press_each_shee).prog [27]) (H := Sx.hk) (ob := Sx.ob) (M := 4000) (loose := Sx.loose) (d := HandSHeadRun.topDef (OpenLaw.row PySem.Challenge.rw_sixdot_k50_whole_presses_press_each_shee).prog 27) (kwd := []) Sx.ob_eq
    (by kernel_rfl) (fun s => by kernel_rfl) Sx.run (by kernel_rfl) (by kernel_rfl) (by kernel_rfl) (by rfl) (by first | assumption | decide +kernel) (by decide +kernel) ⟨rfl, rfl, rfl, rfl, rfl, by decide +kernel⟩ ?hw ?hc
  case hw => w_witness2
  case hc =>
    refine L2.walk_ofE (l := PySem.Challenge.rw_sixdot_k50_whole_presses_press_each_shee) (n := 63) (k := 8) (x := "script") (CX := L2.CX0) rfl (by decide) (by kernel_rfl) ⟨rfl, by decide, by decide⟩ ?F (fun _ _ _ _ z => z)
    intro w mg fa h Y G hmg0
    obtain ⟨K, KX, c⟩ := Y
    have hmg : mg ("law" : PySem.Str) = some (.ref fa) := by
      have e : (HandSHeadRun.topDef (OpenLaw.row PySem.Challenge.rw_sixdot_k50_whole_presses_press_each_shee).prog 27).name = ("law" : PySem.Str) := by kernel_rfl
      rw [← e]
      exact hmg0
    obtain ⟨fd, hb, hF⟩ := Sx.facts (P := (PySem.Challenge.rw_sixdot_k50_whole_presses_press_each_shee).prog) (w := w) (by kernel_rfl) (by kernel_rfl) KX G hmg c
    exact ⟨K, fd, Sx.spLaw K, KX, hb, fun H a ns hl _ hS => ⟨a, ns, rfl, hS, hl, fun _ => rfl⟩, hF⟩
