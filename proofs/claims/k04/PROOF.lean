import PyProof.Rows.All
import Wide.All
import OpenK.AllK
import Wide.FinOn
import PyProof.StrWalks
import PyProof.Draws
import KE.KExcSuper
import HandS.ForMost
import HandS.Exc
import HandS.ExcInit
import HandS.ExcField
import HandS.ExcOwn
import HandS.FStr
import HandS.Defaults
import KE.KStateDown
import HandS.MakeKwOnly
import HandS.Head0
import HandS.Head1
import HandS.Head2
import HandS.HeadEnd
import HandS.HeadHook1
import HandS.HeadHook2
import HandS.HeadHook3
import HandS.WrittenGet
import HandS.ExcIs
import Wide.Once
import PyProof.Rows.SetFrom
import KE.KRevIter
import HandS.Rev
import HandS.RevTup
import HandS.Style
import HandS.Flow
import HandS.WideBits
import HandS.Codes
import HandS.Text
import PyProof.JoinWalk
import HandS.StrMore
import HandS.Call
import HandS.Deep
import KE.IntTextLaws
import HandS.ReplaceLit
import HandS.ReplaceDef
import PyProof.StrLawsReplace
import KE.GoesEnumKw
import HandS.StrSplit
import PyProof.StrLawsFirst
import HandS.RaiseMore
import HandS.IsInst
import HandS.TupLe
import KE.DataCmp
import KE.DataEq
import PySem.Challenge.RW_sixdot_k04_whole_books_written_and_read
set_option Elab.async false
set_option linter.all false
set_option maxRecDepth 100000
set_option maxHeartbeats 4000000
/-! rules that the layer lacks: enumerate over a text; two except clauses of which the first one has a name; super().__init__ of an own exception -/
namespace SxK
open PySem PySem.Spec PyProof.Rows L2
abbrev sgn (c : Nat) : Str := ⟨#[c]⟩
/-! ### for i, c in enumerate(text) -/
def Ise (z : Str) : It :=
  ⟨fun i _ => i < z.cps.size, fun i H v H' => ∃ T c, v = .ref T ∧ H T = none ∧ H' = upd H T (.tup [.int (i : Nat), .str (sgn c)]) ∧ z.cps[i]? = some c, fun i _ => z.cps.size ≤ i⟩
theorem drawsT {P : Program} {w : World} {A : Around} (hh : A.handled = none) (it : Addr) (z : Str) (t : Tok) : Draws P w A it [it] z.cps.size (SignAt z) (fun i h => h.IsStrIter it (strIterType z) z t i) := by
  unfold strIterType
  cases z.cps.all (· < 128)
  · exact Draws.strWide hh it z t
  · exact Draws.strAscii hh it z t
theorem turn_enumT {P : Program} {w : World} {K : PySem.W.Frag} {elts : List Expr} {kk : Nat} {tpos : Pos} (z : Str) (t : Tok) (e it : Addr) :
    Turn P w K (.Tuple elts kk tpos) (Ise z) [e, it] e (fun i h => (∃ old, IsEnum h e it ((i : Nat) : Int) old) ∧ h.IsStrIter it (strIterType z) z t i ∧ e ≠ it ∧ i ≤ z.cps.size) where
  mem := List.mem_cons_self
  obj := fun i h st b hb => by
    obtain ⟨⟨old, he⟩, ⟨o, ho, hcl, hdt⟩, _, _⟩ := st
    rcases List.mem_cons.mp hb with q | q
    · subst q; exact ⟨_, he, fun v n => nomatch n⟩
    · rw [List.mem_singleton.mp q]; exact ⟨o, ho, fun v n => by rw [hdt] at n; cases n⟩
  keep := fun i h h' st k => by
    obtain ⟨⟨old, he⟩, ⟨o, ho, r⟩, hne, hle⟩ := st
    exact ⟨⟨old, k e List.mem_cons_self _ he⟩, ⟨o, k it (List.mem_cons_of_mem _ List.mem_cons_self) o ho, r⟩, hne, hle⟩
  item := by
    intro X hP hw hK hc i pins s σ H E I hf st hg
    subst hP hw hK
    obtain ⟨⟨old, he⟩, hit, hne, hle⟩ := st
    have el : e < s.heap.objs.size := Heap.lt_size he
    have il : it < s.heap.objs.size := by
      obtain ⟨_, q, _⟩ := id hit
      exact Heap.lt_size q
    have D : Draws X.prog X.w X.A.in1 it [it] z.cps.size (SignAt z) (fun i h => h.IsStrIter it (strIterType z) z t i) := drawsT (A := X.A.in1) (show X.A.in1.handled = none from I.ok.hd hc) it z t
    refine wpAny_pyNext_enum_itemD D he hit hg hne (fun q => hne (List.mem_singleton.mp q)) fun x h' tk hx ho hit' hT hsz hk => ?_
    obtain ⟨c, u, hcz, rfl⟩ := hx
    refine ⟨_, rfl, wpAny_letOwnedTupleGo_enum (s := { s with heap := h', toks := tk + 1 }) ho fun h2 he2 sb => ?_⟩
    have hT2 : h2.get? s.heap.objs.size = some { cls := .type "tuple", data := .seq #[.int i tk, .str ⟨#[c]⟩ u] } := (sb.2 _ (Nat.ne_of_gt el)).trans hT
    have nw : ObjOk X.prog X.w (upd H s.heap.objs.size (.tup [.int (i : Nat), .str (sgn c)])) h2 s.heap.objs.size (.tup [.int (i : Nat), .str (sgn c)]) :=
      ⟨(by show 2 ≤ sizeLine; decide), [.int i tk, .str ⟨#[c]⟩ u], .cons ⟨_, rfl⟩ (.cons ⟨_, rfl⟩ .nil), ⟨_, hT2, rfl, _, rfl⟩⟩
    have I1 : Inv X pins σ (upd H s.heap.objs.size (.tup [.int (i : Nat), .str (sgn c)])) { s with heap := h2, toks := tk + 1 } :=
      I.turnedNew (ch := [e, it]) (fun b ob hb q => by
        have b1 : b ≠ e := fun n => hb (by rw [n]; exact List.mem_cons_self)
        have b2 : b ≠ it := fun n => hb (by rw [n]; exact List.mem_cons_of_mem _ List.mem_cons_self)
        exact (sb.2 b b1).trans (hk b ob b1 b2 q)) hf (Nat.le_refl _) nw
    have e1 : ((i + 1 : Nat) : Int) = (i : Int) + 1 := by omega
    refine ⟨.ref s.heap.objs.size, _, I1, rfl, ⟨_, c, rfl, I.hok.fresh (Nat.le_refl _), rfl, hcz⟩, ⟨⟨_, by rw [e1]; exact he2⟩, ?_, hne, Nat.succ_le_of_lt hg⟩, fun b hb => ?_⟩
    · obtain ⟨o, ho2, r⟩ := hit'
      exact ⟨o, (sb.2 it (Ne.symm hne)).trans ho2, r⟩
    · have lt : b < s.heap.objs.size := by
        rcases List.mem_cons.mp hb with q | q
        · rw [q]; exact el
        · rw [List.mem_singleton.mp q]; exact il
      rw [upd_ne (Nat.ne_of_lt lt)]
      exact (hf b hb).1
  done := by
    intro X hP hw hK hc i pins s σ H E I hf st hg
    subst hP hw hK
    obtain ⟨⟨old, he⟩, hit, hne, hle⟩ := st
    have D : Draws X.prog X.w X.A.in1 it [it] z.cps.size (SignAt z) (fun i h => h.IsStrIter it (strIterType z) z t i) := drawsT (A := X.A.in1) (show X.A.in1.handled = none from I.ok.hd hc) it z t
    obtain ⟨f0, f1, f2, f3, f4, f5⟩ := hf it (List.mem_cons_of_mem _ List.mem_cons_self)
    have ei : i = z.cps.size := Nat.le_antisymm hle hg
    subst ei
    exact wpAny_pyNext_enum_endD D he hit fun h' eb => ⟨rfl, I.turned (t' := s.toks) (fun b o hb q => eb b o hb q) f0 f1 f3 f4 f5⟩
  self := fun A i s Q E st h => by
    obtain ⟨⟨_, he⟩, _⟩ := st
    exact wpAny_pyIter_enum he h
def iEnumT (ta : TA) : TI := fun σ H R => ta σ H fun vs H1 => ∃ z : Str, vs = [.str z] ∧ R (Ise z) H1
theorem pi_enumT {X : Cx} {e : Expr} {ta : TA} {p pos tpos : Pos} {elts : List Expr} {kk : Nat} (hg : Gl X "enumerate") (hm : X.mg "enumerate" = none) (ha : PA X [e] ta) (hs : starEach [e] X.env = [(false, eval e X.env)] := by rfl) :
    PI X (.Tuple elts kk tpos) (.Call (.Name "enumerate" p) [e] [] pos) (iEnumT ta) := by
  refine ⟨fun pins s σ H R I h => ?_⟩
  refine Call_ (ld_blt I hg hm boot_enumerate (PyProof.Rows.callWith_type1 (thn (ha.run pos pins s σ H _ I h) fun us s1 ⟨vs, H1, I1, r1, z, ez, q⟩ => ?_) hs rfl))
  subst ez
  cases r1 with
  | cons r rr =>
    cases rr
    obtain ⟨t, rfl⟩ := r
    have gt : ∀ b, b ∈ [s1.heap.objs.size + 1, s1.heap.objs.size] → s1.heap.objs.size ≤ b := fun b hb => by
      rcases List.mem_cons.mp hb with n | n
      · rw [n]; exact Nat.le_add_right _ _
      · rw [List.mem_singleton.mp n]; exact Nat.le_refl _
    refine call_enumerate_str fun h' he hit hsz hk => wpAny_pyIter_enum he ?_
    exact ⟨s1.heap.objs.size + 1, [s1.heap.objs.size + 1, s1.heap.objs.size], _, _, H1, rfl, I1.kept (t' := s1.toks) hk, turn_enumT z t (s1.heap.objs.size + 1) s1.heap.objs.size,
      ⟨⟨.none, he⟩, hit, Nat.succ_ne_self _, Nat.zero_le _⟩, fun b hb => I1.fpOk (gt b hb) (I1.hok.fresh (gt b hb)), q⟩
theorem for_enumT {z : Str} {g : TG} {tb : TS} {D : Ends} {σ : L2.St} {H : Hp} (Pv : Nat → L2.St → Hp → Prop) (h0 : Pv 0 σ H)
    (hs : ∀ (i c : Nat) (T : Addr) (σ : L2.St) (H : Hp), z.cps.toList[i]? = some c → Pv i σ H → H T = none → g (.ref T) σ (upd H T (.tup [.int (i : Nat), .str (sgn c)])) fun σ2 H2 => tb { D with nx := Pv (i + 1), ct := Pv (i + 1), bk := D.nx } σ2 H2)
    (hd : ∀ σ H, Pv z.cps.toList.length σ H → D.nx σ H) :
    ∃ W : Nat → Nat → L2.St → Hp → Prop, (∃ m, W 0 m σ H) ∧ ∀ i m σ H, W i m σ H → ((Ise z).stop i H ∧ D.nx σ H) ∨ ((Ise z).go i H ∧ ∃ N : L2.St → Hp → Prop, (∀ σ' H', N σ' H' → ∃ m', m' < m ∧ W (i + 1) m' σ' H') ∧
      ∀ v H', (Ise z).yld i H v H' → g v σ H' fun σ2 H2 => tb { D with nx := N, ct := N, bk := D.nx } σ2 H2) := by
  have hsz : z.cps.size = z.cps.toList.length := by simp
  refine ⟨fun i m σ H => m = z.cps.toList.length - i ∧ i ≤ z.cps.toList.length ∧ Pv i σ H, ⟨z.cps.toList.length, rfl, Nat.zero_le _, h0⟩, ?_⟩
  rintro i m σ H ⟨rfl, hi, p⟩
  by_cases lt : i < z.cps.toList.length
  · refine .inr ⟨by show i < z.cps.size; omega, Pv (i + 1), fun σ' H' q => ⟨z.cps.toList.length - (i + 1), by omega, rfl, lt, q⟩, ?_⟩
    rintro v H' ⟨T, c, rfl, hT, rfl, hc⟩
    exact hs i c T σ _ (by rw [Array.getElem?_toList]; exact hc) p hT
  · have e : i = z.cps.toList.length := by omega
    subst e
    exact .inl ⟨by show z.cps.size ≤ z.cps.toList.length; omega, hd σ H p⟩
end SxK

set_option Elab.async false
set_option linter.all false
set_option maxRecDepth 100000
set_option maxHeartbeats 4000000
namespace SxK
open PySem PySem.Spec PyProof.Rows L2
/-! ### try with clauses of which the first one, with a name, takes every exception that is due -/
/-- the ends behind a suite whose name in slot i goes -/
def dropAt (i : Nat) (D : Ends) : Ends := { nx := fun σ' H' => D.nx (σ'.set i none) H', rt := D.rt, bk := fun σ' H' => D.bk (σ'.set i none) H', ct := fun σ' H' => D.ct (σ'.set i none) H' }
def wFirst (K : PySem.W.Frag) (c : Value) (i : Nat) (ts : Addr → Value → Option Addr → TS) (D : Ends) : WX := fun cls d σ H =>
  PySem.W.exmOne K cls c = some true ∧ ∀ a, H a = none → ts a cls d (dropAt i D) (σ.set i (some (.ref a))) H
section
variable {X : Cx} {x n : Str} {c : Value} {i : Nat} {body suite : List Stmt} {b₀ : Stmt} {np pos pos' : Pos} {more : List ExceptHandler} {tb : WX → TS} {ts : Addr → Value → Option Addr → TS}
theorem ps_try_first (st : X.stack = X.env :: X.outer) (fr : X.env.frame = some X.env.locals) (nd : X.N.Nodup) (ni : X.N[i]? = some n) (nl : X.env.kindOf n = some .local) (nc : Names X x c)
    (tryB : ∀ (W : WX) (pn : List (Addr × Obj)) (xe : Value → Shared → Prop), Takes (X.tr pn xe) W → PassesOwn (model X.prog X.w) X.A X.env xe → PSs (X.tr pn xe) body (tb W))
    (suiteB : ∀ (a : Addr) (oe : Obj) (cls : Value) (d : Option Addr) (pn : List (Addr × Obj)), Zc cls d oe → (∃ vs, oe.data = .fields vs) → PSs (X.suite a ((a, oe) :: pn)) (b₀ :: suite) (ts a cls d)) :
    PS X (.Try body (.ExceptHandler (some (.Name x np)) (some n) (b₀ :: suite) pos' :: more) [] [] pos) (fun D σ H => tb (wFirst X.K c i ts D) D σ H) := by
  refine ⟨fun pins s σ H D I h => ?_⟩
  have okX := I.ok
  have afr : X.A.frames = some (X.env :: X.outer) := by rw [okX.frames, st]
  refine wpAny_Try_except (wpAny_mono ((tryB (wFirst X.K c i ts D) (X.pn ++ pins) _ (fun u s2 y => ?_) PassesOwn.looking).run [] s σ H D (I.toTry _) h) (fun f s1 q => ?_) (fun e s1 q => q))
  · obtain ⟨a, B, sJ, pins2, τ, G, cls, d, rfl, J0, inB, upS, air, free, osJ, gnJ, mt, wish⟩ := y
    have J : Inv X pins τ G sJ := J0.ofTry okX
    have air2 : Sky B (X.env :: X.outer) a (Zc cls d) X.env.locals s2.heap := by rw [← st]; exact air
    show wpAny (model X.prog X.w) X.A (noteFrame (.ref a) X.env) _ _ _
    refine Sky.land Zc.steady afr fr air2 fun hL flL upL => ?_
    have JL : Inv X pins τ G { s2 with heap := hL } := J.landed inB flL.1 (upS.trans upL) osJ gnJ
    obtain ⟨oL, vL, eL, zL, dL⟩ := flL.there
    have off : a ∉ frs (X.env :: X.outer) := fun hm => by
      obtain ⟨_, o', e', hnf⟩ := flL.2.2.1.mem hm
      rw [eL] at e'
      cases e'
      exact hnf _ dL
    have aL : a ≠ X.env.locals := fun z => off (List.mem_filterMap.mpr ⟨X.env, List.mem_cons_self, by rw [fr, z]⟩)
    have aF : a ∉ X.fs := fun hm => by
      obtain ⟨e, he, q⟩ := List.mem_filterMap.mp hm
      exact off (List.mem_filterMap.mpr ⟨e, List.mem_cons_of_mem _ he, q⟩)
    have SL := JL.suite eL dL free aL aF
    refine wpAny_handleBy_cons (codeAny_handlers_test ?_) (fun q => by cases q)
    have tyL : PySem.W.Looks (model X.prog X.w) hL (typeOf (.ref a)) cls := fun A Q E s k q => wpAny_typeOf_ref (k _ _ eL) (by rw [zL.1]; exact q)
    have mtL := PySem.W.exm_one (M := model X.prog X.w) JL.kIn tyL mt
    have named : ∀ {Q : Value → Shared → Prop} {E : Value → Shared → Prop}, Q c { s2 with heap := hL } → wpAny (model X.prog X.w) (X.A.mark (some (.ref a))) (eval (.Name x np) X.env) Q E { s2 with heap := hL } := fun {Q E} q => by
      rcases nc with ⟨g1, g2, m1 | ⟨m1, m2, m3⟩⟩
      · exact ld_glob (X := X.suite a ((a, oL) :: (X.pn ++ pins))) SL g1 m1 q g2
      · exact ld_blt (X := X.suite a ((a, oL) :: (X.pn ++ pins))) SL g1 m1 m2 q m3 g2
    refine named (mtL.here (codeAny_handlers_suite_as (HandSPX.lands_againZ flL fun hR flR upR => ?_)))
    have JR : Inv X pins τ G { s2 with heap := hR } := J.landed inB flR.1 ((upS.trans upL).trans upR) osJ gnJ
    obtain ⟨oR, vR, eR, zR, dR⟩ := flR.there
    refine store_ok (X := X.suite a ((a, oR) :: (X.pn ++ pins))) (v := .ref a) (JR.suite eR dR free aL aF) nd ni (.inl nl) rfl (fun s5 S5 => ?_) (.inr nl)
    refine wpAny_mono ((suiteB a oR cls d (X.pn ++ pins) zR ⟨_, dR⟩).run [] s5 _ G _ S5 (wish a free)) (fun f s6 q => ?_) (fun _ _ z => z.elim)
    have goes : ∀ {ρ : L2.St} {F : Hp} {Q : Shared → Prop}, Inv (X.suite a ((a, oR) :: (X.pn ++ pins))) [] ρ F s6 → (∀ s7, Inv X pins (ρ.set i none) F s7 → Q s7) →
        wpAny (model X.prog X.w) X.A (do bindName X.env n .none; unbindBehindTheSuite X.env n pos') (fun _ s7 => Q s7) X.xe s6 := fun {ρ F Q} Sx hq => gone_ok (Sx.unsuite okX) nd ni nl hq
    cases f with
    | ret u =>
      obtain ⟨v, ρ, F, Sx, rv, q⟩ := q
      exact goes Sx fun s7 J7 => ⟨_, _, _, J7, rv, q⟩
    | next =>
      obtain ⟨ρ, F, Sx, q⟩ := q
      exact goes Sx fun s7 J7 => ⟨_, _, J7, q⟩
    | brk =>
      obtain ⟨ρ, F, Sx, q⟩ := q
      exact goes Sx fun s7 J7 => ⟨_, _, J7, q⟩
    | cont =>
      obtain ⟨ρ, F, Sx, q⟩ := q
      exact goes Sx fun s7 J7 => ⟨_, _, J7, q⟩
  · cases f with
    | ret u =>
      obtain ⟨v, τ, G, J, rv, q⟩ := q
      exact ⟨v, τ, G, J.ofTry okX, rv, q⟩
    | next =>
      obtain ⟨τ, G, J, q⟩ := q
      exact wpAny_execs_nil ⟨τ, G, J.ofTry okX, q⟩
    | brk =>
      obtain ⟨τ, G, J, q⟩ := q
      exact ⟨τ, G, J.ofTry okX, q⟩
    | cont =>
      obtain ⟨τ, G, J, q⟩ := q
      exact ⟨τ, G, J.ofTry okX, q⟩
end
end SxK

set_option Elab.async false
set_option linter.all false
set_option maxRecDepth 100000
set_option maxHeartbeats 4000000
namespace SxK
open PySem PySem.Spec PyProof.Rows L2 PySem.Calls
/-! ### an __init__ whose first statement is super().__init__(e), the base's one ValueError's -/
structure SupC (P : Program) (K : PySem.W.Frag) (mg : Str → Option Value) (C fI cc cda : Addr) (nm q : Str) (params : Arguments) (body : List Stmt) (scope : Scope) (fd : FuncData) : Prop where
  ex : OexC K C
  fn : ∃ oc od kV doc pm an ct osl, fd = PySem.W.ksFn nm q params body scope .none kV doc pm an (.ref cda) ct cc ∧ K.lookup fI = some ⟨oc, od, .func fd, osl⟩
  cod : PySem.W.codeIn K (.ref cda) q = true
  file : ∃ cl cd vs sl tf file, K.lookup cda = some ⟨cl, cd, .fields vs, sl⟩ ∧ vs[2]? = some (.str file tf) ∧ ((P.main.file : Str) == file) = true
  cell : ∃ cl cd sl, K.lookup cc = some ⟨cl, cd, .cell (some (.ref C)), sl⟩
  opq : PySem.W.nsIn K cStatics "thirdparty.any" = some none
  ini : PySem.W.ks_superIn K C C "__init__" = some (some (.builtin "ValueError.__init__"))
  sub : PySem.W.mroIn K C (.ref C) = some true
  isB : PySem.W.subIn K (.ref C) (.type "ValueError") = some true
  sup : mg "super" = none
  top : (P.main.scope.names.lookup ("super" : Str)).isSome = false
  iC : PySem.W.findIn K (.ref C) "__init__" = some (some (.ref fI))
  tI : PySem.W.typeIn K (.ref fI) = some (.type "function")
section
variable {X : Cx} {pins : List (Addr × Obj)} {σ : L2.St} {H : Hp} {s : Shared} {a C u : Addr} {us : List Value} {Q : Value → Shared → Prop} {E : Value → Shared → Prop}
/-- the bound ValueError.__init__ is called: nothing of it is told -/
theorem mw_call (T : OexC X.K C) (I : Inv X pins σ H s) (e : H a = some (exo a C none)) (hu : s.heap.get? u = some (PySem.W.kxs_mw "ValueError.__init__" a)) (hl : us.length ≤ sizeLine) (h : ∀ s', Inv X pins σ H s' → Q .none s') :
    wpAny (model X.prog X.w) X.A (call (.ref u) us) Q E s := by
  obtain ⟨nm, q, N, bs, bm, sn, sub, ab, col, dd, k0, k1, k2, k3, k5, hC, hbm⟩ := T.cls
  obtain ⟨t1, ho⟩ := exo_at I.hok e
  obtain ⟨hp, g, d, t, os⟩ := s
  have FB := F.excBase_ValueError
  have mt : (Value.type "method-wrapper" == Value.type "method" || Value.type "method-wrapper" == Value.type "builtin_function_or_method" || Value.type "method-wrapper" == Value.type "method-wrapper") = true := by decide
  refine wpAny_call (codeAny_of_tree ?_); show wpAny _ X.A.in1 (callAny (.ref u) ⟨us, []⟩) _ _ _
  simp only [callAny]; refine wpAny_bind (wpAny_load hu ?_)
  simp only [PySem.W.kxs_mw, mt, if_true]
  refine PySem.W.KFB.if_so (by decide) (wpAny_bind (PySem.W.check_bound_init FB.toExcCallFacts (I.kIn _ _ hC) ho rfl (wpAny_bind (wpAny_pure (wpAny_pure ?_)))))
  refine ⟨plainId_quiet FB.init.plain _, codeAny_builtin FB.initEntry (PySem.W.exc_init_tree (cls := .ref C) (t0 := t1) (dv := none) (c2 := .none) (c3 := .none) (b4 := .bool false) ho hl fun h' k hx _ => ?_)⟩
  have J := I.write (t' := t) (x := a) (e := a) (o := exo a C none) (by rw [e]; exact True.intro) (.inl rfl) k ⟨_, hx⟩ (exo_ok hx)
  have eu : upd H a (exo a C none) = H := funext fun b => by
    by_cases hb : b = a
    · rw [hb, upd_same, e]
    · exact upd_ne hb
  rw [eu] at J
  exact h _ J
end
end SxK

set_option Elab.async false
set_option linter.all false
set_option maxRecDepth 100000
set_option maxHeartbeats 4000000
namespace SxK
open PySem PySem.Spec PyProof.Rows L2 PySem.Calls
/-- the context of such an __init__ -/
def cxSup (CX : CXT) (P : Program) (w : World) (K : PySem.W.Frag) (mg : Str → Option Value) (base : Heap) (N : List Str) (q : Str) (scope : Scope) (f cda cc : Addr) (A : Around) (outer : List Env) (s : Shared) (H : Hp) (E : XK) : Cx :=
  { prog := P, w := w, K := K, mg := mg, base := base, A := A.deeper (PySem.W.ksEnv q scope s.heap.objs.size f (.ref cda) cc), N := N, s_0 := s, H_0 := H, env := PySem.W.ksEnv q scope s.heap.objs.size f (.ref cda) cc, outer := outer,
    stack := PySem.W.ksEnv q scope s.heap.objs.size f (.ref cda) cc :: outer, ex := [], calm := true, fn := fun x => !(x == ("__class__" : Str)), pn := [],
    xe := fun e s' => wpAny (model P w) (A.deeper (PySem.W.ksEnv q scope s.heap.objs.size f (.ref cda) cc)) (leaving (PySem.W.ksEnv q scope s.heap.objs.size f (.ref cda) cc) e) (fun _ s'' => CX outer H s E e s'') (fun e' s'' => CX outer H s E e' s'') s' }
structure ScSup (scope : Scope) (ps : List Str) : Prop where
  kind : scope.kind = .function
  co : scope.isCoroutine = false
  gen : scope.isGenerator = false
  nd : ps.Nodup
  par : ∀ x ∈ ps, scope.names.lookup x = some .local
  nocell : ∀ y ∈ scope.names, y.2 ≠ .cell
  fre : ∀ y ∈ scope.names, y.2 = .free → y.1 = ("__class__" : Str)
  ks : scope.names.lookup ("super" : Str) = some .globalImplicit
  kc : scope.names.lookup ("__class__" : Str) = some .free
section
variable {CX : CXT} {P : Program} {w : World} {K : PySem.W.Frag} {mg : Str → Option Value} {base : Heap} {N ps : List Str} {q nm : Str} {scope : Scope} {C fI cda cc a : Addr} {A : Around} {outer : List Env} {s0 s : Shared} {H0 H : Hp} {E : XK}
  {params : Arguments} {body body2 : List Stmt} {fd : FuncData} {σ : L2.St} {p0 p1 p2 p3 p4 : Pos} {arg : Expr} {t : TA} {G : Hp → Prop} {m : Str → Option Value} {ar : Arg} {pl : Sem Bool}
theorem sup_first (S : SupC P K mg C fI cc cda nm q params body scope fd) (Z : ScSup scope ps) (hp : (params.posonlyargs ++ params.args).head? = some ar) (hpa : ar.arg ∈ ps)
    (I : Inv (cxSup CX P w K mg base N q scope fI cda cc A outer s0 H0 E) [] σ H s) (hns : s.heap.Ns s0.heap.objs.size m) (hv : m ar.arg = some (.ref a)) (e : H a = some (exo a C none))
    (ha : PA (cxSup CX P w K mg base N q scope fI cda cc A outer s0 H0 E) [arg] t)
    (hq : t σ H fun vs H1 => vs.length ≤ 1000 ∧ H1 a = some (exo a C none) ∧ G H1)
    (hs : starEach [arg] (PySem.W.ksEnv q scope s0.heap.objs.size fI (.ref cda) cc) = (false, eval arg (PySem.W.ksEnv q scope s0.heap.objs.size fI (.ref cda) cc)) :: starEach [] (PySem.W.ksEnv q scope s0.heap.objs.size fI (.ref cda) cc) := by rfl)
    (hi : interactive (PySem.W.ksEnv q scope s0.heap.objs.size fI (.ref cda) cc) = false := by rfl)
    (hsw : swapsWith (.Call (.Attribute (.Call (.Name "super" p0) [] [] p1) "__init__" p2) [arg] [] p3) none p4.line (PySem.W.ksEnv q scope s0.heap.objs.size fI (.ref cda) cc) = pure false := by rfl)
    (hev : eval (.Call (.Attribute (.Call (.Name "super" p0) [] [] p1) "__init__" p2) [arg] [] p3) (PySem.W.ksEnv q scope s0.heap.objs.size fI (.ref cda) cc) = (do
      let ov ← attributeBase (.Call (.Name "super" p0) [] [] p1) "__init__" (PySem.W.ksEnv q scope s0.heap.objs.size fI (.ref cda) cc) (eval (.Call (.Name "super" p0) [] [] p1) (PySem.W.ksEnv q scope s0.heap.objs.size fI (.ref cda) cc))
      standAt p2.atName
      let (f, first) ← holding [ov] (getMethod ov "__init__" pl)
      callWith p3 f first (backTo p3 (starEach [arg] (PySem.W.ksEnv q scope s0.heap.objs.size fI (.ref cda) cc))) []) := by rfl) :
    PySem.wpAt (model P w) (A.deeper (PySem.W.ksEnv q scope s0.heap.objs.size fI (.ref cda) cc)) (.func body2 (PySem.W.ksEnv q scope s0.heap.objs.size fI (.ref cda) cc))
      (exec (.Expr (.Call (.Attribute (.Call (.Name "super" p0) [] [] p1) "__init__" p2) [arg] [] p3) p4) (PySem.W.ksEnv q scope s0.heap.objs.size fI (.ref cda) cc))
      (fun f s' => f = .next ∧ ∃ H1, Inv (cxSup CX P w K mg base N q scope fI cda cc A outer s0 H0 E) [] σ H1 s' ∧ H1 a = some (exo a C none) ∧ G H1) (cxSup CX P w K mg base N q scope fI cda cc A outer s0 H0 E).xe s := by
  obtain ⟨oc, od, kV, doc, pm, an, ct, osl, efd, hf⟩ := S.fn
  subst efd
  obtain ⟨cl, cd, vs, sl, tf, file, hcode, hvs, hfile⟩ := S.file
  obtain ⟨cl2, cd2, sl2, hcell⟩ := S.cell
  obtain ⟨cn, cq, cN, bs, bm, sn, sub, ab, col, dd, k0, k1, k2, k3, k5, hC, hbm⟩ := S.ex.cls
  obtain ⟨t1, hx⟩ := exo_at I.hok e
  obtain ⟨mb, hb1, hb2⟩ := I.mod.blt
  have KI : K.In s.heap := I.kIn
  have hcd : PySem.W.clsIn K C = some { name := cn, bases := bs, mro := .ref C :: bm, ns := cN, qualname := cq, hasDict := true, slotNames := sn, subclasses := sub, abstract := ab, collection := col, hasDel := false } := by
    unfold PySem.W.clsIn
    rw [hC]
  have hax : a ≠ C := fun z => by
    have h1 := KI _ _ hC
    rw [← z, hx] at h1
    cases h1
  have hm : PySem.W.alongIn K "__init__" (((Value.ref C :: bm).dropWhile (· != .ref C)).drop 1) = some (some (.builtin "ValueError.__init__")) := by
    have h1 := S.ini
    unfold PySem.W.ks_superIn at h1
    rw [hcd] at h1
    exact h1
  refine ks_wpAt_Expr_any (ks_wpAt_MethodCall (ks_wpAt_super_base (env := PySem.W.ksEnv q scope s0.heap.objs.size fI (.ref cda) cc) Z.ks Z.kc (by decide) rfl (KI _ _ hf) rfl hp rfl (KI _ _ hcode) rfl hvs hfile S.top ?_) hev) hi hsw
  refine PySem.W.ks_loadName_global Z.kind Z.ks (loadGlobal_builtin (env := PySem.W.ksEnv q scope s0.heap.objs.size fI (.ref cda) cc) (I.mod.glob.keeps I.bk) S.sup (hb1.keeps I.bk) ((hb2 _ (by decide)).trans (by decide +kernel)) ⟨rfl, ?_⟩)
  refine wpAny_loadName_free Z.kind Z.kc (by rfl) ⟨_, KI _ _ hcell, rfl⟩ (wpAny_loadName_local Z.kind (Z.par _ hpa) hns hv ?_)
  obtain ⟨hh, g, d, tk, os⟩ := s
  refine ks_wpAny_isType_cls (KI _ _ hC) rfl ⟨rfl, ?_⟩
  refine ks_wpAny_call_super (KI _ _ hC) rfl hx rfl (fun c z => by cases z) (PySem.W.looks_mroIn KI S.sub) fun h1 e1 kp1 => ?_
  have K1 : K.In h1 := KI.keeps kp1
  have lx : PySem.W.Looks (model P w) h1 (isInstance (.ref a) (.type "ValueError")) true :=
    PySem.W.Looks.andThen (a := Value.ref C) (fun A Q E s k q => wpAny_typeOf_ref (k _ _ (kp1 _ _ hx)) q) (PySem.W.looks_subIn K1 S.isB)
  refine PySem.W.kxs_getMethod PySem.W.kxs_ValueError e1 (PySem.W.looks_opaque K1 S.opq) (l₀ := .ref C :: bm) ((PySem.W.looks_clsIn K1 hcd).andThen .now) rfl K1 hm lx hax (by decide) ?_
  have kp2 : ∀ b o, hh.get? b = some o → (h1.push (PySem.W.kxs_mw "ValueError.__init__" a)).get? b = some o := fun b o z => Heap.get?_push_of_some _ (kp1 _ _ z)
  have hu : (h1.push (PySem.W.kxs_mw "ValueError.__init__" a)).get? h1.objs.size = some (PySem.W.kxs_mw "ValueError.__init__" a) := Heap.get?_push_size _ rfl
  have I2 : Inv (cxSup CX P w K mg base N q scope fI cda cc A outer s0 H0 E) [] σ H ⟨h1.push (PySem.W.kxs_mw "ValueError.__init__" a), g, d, tk + 1, os⟩ := I.kept (t' := tk + 1) kp2
  have hle : hh.objs.size ≤ h1.objs.size := Nat.le_of_lt (Heap.lt_size e1)
  have I3 : Inv (cxSup CX P w K mg base N q scope fI cda cc A outer s0 H0 E) [(h1.objs.size, PySem.W.kxs_mw "ValueError.__init__" a)] σ H ⟨h1.push (PySem.W.kxs_mw "ValueError.__init__" a), g, d, tk + 1, os⟩ := I2.pins_of fun p hpp => by
    rw [List.mem_singleton.mp hpp]
    exact ⟨hu, I.hok.fresh hle, Nat.ne_of_gt (Nat.lt_of_lt_of_le I.lt hle), I.nofs hle, fun v z => by cases z⟩
  have run := ha.run p3 _ _ σ H _ I3 hq
  show wpAny _ _ (callWith p3 (.ref h1.objs.size) [] (backTo p3 (starEach [arg] (PySem.W.ksEnv q scope s0.heap.objs.size fI (.ref cda) cc))) []) _ _ _
  have run2 : wpAny (model P w) (A.deeper (PySem.W.ksEnv q scope s0.heap.objs.size fI (.ref cda) cc)) (spliced (backTo p3 (starEach [arg] (PySem.W.ksEnv q scope s0.heap.objs.size fI (.ref cda) cc)))) _ _ _ := run
  rw [hs] at run2 ⊢
  refine PySem.W.kxs_callWith (i := "ValueError.__init__") (x := a) rfl (evalArgs_plain (thn run2 fun us s4 h4 => ?_))
  obtain ⟨vs4, H4, I4, r4, l4, e4, q4⟩ := h4
  have hu4 := (I4.pin _ (List.mem_append_right _ List.mem_cons_self)).1
  refine ⟨hu4, mw_call (X := cxSup CX P w K mg base N q scope fI cda cc A outer s0 H0 E) S.ex I4 e4 hu4 (by rw [List.nil_append, ← r4.length, sizeLine_eq]; omega) fun s5 J5 => ?_⟩
  exact ⟨rfl, H4, J5.pins_of (pins' := []) (fun p hpp => absurd hpp (List.not_mem_nil)), e4, q4⟩
end
end SxK

set_option Elab.async false
set_option linter.all false
set_option maxRecDepth 100000
set_option maxHeartbeats 4000000
namespace SxK
open PySem PySem.Spec PyProof.Rows L2 PySem.Calls
theorem look_rev : ∀ (ps : List Str) (us : List Value) (i : Nat) (x : Str) (u : Value), ps.Nodup → ps[i]? = some x → us[i]? = some u → (ps.zip us).reverse.lookup x = some u
  | [], _, _, _, _, _, h, _ => by simp at h
  | _ :: _, [], _, _, _, _, _, h => by simp at h
  | p :: ps, v :: us, i, x, u, nd, h1, h2 => by
    obtain ⟨n1, n2⟩ := List.nodup_cons.mp nd
    rw [List.zip_cons_cons, List.reverse_cons, List.lookup_append]
    cases i with
    | zero =>
      have e1 : p = x := by simpa using h1
      have e2 : v = u := by simpa using h2
      subst e1 e2
      have e3 : (ps.zip us).reverse.lookup p = none := by
        rw [List.lookup_eq_none_iff]
        intro q hq
        have h3 := (List.of_mem_zip (List.mem_reverse.mp hq : (q.1, q.2) ∈ ps.zip us)).1
        have h4 : p ≠ q.1 := fun z => n1 (by rw [z]; exact h3)
        simpa using h4
      rw [e3]
      simp [List.lookup]
    | succ i => rw [look_rev ps us i x u n2 (by simpa using h1) (by simpa using h2)]; rfl
section
variable {CX : CXT} {P : Program} {w : World} {K : PySem.W.Frag} {mg : Str → Option Value} {base : Heap} {ps : List Str} {q nm : Str} {scope : Scope} {C fI cda cc : Addr}
  {params : Arguments} {rest : List Stmt} {fd : FuncData} {p0 p1 p2 p3 p4 : Pos} {arg : Expr} {ar : Arg} {pl : Sem Bool} {sp : Sp} {k : Nat}
theorem sup_start {body : List Stmt} {A : Around} {outer : List Env} {s : Shared} {H : Hp} {E : XK} {us : List Value} {vs : List V} {h0 : Heap} {tk : Nat} (S : SupC P K mg C fI cc cda nm q params body scope fd) (Z : ScSup scope ps)
    (hd : A.handled = none) (e0 : Env0 P w K mg base A outer s H) (hl : vs.length = ps.length) (r : Vals vs us) (hns : h0.Ns s.heap.objs.size (fun x => (ps.zip us).reverse.lookup x)) (hk : ∀ b o, s.heap.get? b = some o → h0.get? b = some o) :
    Inv (cxSup CX P w K mg base ps q scope fI cda cc A outer s H E) [] (start ps vs) H { s with heap := h0, toks := tk } := by
  obtain ⟨cl2, cd2, sl2, hcell⟩ := S.cell
  have hc0 := e0.bs _ _ (e0.mod.kin _ _ hcell)
  have none_in : ∀ b : Addr, b ∉ (cxSup CX P w K mg base ps q scope fI cda cc A outer s H E).ex := fun b z => absurd (show b ∈ ([] : List Addr) from z) List.not_mem_nil
  have cells : ∀ y c, (cxSup CX P w K mg base ps q scope fI cda cc A outer s H E).env.cells.lookup y = some c → y = ("__class__" : Str) ∧ c = cc := fun y c z => by
    have z1 : List.lookup y [(("__class__" : Str), cc)] = some c := z
    by_cases hy : y = ("__class__" : Str)
    · subst hy
      have z2 : List.lookup ("__class__" : Str) [(("__class__" : Str), cc)] = some cc := by simp [List.lookup]
      rw [z2] at z1
      exact ⟨rfl, (Option.some.inj z1).symm⟩
    · have q1 : (y == ("__class__" : Str)) = false := by simpa using hy
      simp [List.lookup, q1] at z1
  have upto : ∀ i v, (start ps vs)[i]? = some (some v) → vs[i]? = some v := fun i v z => by
    unfold L2.start at z
    rw [hl, Nat.sub_self, List.replicate_zero, List.append_nil, List.getElem?_map] at z
    cases n : vs[i]? with
    | none => rw [n] at z; cases z
    | some a => rw [n] at z; cases z; rfl
  refine ⟨⟨e0.mod, Z.kind, rfl, rfl, Nat.le_refl _, fun y z c h1 h2 => by rw [(cells _ _ h1).1, (cells _ _ h2).1], fun y hy => ?_, fun y c h1 h2 => ?_, fun _ => hd, Around.frames_deeper e0.frames, .inr ⟨rfl, rfl⟩, fun b z => absurd z (none_in b), e0.bs, e0.bsz, fun b _ _ => none_in b,
      fun b z => absurd z (none_in b), e0.funs, e0.frf⟩, rfl, e0.bare, Un.kept hk, ⟨_, hns, fun i y v h1 h2 h3 => ?_⟩, fun y c h => ?_, e0.hok.fresh (Nat.le_refl _), fun y c h => ?_, fun p hp => absurd (show p ∈ ([] : List (Addr × Obj)) from hp) List.not_mem_nil, e0.hok.kept hk, ?_⟩
  · have hy' : scope.names.lookup y = some .cell ∨ scope.names.lookup y = some .free := hy
    rcases hy' with z | z
    · exact absurd rfl (Z.nocell _ (PySem.mem_of_lookup z))
    · have e1 := Z.fre _ (PySem.mem_of_lookup z) rfl
      have e2 : y = ("__class__" : Str) := e1
      subst e2
      exact ⟨cc, by show List.lookup ("__class__" : Str) [(("__class__" : Str), cc)] = some cc; simp [List.lookup]⟩
  · have h1' : (!(y == ("__class__" : Str))) = true := h1
    rw [(cells _ _ h2).1] at h1'
    simp at h1'
  · obtain ⟨u, hu, rv⟩ := r.get (upto i v h2)
    exact ⟨u, rv, .inl ⟨Z.par y (List.mem_of_getElem? h1), look_rev ps us i y u Z.nd h1 hu⟩⟩
  · rw [(cells _ _ h).2]
    exact ⟨_, _, hk _ _ hc0.1, rfl⟩
  · rw [(cells _ _ h).2]
    exact hc0.2
  · unfold L2.start
    show _ = ps.length
    rw [List.length_append, List.length_map, List.length_replicate]
    omega
theorem fn_sup (S : SupC P K mg C fI cc cda nm q params (.Expr (.Call (.Attribute (.Call (.Name "super" p0) [] [] p1) "__init__" p2) [arg] [] p3) p4 :: rest) scope fd) (Z : ScSup scope ps)
    (hp : (params.posonlyargs ++ params.args).head? = some ar) (hps : ps[0]? = some ar.arg) (len : ∀ vs H Q E, sp vs H Q E → vs.length = ps.length)
    (body : ∀ (A : Around) (outer : List Env) (s : Shared) (H : Hp) (vs : List V) (Q : VK) (E : XK), Room k (A.deeper (PySem.W.ksEnv q scope s.heap.objs.size fI (.ref cda) cc)) → sp vs H Q E →
      ∃ (t : TA) (t2 : TS) (a : Addr) (vr : List V), PA (cxSup CX P w K mg base ps q scope fI cda cc A outer s H E) [arg] t ∧ PSs (cxSup CX P w K mg base ps q scope fI cda cc A outer s H E) rest t2 ∧ vs = .ref a :: vr ∧ H a = some (exo a C none) ∧
        t (start ps vs) H fun us H1 => us.length ≤ 1000 ∧ H1 a = some (exo a C none) ∧ t2 { nx := fun _ H' => Q .non H', rt := Q } (start ps vs) H1)
    (hs : ∀ L, starEach [arg] (PySem.W.ksEnv q scope L fI (.ref cda) cc) = (false, eval arg (PySem.W.ksEnv q scope L fI (.ref cda) cc)) :: starEach [] (PySem.W.ksEnv q scope L fI (.ref cda) cc))
    (hi : ∀ L, interactive (PySem.W.ksEnv q scope L fI (.ref cda) cc) = false)
    (hsw : ∀ L, swapsWith (.Call (.Attribute (.Call (.Name "super" p0) [] [] p1) "__init__" p2) [arg] [] p3) none p4.line (PySem.W.ksEnv q scope L fI (.ref cda) cc) = pure false)
    (hev : ∀ L, eval (.Call (.Attribute (.Call (.Name "super" p0) [] [] p1) "__init__" p2) [arg] [] p3) (PySem.W.ksEnv q scope L fI (.ref cda) cc) = (do
      let ov ← attributeBase (.Call (.Name "super" p0) [] [] p1) "__init__" (PySem.W.ksEnv q scope L fI (.ref cda) cc) (eval (.Call (.Name "super" p0) [] [] p1) (PySem.W.ksEnv q scope L fI (.ref cda) cc))
      standAt p2.atName
      let (f, first) ← holding [ov] (getMethod ov "__init__" pl)
      callWith p3 f first (backTo p3 (starEach [arg] (PySem.W.ksEnv q scope L fI (.ref cda) cc))) [])) : FnOk P w K mg base CX (k + 1) fI fd ps sp := by
  refine ⟨len, fun A outer s H args us vs Q E hr e0 hb r hsp => ?_⟩
  have hl := len _ _ _ _ hsp
  obtain ⟨t, t2, a, vr, ha, hr2, evs, he, hq⟩ := body A outer s H vs Q E (hr.deeper _) hsp
  have KX : K.In s.heap := e0.mod.kin.keeps fun b o e => (e0.bs b o e).1
  have lim : s.heap.NoLimit := e0.mod.nolimit.keeps fun b o e => (e0.bs b o e).1
  obtain ⟨u0, hu0, ru0⟩ := r.get (i := 0) (x := V.ref a) (by rw [evs]; rfl)
  obtain rfl : u0 = Value.ref a := ru0
  obtain ⟨oc, od, kV, doc, pm, an, ct, osl, efd, hf⟩ := id S.fn
  refine ks_codeAny_call_defAt (fd := fd) (body := .Expr (.Call (.Attribute (.Call (.Name "super" p0) [] [] p1) "__init__" p2) [arg] [] p3) p4 :: rest) (binds := ps.zip us) hr.depth (KX _ _ hf) rfl lim
    (by rw [efd]; exact PySem.W.codeRec_of KX S.cod) (by rw [efd]) hb (by rw [efd]; exact Z.nocell) (by rw [efd]; exact fun y hy => Z.par _ (List.of_mem_zip (show (y.1, y.2) ∈ ps.zip us from hy)).1) (fun h0 hns hk => ?_) (by rw [efd]; exact Z.co) (by rw [efd]; exact Z.gen) (by rw [efd]; exact Z.kind)
  have I : Inv (cxSup CX P w K mg base ps q scope fI cda cc A outer s H E) [] (start ps vs) H { s with heap := h0, toks := s.toks + (ps.zip us).length } := sup_start S Z hr.hd e0 hl r hns hk
  have ee : callEnv fd s.heap.objs.size fI = PySem.W.ksEnv q scope s.heap.objs.size fI (.ref cda) cc := by rw [efd]; rfl
  rw [ee]
  refine ks_wpAt_execs_cons (ks_wpAt_mono (sup_first S Z hp (List.mem_of_getElem? hps) I hns (look_rev ps us 0 _ _ Z.nd hps hu0) he ha hq (hs _) (hi _) (hsw _) (hev _)) (fun f s1 h1 => ?_) fun e s1 h1 => h1)
  obtain ⟨rfl, H1, I1, e1, q1⟩ := h1
  refine wpAt_of_wpAny (wpAny_mono (hr2.run [] s1 (start ps vs) H1 _ I1 q1) (fun fl s2 h2 => ?_) fun e s2 h2 => h2)
  cases fl with
  | ret u =>
    obtain ⟨v, σ', H', J, rv, z⟩ := h2
    exact ⟨v, H', J.os, J.bare, J.base, J.hok, rv, z⟩
  | next =>
    obtain ⟨σ', H', J, z⟩ := h2
    exact ⟨V.non, H', J.os, J.bare, J.base, J.hok, rfl, z⟩
  | brk => obtain ⟨_, _, _, z⟩ := h2; exact z.elim
  | cont => obtain ⟨_, _, _, z⟩ := h2; exact z.elim
end
end SxK

set_option Elab.async false
set_option linter.all false
set_option maxRecDepth 100000
set_option maxHeartbeats 2000000
namespace SxK
open PySem PySem.Spec PyProof.Rows L2
/-! ### facts of own exceptions, read at the head -/
def oexB (K : PySem.W.Frag) (C : Addr) : Bool := match K.lookup C with
  | some ⟨.type "type", _, .cls cd, sl⟩ => (match cd.mro, sl.toList with
    | .ref C' :: bm, [_, _, _, _, some (.builtin n), _] => decide (C' = C) && (decide (n = "ValueError.__new__") && (!cd.hasDel && (cd.hasDict && PySem.HandSPX.refsVE bm)))
    | _, _ => false)
  | _ => false
theorem oexB_ok {K : PySem.W.Frag} {C : Addr} (h : oexB K C = true) :
    ∃ nm q N bs bm sn sub ab col dd k0 k1 k2 k3 k5, K.lookup C = some (excClassObj nm q C N bs bm true sn sub ab col dd k0 k1 k2 k3 k5 "ValueError.__new__") ∧ PySem.HandSPX.refsVE bm = true := by
  unfold oexB at h
  split at h
  · rename_i dd cd sl ho
    split at h
    · rename_i C' bm k0 k1 k2 k3 n k5 hm hs
      obtain ⟨nm, bs, mro, ns, qn, hd, sn, sb, ab, col, del⟩ := cd
      obtain ⟨l⟩ := sl
      have hs' : l = [k0, k1, k2, k3, some (.builtin n), k5] := hs
      have hm' : mro = .ref C' :: bm := hm
      subst hs' hm'
      obtain ⟨h1, h⟩ := Bool.and_eq_true_iff.mp h
      obtain ⟨h2, h⟩ := Bool.and_eq_true_iff.mp h
      obtain ⟨h3, h⟩ := Bool.and_eq_true_iff.mp h
      obtain ⟨h4, h5⟩ := Bool.and_eq_true_iff.mp h
      have h1' := of_decide_eq_true h1
      have h2' := of_decide_eq_true h2
      have h3' : del = false := by simpa using h3
      have h4' : hd = true := h4
      subst h1' h2' h3' h4'
      exact ⟨_, _, _, _, _, _, _, _, _, _, _, _, _, _, _, ho, h5⟩
    · cases h
  · cases h
abbrev FnS : Type := Option (Str × Str × Arguments × FuncBody × Scope × Addr × Addr)
/-- one such class: its name, its __init__ -/
structure SupD where
  cls : Str
  qual : Str
  params : Arguments
  body : List Stmt
  scope : Scope
  file : Str
  ats : List Str
  no : List Str
def SupD.I (K : PySem.W.Frag) (d : SupD) : Addr := He.ma K (He.ga K d.cls) "__init__"
def SupD.obs (K : PySem.W.Frag) (d : SupD) : FnS := match K.lookup (d.I K) with
  | some ⟨_, _, .func fd, _⟩ => some (fd.name, fd.qualname, fd.params, fd.body, fd.scope, fd.globals, fd.builtins)
  | _ => none
def SupD.val (d : SupD) : FnS := some ("__init__", d.qual, d.params, .stmts d.body, d.scope, mainGlobals, builtinsNs)
def SupD.fnB (K : PySem.W.Frag) (d : SupD) : Bool := match K.lookup (d.I K) with
  | some ⟨_, _, .func fd, _⟩ => (match fd.defaults, fd.code, fd.closure with
    | .none, .ref cda, [(n, cc)] => decide (n = "__class__") && (PySem.W.codeIn K (.ref cda) d.qual && ((match K.lookup cda with
        | some ⟨_, _, .fields vs, _⟩ => (match vs[2]? with
          | some (Value.str f _) => decide (f = d.file)
          | _ => false)
        | _ => false) && (match K.lookup cc with
        | some ⟨_, _, .cell (some (.ref D)), _⟩ => decide (D = He.ga K d.cls)
        | _ => false)))
    | _, _, _ => false)
  | _ => false
def SupD.ok (K : PySem.W.Frag) (d : SupD) : Bool :=
  oexB K (He.ga K d.cls) && (xfB K (He.ga K d.cls) && (d.fnB K && (He.eqO (PySem.W.findIn K (.ref (He.ga K d.cls)) "__setattr__") (some (some (.builtin "object.__setattr__"))) && (
  decide (PySem.W.subIn K (.ref (He.ga K d.cls)) (.type "BaseException") = some true) && (decide (PySem.W.typeIn K (.ref (He.ga K d.cls)) = some (.type "type")) && (PySem.W.keepIn K (.ref (He.ga K d.cls)) && (
  He.eqO (PySem.W.nsIn K cStatics "thirdparty.any") (some none) && (He.eqO (PySem.W.ks_superIn K (He.ga K d.cls) (He.ga K d.cls) "__init__") (some (some (.builtin "ValueError.__init__"))) && (
  decide (PySem.W.mroIn K (He.ga K d.cls) (.ref (He.ga K d.cls)) = some true) && (decide (PySem.W.subIn K (.ref (He.ga K d.cls)) (.type "ValueError") = some true) && (He.eqO (PySem.W.nsIn K mainGlobals "super") (some none) && (
  He.eqO (PySem.W.findIn K (.ref (He.ga K d.cls)) "__init__") (some (some (.ref (d.I K)))) && (decide (PySem.W.typeIn K (.ref (d.I K)) = some (.type "function")) && (He.eqO (PySem.W.nsIn K mainGlobals d.cls) (some (some (.ref (He.ga K d.cls)))) && (
  decide (PySem.W.exmOne K (.ref (He.ga K d.cls)) (.ref (He.ga K d.cls)) = some true) &&
  ((d.no.all fun c => decide (PySem.W.exmOne K (.ref (He.ga K d.cls)) (.ref (He.ga K c)) = some false)) && d.ats.all fun f => He.eqO (PySem.W.findIn K (.ref (He.ga K d.cls)) f) (some none)))))))))))))))))
/-- what is known of such a class -/
structure ErrC (P : Program) (K : PySem.W.Frag) (mg : Str → Option Value) (d : SupD) : Prop where
  sup : ∃ cc cda fd, SupC P K mg (He.ga K d.cls) (d.I K) cc cda "__init__" d.qual d.params d.body d.scope fd
  xf : XfC K (He.ga K d.cls)
  glob : mg d.cls = some (.ref (He.ga K d.cls))
  exm : PySem.W.exmOne K (.ref (He.ga K d.cls)) (.ref (He.ga K d.cls)) = some true
  ats : ∀ f ∈ d.ats, PySem.W.findIn K (.ref (He.ga K d.cls)) f = some none
  no : ∀ c ∈ d.no, PySem.W.exmOne K (.ref (He.ga K d.cls)) (.ref (He.ga K c)) = some false
theorem SupD.err {P : Program} {K : PySem.W.Frag} {mg : Str → Option Value} {d : SupD} {h : Heap} (X : K.In h) (G : h.Ns mainGlobals mg) (e : d.obs K = d.val) (c : d.ok K = true) (hfile : P.main.file = d.file)
    (htop : (P.main.scope.names.lookup ("super" : Str)).isSome = false) : ErrC P K mg d := by
  unfold SupD.ok at c
  obtain ⟨c1, c⟩ := He.ba c
  obtain ⟨c2, c⟩ := He.ba c
  obtain ⟨c3, c⟩ := He.ba c
  obtain ⟨c4, c⟩ := He.ba c
  obtain ⟨c5, c⟩ := He.ba c
  obtain ⟨c6, c⟩ := He.ba c
  obtain ⟨c7, c⟩ := He.ba c
  obtain ⟨c8, c⟩ := He.ba c
  obtain ⟨c9, c⟩ := He.ba c
  obtain ⟨c10, c⟩ := He.ba c
  obtain ⟨c11, c⟩ := He.ba c
  obtain ⟨c12, c⟩ := He.ba c
  obtain ⟨c13, c⟩ := He.ba c
  obtain ⟨c14, c⟩ := He.ba c
  obtain ⟨c15, c⟩ := He.ba c
  obtain ⟨c16, c⟩ := He.ba c
  obtain ⟨c18, c17⟩ := He.ba c
  refine ⟨?_, xfB_ok c2, PySem.W.mg_of X G (He.eqO_ok c15), of_decide_eq_true c16, fun f hf => He.eqO_ok (List.all_eq_true.mp c17 f hf), fun c hc => of_decide_eq_true (List.all_eq_true.mp c18 c hc)⟩
  have ex : OexC K (He.ga K d.cls) := ⟨oexB_ok c1, He.eqO_ok c4, of_decide_eq_true c5, of_decide_eq_true c6, c7⟩
  unfold SupD.fnB at c3
  unfold SupD.obs at e
  split at c3
  · rename_i o1 o2 fd o3 ho
    rw [ho] at e
    split at c3
    · rename_i cda n cc e1 e2 e3
      obtain ⟨d1, c3⟩ := He.ba c3
      obtain ⟨d2, c3⟩ := He.ba c3
      obtain ⟨d3, d4⟩ := He.ba c3
      obtain ⟨n1, n2, n3, n4, n5, n6, n7, n8, n9, n10, n11, n12, n13, n14, n15⟩ := fd
      have e4 : (some (n1, n2, n3, n4, n5, n6, n15) : FnS) = (some ("__init__", d.qual, d.params, .stmts d.body, d.scope, mainGlobals, builtinsNs) : FnS) := e
      simp only [Option.some.injEq, Prod.mk.injEq] at e4
      obtain ⟨h1, h2, h3, h4, h5, h6, h7⟩ := e4
      have e1' : n8 = .none := e1
      have e2' : n13 = .ref cda := e2
      have e3' : n7 = [(n, cc)] := e3
      have d1' := of_decide_eq_true d1
      subst h1 h2 h3 h4 h5 h6 h7 e1' e2' e3' d1'
      refine ⟨cc, cda, _, ex, ⟨_, _, _, _, _, _, _, _, rfl, ho⟩, d2, ?_, ?_, He.eqO_ok c8, He.eqO_ok c9, of_decide_eq_true c10, of_decide_eq_true c11, PySem.W.mg_none_of X G (He.eqO_ok c12), htop, He.eqO_ok c13, of_decide_eq_true c14⟩
      · split at d3
        · rename_i a1 a2 vs a3 ha
          split at d3
          · rename_i f t hv
            exact ⟨_, _, _, _, t, f, ha, hv, by rw [hfile, of_decide_eq_true d3]; simp⟩
          · cases d3
        · cases d3
      · split at d4
        · rename_i a1 a2 D a3 ha
          have eD := of_decide_eq_true d4
          subst eD
          exact ⟨_, _, _, ha⟩
        · cases d4
    · cases c3
  · cases c3
/-! ### the Hook with such classes -/
abbrev AlX : Type := He.AlD × (Bool × List FnS)
def obsX (fa : List He.Fa) (fn : List He.DefD) (xs : List SupD) (K : PySem.W.Frag) : AlX := (He.obsD fa fn K, xs.all fun d => d.ok K, xs.map fun d => d.obs K)
def valX (fn : List He.DefD) (xs : List SupD) : AlX := (He.valD fn, true, xs.map SupD.val)
def SaysX (fa : List He.Fa) (fn : List He.DefD) (xs : List SupD) (K : PySem.W.Frag) : Prop := obsX fa fn xs K = valX fn xs
def obsXG (n : Nat) (fa : List He.Fa) (fn : List He.DefD) (xs : List SupD) (g : Addr → Option Obj) : AlX := obsX fa fn xs (He.frG g (He.asD g n ++ [cStatics]))
def hookX (n : Nat) (fa : List He.Fa) (fn : List He.DefD) (xs : List SupD) : PySem.W.Hook where
  α := AlX
  obs := fun s => obsXG n fa fn xs s.heap.get?
  val := fun _ => valX fn xs
  says := fun _ h => ∃ K : PySem.W.Frag, K.In h ∧ SaysX fa fn xs K
  of := fun _ _ e => ⟨_, He.frG_in, e⟩
  keeps := fun _ _ _ ⟨K, hK, c⟩ k => ⟨K, PySem.W.Frag.In.keeps hK k, c⟩
theorem obsXG_eq {n : Nat} {fa : List He.Fa} {fn : List He.DefD} {xs : List SupD} {g : Addr → Option Obj} {s : Shared} (h : ∀ a, g a = s.heap.get? a) : obsXG n fa fn xs g = (hookX n fa fn xs).obs s := by
  have e : g = s.heap.get? := funext h
  rw [e] <;> rfl
section
variable {fa : List He.Fa} {fn : List He.DefD} {xs : List SupD} {K : PySem.W.Frag}
theorem SaysX.d (c : SaysX fa fn xs K) : He.SaysD fa fn K := congrArg (fun z : AlX => z.1) c
theorem SaysX.sup (c : SaysX fa fn xs K) (i : Nat) {d : SupD} (h : xs[i]? = some d := by rfl) : d.obs K = d.val ∧ d.ok K = true := by
  have c1 : (xs.all fun d => d.ok K) = true := congrArg (fun z : AlX => z.2.1) c
  have c2 : xs.map (fun d => d.obs K) = xs.map SupD.val := congrArg (fun z : AlX => z.2.2) c
  have e2 : (xs.map fun d => d.obs K)[i]? = (xs.map SupD.val)[i]? := by rw [c2]
  rw [List.getElem?_map, List.getElem?_map, h] at e2
  exact ⟨Option.some.inj e2, List.all_eq_true.mp c1 d (List.mem_of_getElem? h)⟩
end
end SxK

set_option Elab.async false
set_option linter.all false
set_option maxRecDepth 100000
set_option maxHeartbeats 2000000
namespace SxK
open PySem PySem.Spec PyProof.Rows L2
/-! ### the Hook with dicts and tuples of the top, and with own exceptions without an own __init__ -/
abbrev TabK : Type := Str × List (Str × He.Dv)
abbrev TupK : Type := Str × List He.Dv
/-- an own exception class without an own __init__ -/
def pexB (K : PySem.W.Frag) (x : Str) : Bool :=
  PySem.W.excIn K (He.ga K x) He.veBase "ValueError.__new__" && (PySem.W.keepIn K (.ref (He.ga K x)) && (decide (PySem.W.subIn K (.ref (He.ga K x)) (.type "BaseException") = some true) && (decide (PySem.W.typeIn K (.ref (He.ga K x)) = some (.type "type")) && (
  decide (PySem.W.exmOne K (.ref (He.ga K x)) (.ref (He.ga K x)) = some true) && (He.eqO (PySem.W.nsIn K mainGlobals x) (some (some (.ref (He.ga K x)))) && (
  He.eqO (PySem.W.findIn K (.ref (He.ga K x)) "__getattribute__") (some (some (.builtin "BaseException.__getattribute__"))) && (He.eqO (PySem.W.findIn K (.ref (He.ga K x)) "__getattr__") (some none) && (
  PySem.W.hasDictIn K (He.ga K x) && (He.eqO (PySem.W.findIn K (.ref (He.ga K x)) "__class__") (some (some (.builtin "object.__class__"))) && (He.eqO (PySem.W.specialIn K (.builtin "object.__class__") "__get__") (some (some (.builtin "getset_descriptor.__get__"))) && (
  decide (PySem.W.takesIn K (.builtin "object.__class__") = some true) && (decide (PySem.W.mroIn K (He.ga K x) (.type "object") = some true) && decide (PySem.W.kitOne K (.ref (He.ga K x)) (.type "ValueError") = some true)))))))))))))
structure PexC (K : PySem.W.Frag) (mg : Str → Option Value) (x : Str) : Prop where
  exc : PySem.W.excIn K (He.ga K x) He.veBase "ValueError.__new__" = true
  keep : PySem.W.keepIn K (.ref (He.ga K x)) = true
  sub : PySem.W.subIn K (.ref (He.ga K x)) (.type "BaseException") = some true
  ty : PySem.W.typeIn K (.ref (He.ga K x)) = some (.type "type")
  exm : PySem.W.exmOne K (.ref (He.ga K x)) (.ref (He.ga K x)) = some true
  glob : mg x = some (.ref (He.ga K x))
  exC : ExcC K (He.ga K x)
  kit : PySem.W.kitOne K (.ref (He.ga K x)) (.type "ValueError") = some true
theorem pexB_ok {K : PySem.W.Frag} {mg : Str → Option Value} {x : Str} {h : Heap} (X : K.In h) (G : h.Ns mainGlobals mg) (c : pexB K x = true) : PexC K mg x := by
  unfold pexB at c
  obtain ⟨c1, c⟩ := He.ba c
  obtain ⟨c2, c⟩ := He.ba c
  obtain ⟨c3, c⟩ := He.ba c
  obtain ⟨c4, c⟩ := He.ba c
  obtain ⟨c5, c⟩ := He.ba c
  obtain ⟨c6, c⟩ := He.ba c
  obtain ⟨c7, c⟩ := He.ba c
  obtain ⟨c8, c⟩ := He.ba c
  obtain ⟨c9, c⟩ := He.ba c
  obtain ⟨c10, c⟩ := He.ba c
  obtain ⟨c11, c⟩ := He.ba c
  obtain ⟨c12, c⟩ := He.ba c
  obtain ⟨c13, c14⟩ := He.ba c
  exact ⟨c1, c2, of_decide_eq_true c3, of_decide_eq_true c4, of_decide_eq_true c5, PySem.W.mg_of X G (He.eqO_ok c6), ⟨He.eqO_ok c7, He.eqO_ok c8, of_decide_eq_true c3, c9, He.eqO_ok c10, He.eqO_ok c11, of_decide_eq_true c12, of_decide_eq_true c13⟩, of_decide_eq_true c14⟩
abbrev AlXU : Type := AlX × ((Bool × Bool × Bool) × List (Option (List (Option (Str × Int)))))
def obsXU (fa : List He.Fa) (fn : List He.DefD) (xs : List SupD) (ts : List TabK) (us : List TupK) (ys : List Str) (K : PySem.W.Frag) : AlXU :=
  (obsX fa fn xs K, (ts.all (fun t => He.valsB K (He.ga K t.1) t.2), us.all (fun t => He.tupB K t.1 t.2), ys.all fun x => pexB K x), ts.map fun t => He.dicW K (He.ga K t.1))
def valXU (fn : List He.DefD) (xs : List SupD) (ts : List TabK) (w : World) : AlXU := (valX fn xs, (true, true, true), ts.map fun t => some (He.keysIn w.params (t.2.map (·.1))))
def SaysXU (fa : List He.Fa) (fn : List He.DefD) (xs : List SupD) (ts : List TabK) (us : List TupK) (ys : List Str) (w : World) (K : PySem.W.Frag) : Prop := obsXU fa fn xs ts us ys K = valXU fn xs ts w
def obsXUG (n : Nat) (fa : List He.Fa) (fn : List He.DefD) (xs : List SupD) (ts : List TabK) (us : List TupK) (ys : List Str) (g : Addr → Option Obj) : AlXU := obsXU fa fn xs ts us ys (He.frG g (He.asD g n ++ [cStatics]))
def hookXU (n : Nat) (fa : List He.Fa) (fn : List He.DefD) (xs : List SupD) (ts : List TabK) (us : List TupK) (ys : List Str) : PySem.W.Hook where
  α := AlXU
  obs := fun s => obsXUG n fa fn xs ts us ys s.heap.get?
  val := fun w => valXU fn xs ts w
  says := fun w h => ∃ K : PySem.W.Frag, K.In h ∧ SaysXU fa fn xs ts us ys w K
  of := fun _ _ e => ⟨_, He.frG_in, e⟩
  keeps := fun _ _ _ ⟨K, hK, c⟩ k => ⟨K, PySem.W.Frag.In.keeps hK k, c⟩
theorem obsXUG_eq {n : Nat} {fa : List He.Fa} {fn : List He.DefD} {xs : List SupD} {ts : List TabK} {us : List TupK} {ys : List Str} {g : Addr → Option Obj} {s : Shared} (h : ∀ a, g a = s.heap.get? a) : obsXUG n fa fn xs ts us ys g = (hookXU n fa fn xs ts us ys).obs s := by
  have e : g = s.heap.get? := funext h
  rw [e] <;> rfl
/-- z is a key of the written dict at a: b -/
def KIn (K : PySem.W.Frag) (w : World) (a : Addr) (z : Str) (b : Bool) : Prop := ∃ es n r, K.lookup a = some ⟨.type "dict", none, .dict es n, #[]⟩ ∧ PySem.W.KeysLit w.params es.toList ∧ (a == sysModules) = false ∧ PySem.W.nsIn K a z = some r ∧ r.isSome = b
theorem low_of {K : PySem.W.Frag} {a : Addr} {l : List (Option (Str × Int))} (h : He.dicW K a = some l) : (a == sysModules) = false := by
  unfold He.dicW at h
  split at h
  · split at h
    · rename_i hb
      obtain ⟨_, hb⟩ := He.ba hb
      obtain ⟨_, hb⟩ := He.ba hb
      simpa using hb
    · cases h
  · cases h
theorem entries_of {K : PySem.W.Frag} {a : Addr} {l : List (Option (Str × Int))} (h : He.dicW K a = some l) : ∃ oc od es n sl, K.lookup a = some ⟨oc, od, .dict es n, sl⟩ ∧ es.toList.map He.keyOf = l := by
  unfold He.dicW at h
  split at h
  · rename_i c es n sl hl
    split at h
    · exact ⟨_, _, es, n, sl, hl, Option.some.inj h⟩
    · cases h
  · cases h
theorem miss_of {K : PySem.W.Frag} {w : World} {a : Addr} {ks : List Str} {z : Str} (h : He.dicW K a = some (He.keysIn w.params ks)) (hz : z ∉ ks) : PySem.W.nsIn K a z = some none := by
  obtain ⟨oc, od, es, n, sl, hl, he⟩ := entries_of h
  have key : ∀ e ∈ es.toList, ∃ k t, e.key = .str k t ∧ k ∈ ks := fun e hm => by
    have : He.keyOf e ∈ He.keysIn w.params ks := by rw [← he]; exact List.mem_map.mpr ⟨e, hm, rfl⟩
    obtain ⟨k, hk, ek⟩ := List.mem_map.mp this
    unfold He.keyOf at ek
    split at ek
    · rename_i x t q
      have e2 := Option.some.inj ek
      exact ⟨x, t, q, by rw [← (Prod.mk.inj e2).1]; exact hk⟩
    · cases ek
  unfold PySem.W.nsIn
  rw [hl]
  dsimp only
  have f1 : es.toList.find? (fun e => e.key.isStr z) = none := by
    rw [List.find?_eq_none]
    intro e hm q
    obtain ⟨k, t, ek, hk⟩ := key e hm
    rw [ek] at q
    have : k = z := by simpa [Value.isStr] using q
    exact hz (by rw [← this]; exact hk)
  have f2 : es.toList.any (fun e => e.refKey) = false := by
    rw [List.any_eq_false]
    intro e hm q
    obtain ⟨k, t, ek, hk⟩ := key e hm
    simp [DictEntry.refKey, ek] at q
  rw [f1, f2]
  rfl
def rInKD (K : PySem.W.Frag) (w : World) : R2 := fun x y H Q => ∃ (p : Addr) (z : Str) (b : Bool), x = .str z ∧ y = .ref p ∧ KIn K w p z b ∧ Q (.bl b) H
theorem op_inKD {X : Cx} {K : PySem.W.Frag} {w : World} (hK : X.K = K) (hw : X.w = w) : OpR X (compareOp .In) (rInKD K w) := by
  subst hK
  subst hw
  intro pins s σ H x y v u Q I rx ry h
  obtain ⟨p, z, b, rfl, rfl, ⟨es, n, r, hl, hk, lo, e, eb⟩, q⟩ := h
  obtain ⟨t, rfl⟩ := (show ∃ t, v = Value.str z t from rx)
  obtain rfl : u = Value.ref p := ry
  have hm := PySem.W.mapOf_K (prog := X.prog) (w := X.w) I.kIn hl hk
  refine wpAny_in_of (strKind_is X.prog X.w z t) lo hm ?_
  rw [PySem.W.find_K hl e, eb]
  exact ⟨.bl b, H, I.tok _, rfl, q⟩
section
variable {fa : List He.Fa} {fn : List He.DefD} {xs : List SupD} {ts : List TabK} {us : List TupK} {ys : List Str} {w : World} {K : PySem.W.Frag}
theorem SaysXU.x (c : SaysXU fa fn xs ts us ys w K) : SaysX fa fn xs K := congrArg (fun z : AlXU => z.1) c
theorem SaysXU.dic (c : SaysXU fa fn xs ts us ys w K) (i : Nat) {t : TabK} (h : ts[i]? = some t) : He.dicW K (He.ga K t.1) = some (He.keysIn w.params (t.2.map (·.1))) := by
  have e : ts.map (fun t => He.dicW K (He.ga K t.1)) = ts.map fun t => some (He.keysIn w.params (t.2.map (·.1))) := congrArg (fun z : AlXU => z.2.2) c
  have e2 : (ts.map (fun t => He.dicW K (He.ga K t.1)))[i]? = (ts.map fun t => some (He.keysIn w.params (t.2.map (·.1))))[i]? := by rw [e]
  rw [List.getElem?_map, List.getElem?_map, h] at e2
  exact Option.some.inj e2
theorem SaysXU.val (c : SaysXU fa fn xs ts us ys w K) (i : Nat) {t : TabK} (h : ts[i]? = some t) : He.valsB K (He.ga K t.1) t.2 = true := by
  have e1 : ts.all (fun t => He.valsB K (He.ga K t.1) t.2) = true := congrArg (fun z : AlXU => z.2.1.1) c
  exact List.all_eq_true.mp e1 t (List.mem_of_getElem? h)
theorem SaysXU.tab (c : SaysXU fa fn xs ts us ys w K) (i : Nat) {t : TabK} (h : ts[i]? = some t) {x : Str} {d : He.Dv} (hx : (x, d) ∈ t.2) : KDct K w (He.ga K t.1) x (d.v K) := by
  obtain ⟨es, n, k⟩ := He.dicW_ok (c.dic i h)
  obtain ⟨u, q1, q2⟩ := He.valsB_ok (c.val i h) hx
  exact ⟨es, n, u, k.at_, k.lit, q1, q2⟩
theorem SaysXU.has (c : SaysXU fa fn xs ts us ys w K) (i : Nat) {t : TabK} (h : ts[i]? = some t) (z : Str) : KIn K w (He.ga K t.1) z (decide (z ∈ t.2.map (·.1))) := by
  obtain ⟨es, n, k⟩ := He.dicW_ok (c.dic i h)
  by_cases q : z ∈ t.2.map (·.1)
  · obtain ⟨⟨x, d⟩, hm, rfl⟩ := List.mem_map.mp q
    obtain ⟨u, q1, _⟩ := He.valsB_ok (c.val i h) hm
    exact ⟨es, n, some u, k.at_, k.lit, low_of (c.dic i h), q1, by rw [decide_eq_true q]; rfl⟩
  · exact ⟨es, n, none, k.at_, k.lit, low_of (c.dic i h), miss_of (c.dic i h) q, by rw [decide_eq_false q]; rfl⟩
theorem SaysXU.tup (c : SaysXU fa fn xs ts us ys w K) (i : Nat) {t : TupK} (h : us[i]? = some t) (H : Hp) : SqT K H (He.ga K t.1) (t.2.map (He.Dv.v K)) := by
  have e1 : us.all (fun t => He.tupB K t.1 t.2) = true := congrArg (fun z : AlXU => z.2.1.2.1) c
  exact He.tupB_ok (List.all_eq_true.mp e1 t (List.mem_of_getElem? h)) H
theorem SaysXU.pex (c : SaysXU fa fn xs ts us ys w K) (i : Nat) {x : Str} (h : ys[i]? = some x) {hp : Heap} {mg : Str → Option Value} (X : K.In hp) (G : hp.Ns mainGlobals mg) : PexC K mg x := by
  have e1 : (ys.all fun x => pexB K x) = true := congrArg (fun z : AlXU => z.2.1.2.2) c
  exact pexB_ok X G (List.all_eq_true.mp e1 x (List.mem_of_getElem? h))
end
/-! ### X() -/
theorem raises_of {X : Cx} {mg : Str → Option Value} {x : Str} (c : PexC X.K mg x) : Raises X (.ref (He.ga X.K x)) := fun _ _ hK => ⟨PySem.W.looks_subIn hK c.sub, PySem.W.looks_typeIn hK c.ty⟩
theorem pmk_own0 {X : Cx} {x : Str} {p pos : Pos} (c : PexC X.K X.mg x) (hg : Gl X x) (hdb : (x == ("__debug__" : Str)) = false := by decide) : PMk X (.Call (.Name x p) [] [] pos) (fun _ H Q => Q (.ref (He.ga X.K x)) none H) := by
  intro pins s σ H Q I h
  refine wpAny_Call_Name_kw (ld_glob I hg c.glob ?_ hdb)
  refine PySem.W.callWith_K0 I.kIn c.keep ?_
  show wpAny _ _ (call (.ref (He.ga X.K x)) []) _ _ _
  obtain ⟨bm, N, nm, qn, bs, hdct, sn, sub, ab, col, dd, k0, k1, k2, k3, k5, mN, hC, hN, hni, T⟩ := exc_obj I.kIn c.exc
  refine wpAny_call_exc_subT PySem.F.excBase_ValueError T hC hN hni (fun h' e hm => ?_) (Nat.zero_le _)
  exact mk_of I hm (raises_of c) h (I.hok.gone hm.new)
end SxK

set_option Elab.async false
set_option linter.all false
set_option maxRecDepth 100000
set_option maxHeartbeats 0
namespace Sx
open PySem PySem.Spec PyProof.Rows L2
/-! ### the text by places -/
def top (i : Nat) : Stmt := PySem.Challenge.pw_sixdot_k04_whole_books_written_and_read.main.body.getD i (.Pass ⟨0, 0, 0, 0⟩)
abbrev sBookInit : Stmt := inClass (top 5) 0
abbrev sTextErrorInit : Stmt := inClass (top 21) 0
abbrev sTooLargeInit : Stmt := inClass (top 22) 0
abbrev sSameBook : Stmt := top 6
abbrev sIsSign : Stmt := top 7
abbrev sTextFault : Stmt := top 8
abbrev sIsSpareSpace : Stmt := top 9
abbrev sIsText : Stmt := top 10
abbrev sIsBlock : Stmt := top 11
abbrev sIsBook : Stmt := top 12
abbrev sLinesOf : Stmt := top 16
abbrev sNumberOf : Stmt := top 17
abbrev sNumberWord : Stmt := top 18
abbrev sCheckSigns : Stmt := top 24
abbrev sReadBlock : Stmt := top 27
abbrev sBlockNumber : Stmt := top 28
abbrev sBlockText : Stmt := top 29
abbrev sReadBook : Stmt := top 30
abbrev sEnded : Stmt := top 32
abbrev sWriteBlock : Stmt := top 33
abbrev sWriteBook : Stmt := top 34
abbrev sLawState : Stmt := top 36
abbrev sLawDraw : Stmt := top 37
abbrev sLawText : Stmt := top 38
abbrev sLawBlocks : Stmt := top 39
abbrev sLawChanged : Stmt := top 40
abbrev sLawLine : Stmt := top 41
abbrev sLaw : Stmt := top 42
/-! ### the head: facts by names, the run -/
def dBookInit : He.DefD := ⟨("Book", some "__init__"), "__init__", "Book.__init__", defArgs sBookInit, defBody sBookInit, defScope sBookInit, [], []⟩
def dSameBook : He.DefD := ⟨("same_book", none), "same_book", "same_book", defArgs sSameBook, defBody sSameBook, defScope sSameBook, [], []⟩
def dIsSign : He.DefD := ⟨("is_sign", none), "is_sign", "is_sign", defArgs sIsSign, defBody sIsSign, defScope sIsSign, [], []⟩
def dTextFault : He.DefD := ⟨("text_fault", none), "text_fault", "text_fault", defArgs sTextFault, defBody sTextFault, defScope sTextFault, [], []⟩
def dIsSpareSpace : He.DefD := ⟨("is_spare_space", none), "is_spare_space", "is_spare_space", defArgs sIsSpareSpace, defBody sIsSpareSpace, defScope sIsSpareSpace, [], []⟩
def dIsText : He.DefD := ⟨("is_text", none), "is_text", "is_text", defArgs sIsText, defBody sIsText, defScope sIsText, [], []⟩
def dIsBlock : He.DefD := ⟨("is_block", none), "is_block", "is_block", defArgs sIsBlock, defBody sIsBlock, defScope sIsBlock, [], []⟩
def dIsBook : He.DefD := ⟨("is_book", none), "is_book", "is_book", defArgs sIsBook, defBody sIsBook, defScope sIsBook, [], []⟩
def dLinesOf : He.DefD := ⟨("lines_of", none), "lines_of", "lines_of", defArgs sLinesOf, defBody sLinesOf, defScope sLinesOf, [], []⟩
def dNumberOf : He.DefD := ⟨("number_of", none), "number_of", "number_of", defArgs sNumberOf, defBody sNumberOf, defScope sNumberOf, [], []⟩
def dNumberWord : He.DefD := ⟨("number_word", none), "number_word", "number_word", defArgs sNumberWord, defBody sNumberWord, defScope sNumberWord, [], []⟩
def dCheckSigns : He.DefD := ⟨("check_signs", none), "check_signs", "check_signs", defArgs sCheckSigns, defBody sCheckSigns, defScope sCheckSigns, [], []⟩
def dReadBlock : He.DefD := ⟨("read_block", none), "read_block", "read_block", defArgs sReadBlock, defBody sReadBlock, defScope sReadBlock, [], []⟩
def dBlockNumber : He.DefD := ⟨("block_number", none), "block_number", "block_number", defArgs sBlockNumber, defBody sBlockNumber, defScope sBlockNumber, [], []⟩
def dBlockText : He.DefD := ⟨("block_text", none), "block_text", "block_text", defArgs sBlockText, defBody sBlockText, defScope sBlockText, [], []⟩
def dReadBook : He.DefD := ⟨("read_book", none), "read_book", "read_book", defArgs sReadBook, defBody sReadBook, defScope sReadBook, [], []⟩
def dEnded : He.DefD := ⟨("ended", none), "ended", "ended", defArgs sEnded, defBody sEnded, defScope sEnded, [], []⟩
def dWriteBlock : He.DefD := ⟨("write_block", none), "write_block", "write_block", defArgs sWriteBlock, defBody sWriteBlock, defScope sWriteBlock, [], []⟩
def dWriteBook : He.DefD := ⟨("write_book", none), "write_book", "write_book", defArgs sWriteBook, defBody sWriteBook, defScope sWriteBook, [], []⟩
def dLawState : He.DefD := ⟨("_law_state", none), "_law_state", "_law_state", defArgs sLawState, defBody sLawState, defScope sLawState, [], []⟩
def dLawDraw : He.DefD := ⟨("_law_draw", none), "_law_draw", "_law_draw", defArgs sLawDraw, defBody sLawDraw, defScope sLawDraw, [], []⟩
def dLawText : He.DefD := ⟨("_law_text", none), "_law_text", "_law_text", defArgs sLawText, defBody sLawText, defScope sLawText, [], []⟩
def dLawBlocks : He.DefD := ⟨("_law_blocks", none), "_law_blocks", "_law_blocks", defArgs sLawBlocks, defBody sLawBlocks, defScope sLawBlocks, [], []⟩
def dLawChanged : He.DefD := ⟨("_law_changed", none), "_law_changed", "_law_changed", defArgs sLawChanged, defBody sLawChanged, defScope sLawChanged, [], []⟩
def dLawLine : He.DefD := ⟨("_law_line", none), "_law_line", "_law_line", defArgs sLawLine, defBody sLawLine, defScope sLawLine, [], []⟩
def dLaw : He.DefD := ⟨("law", none), "law", "law", defArgs sLaw, defBody sLaw, defScope sLaw, [], []⟩
def xTextError : SxK.SupD := ⟨"TextError", "TextError.__init__", defArgs sTextErrorInit, defBody sTextErrorInit, defScope sTextErrorInit, "/claim/cut.py", ["line", "column", "reason"], ["TooLarge"]⟩
def xTooLarge : SxK.SupD := ⟨"TooLarge", "TooLarge.__init__", defArgs sTooLargeInit, defBody sTooLargeInit, defScope sTooLargeInit, "/claim/cut.py", ["limit"], ["TextError"]⟩
def xs : List SxK.SupD := [xTextError, xTooLarge]
def fn : List He.DefD := [dBookInit, dSameBook, dIsSign, dTextFault, dIsSpareSpace, dIsText, dIsBlock, dIsBook, dLinesOf, dNumberOf, dNumberWord, dCheckSigns, dReadBlock, dBlockNumber, dBlockText, dReadBook, dEnded, dWriteBlock, dWriteBook, dLawState, dLawDraw, dLawText, dLawBlocks, dLawChanged, dLawLine, dLaw]
def fa : List He.Fa := [.glo "same_book", .glo "is_sign", .glo "text_fault", .glo "is_spare_space", .glo "is_text", .glo "is_block", .glo "is_book", .glo "lines_of", .glo "number_of", .glo "number_word", .glo "check_signs", .glo "read_block", .glo "block_number", .glo "block_text", .glo "read_book", .glo "ended", .glo "write_block", .glo "write_book", .glo "_law_state", .glo "_law_draw", .glo "_law_text", .glo "_law_blocks", .glo "_law_changed", .glo "_law_line", .glo "law", .free "ValueError", .free "abs", .free "all", .free "divmod", .free "enumerate", .free "int", .free "isinstance", .free "len", .free "list", .free "range", .free "reversed", .free "str", .free "super", .int "MOST_BLOCKS" 200, .int "MOST_TEXT_SIGNS" 400, .int "PART_DIGITS" 64, .int "PART" 10000000000000000000000000000000000000000000000000000000000000000, .int "MOST_BOOK_CHARACTERS" 100000, .glo "MOST_NUMBERS", .glo "PLAIN_BLOCKS", .glo "Book", .cls "Book", .mkr "Book", .noat "Book" "blocks", .glo "SixdotError", .glo "TextError", .glo "TooLarge"]
def loose0 : List Str := ["MOST_BLOCKS", "MOST_TEXT_SIGNS", "PLAIN_BLOCKS", "MOST_NUMBERS", "Book", "same_book", "is_sign", "text_fault", "is_spare_space", "is_text", "is_block", "is_book", "PART_DIGITS", "PART", "lines_of", "number_of", "number_word", "SixdotError", "TextError", "TooLarge", "check_signs", "MOST_BOOK_CHARACTERS", "read_block", "block_number", "block_text", "read_book", "ended", "write_block", "write_book", "_law_state"]
def loose1 : List Str := ["_law_draw", "_law_text", "_law_blocks", "_law_changed", "_law_line"]
abbrev loose : List Str := loose0 ++ loose1
abbrev R : PySem.W.OpenRow := PySem.W.OpenLaw.row PySem.Challenge.rw_sixdot_k04_whole_books_written_and_read
def ts : List SxK.TabK := [("MOST_NUMBERS", [("item", .int 3), ("note", .int 99)])]
def us : List SxK.TupK := [("PLAIN_BLOCKS", [.str "head", .str "par"])]
def ys : List Str := []
abbrev hk : PySem.W.Hook := SxK.hookXU 5 fa fn xs ts us ys
def ob (s : PySem.W.SharedT) : SxK.AlXU := SxK.obsXUG 5 fa fn xs ts us ys (HandSHeadRun.getT s)
theorem ob_eq (s : PySem.W.SharedT) : ob s = hk.obs s.abs := SxK.obsXUG_eq (HandSHeadRun.getT_eq s)
abbrev RP (w : World) : Prop := HandSHeadRun.RunEq R (PySem.W.view R.prog [42]) hk ob 4000 loose w
theorem runF (w : World) : RP (w.withFollow "special-get-raises" false) := by
  intro os
  kernel_rfl
theorem runT (w : World) : RP (w.withFollow "special-get-raises" true) := by
  intro os
  kernel_rfl
theorem run (w : World) : RP w := PySem.W.byRow2 "special-get-raises" (P := RP) runF runT w
end Sx

set_option Elab.async false
set_option linter.all false
set_option maxRecDepth 100000
set_option maxHeartbeats 4000000
namespace Sx
open PySem PySem.Spec PyProof.Rows L2
/-- what stands behind the top -/
structure T (K : PySem.W.Frag) (mg : Str → Option Value) : Prop where
  c : SxK.SaysX fa fn xs K
  g : ∃ h : Heap, K.In h ∧ h.Ns mainGlobals mg
section
variable {K : PySem.W.Frag} {mg : Str → Option Value}
/-- a def of the top -/
abbrev Fd (K : PySem.W.Frag) (x : Str) (st : Stmt) : Prop := ∃ fd, FunD K x x (defArgs st) (defBody st) (defScope st) [] [] (He.ga K x) fd
theorem T.g_same_book (t : T K mg) : mg "same_book" = some (.ref (He.ga K "same_book")) := by
  obtain ⟨h, X, G⟩ := t.g
  exact He.glo_ok X G (t.c.d.fact 0 (f := .glo "same_book") rfl)
theorem T.g_is_sign (t : T K mg) : mg "is_sign" = some (.ref (He.ga K "is_sign")) := by
  obtain ⟨h, X, G⟩ := t.g
  exact He.glo_ok X G (t.c.d.fact 1 (f := .glo "is_sign") rfl)
theorem T.g_text_fault (t : T K mg) : mg "text_fault" = some (.ref (He.ga K "text_fault")) := by
  obtain ⟨h, X, G⟩ := t.g
  exact He.glo_ok X G (t.c.d.fact 2 (f := .glo "text_fault") rfl)
theorem T.g_is_spare_space (t : T K mg) : mg "is_spare_space" = some (.ref (He.ga K "is_spare_space")) := by
  obtain ⟨h, X, G⟩ := t.g
  exact He.glo_ok X G (t.c.d.fact 3 (f := .glo "is_spare_space") rfl)
theorem T.g_is_text (t : T K mg) : mg "is_text" = some (.ref (He.ga K "is_text")) := by
  obtain ⟨h, X, G⟩ := t.g
  exact He.glo_ok X G (t.c.d.fact 4 (f := .glo "is_text") rfl)
theorem T.g_is_block (t : T K mg) : mg "is_block" = some (.ref (He.ga K "is_block")) := by
  obtain ⟨h, X, G⟩ := t.g
  exact He.glo_ok X G (t.c.d.fact 5 (f := .glo "is_block") rfl)
theorem T.g_is_book (t : T K mg) : mg "is_book" = some (.ref (He.ga K "is_book")) := by
  obtain ⟨h, X, G⟩ := t.g
  exact He.glo_ok X G (t.c.d.fact 6 (f := .glo "is_book") rfl)
theorem T.g_lines_of (t : T K mg) : mg "lines_of" = some (.ref (He.ga K "lines_of")) := by
  obtain ⟨h, X, G⟩ := t.g
  exact He.glo_ok X G (t.c.d.fact 7 (f := .glo "lines_of") rfl)
theorem T.g_number_of (t : T K mg) : mg "number_of" = some (.ref (He.ga K "number_of")) := by
  obtain ⟨h, X, G⟩ := t.g
  exact He.glo_ok X G (t.c.d.fact 8 (f := .glo "number_of") rfl)
theorem T.g_number_word (t : T K mg) : mg "number_word" = some (.ref (He.ga K "number_word")) := by
  obtain ⟨h, X, G⟩ := t.g
  exact He.glo_ok X G (t.c.d.fact 9 (f := .glo "number_word") rfl)
theorem T.g_check_signs (t : T K mg) : mg "check_signs" = some (.ref (He.ga K "check_signs")) := by
  obtain ⟨h, X, G⟩ := t.g
  exact He.glo_ok X G (t.c.d.fact 10 (f := .glo "check_signs") rfl)
theorem T.g_read_block (t : T K mg) : mg "read_block" = some (.ref (He.ga K "read_block")) := by
  obtain ⟨h, X, G⟩ := t.g
  exact He.glo_ok X G (t.c.d.fact 11 (f := .glo "read_block") rfl)
theorem T.g_block_number (t : T K mg) : mg "block_number" = some (.ref (He.ga K "block_number")) := by
  obtain ⟨h, X, G⟩ := t.g
  exact He.glo_ok X G (t.c.d.fact 12 (f := .glo "block_number") rfl)
theorem T.g_block_text (t : T K mg) : mg "block_text" = some (.ref (He.ga K "block_text")) := by
  obtain ⟨h, X, G⟩ := t.g
  exact He.glo_ok X G (t.c.d.fact 13 (f := .glo "block_text") rfl)
theorem T.g_read_book (t : T K mg) : mg "read_book" = some (.ref (He.ga K "read_book")) := by
  obtain ⟨h, X, G⟩ := t.g
  exact He.glo_ok X G (t.c.d.fact 14 (f := .glo "read_book") rfl)
theorem T.g_ended (t : T K mg) : mg "ended" = some (.ref (He.ga K "ended")) := by
  obtain ⟨h, X, G⟩ := t.g
  exact He.glo_ok X G (t.c.d.fact 15 (f := .glo "ended") rfl)
theorem T.g_write_block (t : T K mg) : mg "write_block" = some (.ref (He.ga K "write_block")) := by
  obtain ⟨h, X, G⟩ := t.g
  exact He.glo_ok X G (t.c.d.fact 16 (f := .glo "write_block") rfl)
theorem T.g_write_book (t : T K mg) : mg "write_book" = some (.ref (He.ga K "write_book")) := by
  obtain ⟨h, X, G⟩ := t.g
  exact He.glo_ok X G (t.c.d.fact 17 (f := .glo "write_book") rfl)
theorem T.g_law_state (t : T K mg) : mg "_law_state" = some (.ref (He.ga K "_law_state")) := by
  obtain ⟨h, X, G⟩ := t.g
  exact He.glo_ok X G (t.c.d.fact 18 (f := .glo "_law_state") rfl)
theorem T.g_law_draw (t : T K mg) : mg "_law_draw" = some (.ref (He.ga K "_law_draw")) := by
  obtain ⟨h, X, G⟩ := t.g
  exact He.glo_ok X G (t.c.d.fact 19 (f := .glo "_law_draw") rfl)
theorem T.g_law_text (t : T K mg) : mg "_law_text" = some (.ref (He.ga K "_law_text")) := by
  obtain ⟨h, X, G⟩ := t.g
  exact He.glo_ok X G (t.c.d.fact 20 (f := .glo "_law_text") rfl)
theorem T.g_law_blocks (t : T K mg) : mg "_law_blocks" = some (.ref (He.ga K "_law_blocks")) := by
  obtain ⟨h, X, G⟩ := t.g
  exact He.glo_ok X G (t.c.d.fact 21 (f := .glo "_law_blocks") rfl)
theorem T.g_law_changed (t : T K mg) : mg "_law_changed" = some (.ref (He.ga K "_law_changed")) := by
  obtain ⟨h, X, G⟩ := t.g
  exact He.glo_ok X G (t.c.d.fact 22 (f := .glo "_law_changed") rfl)
theorem T.g_law_line (t : T K mg) : mg "_law_line" = some (.ref (He.ga K "_law_line")) := by
  obtain ⟨h, X, G⟩ := t.g
  exact He.glo_ok X G (t.c.d.fact 23 (f := .glo "_law_line") rfl)
theorem T.g_law (t : T K mg) : mg "law" = some (.ref (He.ga K "law")) := by
  obtain ⟨h, X, G⟩ := t.g
  exact He.glo_ok X G (t.c.d.fact 24 (f := .glo "law") rfl)
theorem T.f_ValueError (t : T K mg) : mg "ValueError" = none := by
  obtain ⟨h, X, G⟩ := t.g
  exact He.free_ok X G (t.c.d.fact 25 (f := .free "ValueError") rfl)
theorem T.f_abs (t : T K mg) : mg "abs" = none := by
  obtain ⟨h, X, G⟩ := t.g
  exact He.free_ok X G (t.c.d.fact 26 (f := .free "abs") rfl)
theorem T.f_all (t : T K mg) : mg "all" = none := by
  obtain ⟨h, X, G⟩ := t.g
  exact He.free_ok X G (t.c.d.fact 27 (f := .free "all") rfl)
theorem T.f_divmod (t : T K mg) : mg "divmod" = none := by
  obtain ⟨h, X, G⟩ := t.g
  exact He.free_ok X G (t.c.d.fact 28 (f := .free "divmod") rfl)
theorem T.f_enumerate (t : T K mg) : mg "enumerate" = none := by
  obtain ⟨h, X, G⟩ := t.g
  exact He.free_ok X G (t.c.d.fact 29 (f := .free "enumerate") rfl)
theorem T.f_int (t : T K mg) : mg "int" = none := by
  obtain ⟨h, X, G⟩ := t.g
  exact He.free_ok X G (t.c.d.fact 30 (f := .free "int") rfl)
theorem T.f_isinstance (t : T K mg) : mg "isinstance" = none := by
  obtain ⟨h, X, G⟩ := t.g
  exact He.free_ok X G (t.c.d.fact 31 (f := .free "isinstance") rfl)
theorem T.f_len (t : T K mg) : mg "len" = none := by
  obtain ⟨h, X, G⟩ := t.g
  exact He.free_ok X G (t.c.d.fact 32 (f := .free "len") rfl)
theorem T.f_list (t : T K mg) : mg "list" = none := by
  obtain ⟨h, X, G⟩ := t.g
  exact He.free_ok X G (t.c.d.fact 33 (f := .free "list") rfl)
theorem T.f_range (t : T K mg) : mg "range" = none := by
  obtain ⟨h, X, G⟩ := t.g
  exact He.free_ok X G (t.c.d.fact 34 (f := .free "range") rfl)
theorem T.f_reversed (t : T K mg) : mg "reversed" = none := by
  obtain ⟨h, X, G⟩ := t.g
  exact He.free_ok X G (t.c.d.fact 35 (f := .free "reversed") rfl)
theorem T.f_str (t : T K mg) : mg "str" = none := by
  obtain ⟨h, X, G⟩ := t.g
  exact He.free_ok X G (t.c.d.fact 36 (f := .free "str") rfl)
theorem T.f_super (t : T K mg) : mg "super" = none := by
  obtain ⟨h, X, G⟩ := t.g
  exact He.free_ok X G (t.c.d.fact 37 (f := .free "super") rfl)
theorem T.i_MOST_BLOCKS (t : T K mg) : ∃ k, mg "MOST_BLOCKS" = some (.int 200 k) := by
  obtain ⟨h, X, G⟩ := t.g
  exact He.int_ok X G (t.c.d.fact 38 (f := .int "MOST_BLOCKS" 200) rfl)
theorem T.i_MOST_TEXT_SIGNS (t : T K mg) : ∃ k, mg "MOST_TEXT_SIGNS" = some (.int 400 k) := by
  obtain ⟨h, X, G⟩ := t.g
  exact He.int_ok X G (t.c.d.fact 39 (f := .int "MOST_TEXT_SIGNS" 400) rfl)
theorem T.i_PART_DIGITS (t : T K mg) : ∃ k, mg "PART_DIGITS" = some (.int 64 k) := by
  obtain ⟨h, X, G⟩ := t.g
  exact He.int_ok X G (t.c.d.fact 40 (f := .int "PART_DIGITS" 64) rfl)
theorem T.i_PART (t : T K mg) : ∃ k, mg "PART" = some (.int 10000000000000000000000000000000000000000000000000000000000000000 k) := by
  obtain ⟨h, X, G⟩ := t.g
  exact He.int_ok X G (t.c.d.fact 41 (f := .int "PART" 10000000000000000000000000000000000000000000000000000000000000000) rfl)
theorem T.i_MOST_BOOK_CHARACTERS (t : T K mg) : ∃ k, mg "MOST_BOOK_CHARACTERS" = some (.int 100000 k) := by
  obtain ⟨h, X, G⟩ := t.g
  exact He.int_ok X G (t.c.d.fact 42 (f := .int "MOST_BOOK_CHARACTERS" 100000) rfl)
theorem T.g_MOST_NUMBERS (t : T K mg) : mg "MOST_NUMBERS" = some (.ref (He.ga K "MOST_NUMBERS")) := by
  obtain ⟨h, X, G⟩ := t.g
  exact He.glo_ok X G (t.c.d.fact 43 (f := .glo "MOST_NUMBERS") rfl)
theorem T.g_PLAIN_BLOCKS (t : T K mg) : mg "PLAIN_BLOCKS" = some (.ref (He.ga K "PLAIN_BLOCKS")) := by
  obtain ⟨h, X, G⟩ := t.g
  exact He.glo_ok X G (t.c.d.fact 44 (f := .glo "PLAIN_BLOCKS") rfl)
theorem T.g_Book (t : T K mg) : mg "Book" = some (.ref (He.ga K "Book")) := by
  obtain ⟨h, X, G⟩ := t.g
  exact He.glo_ok X G (t.c.d.fact 45 (f := .glo "Book") rfl)
theorem T.c_Book (t : T K mg) : Cls K (He.ga K "Book") := He.cls_ok (t.c.d.fact 46 (f := .cls "Book") rfl)
theorem T.m_Book (t : T K mg) : Mk K (He.ga K "Book") (He.ma K (He.ga K "Book") "__init__") := He.mkr_ok (t.c.d.fact 47 (f := .mkr "Book") rfl)
theorem T.n_Book_blocks (t : T K mg) : NoAttr K (He.ga K "Book") "blocks" := He.noat_ok (t.c.d.fact 48 (f := .noat "Book" "blocks") rfl)
theorem T.g_SixdotError (t : T K mg) : mg "SixdotError" = some (.ref (He.ga K "SixdotError")) := by
  obtain ⟨h, X, G⟩ := t.g
  exact He.glo_ok X G (t.c.d.fact 49 (f := .glo "SixdotError") rfl)
theorem T.g_TextError (t : T K mg) : mg "TextError" = some (.ref (He.ga K "TextError")) := by
  obtain ⟨h, X, G⟩ := t.g
  exact He.glo_ok X G (t.c.d.fact 50 (f := .glo "TextError") rfl)
theorem T.g_TooLarge (t : T K mg) : mg "TooLarge" = some (.ref (He.ga K "TooLarge")) := by
  obtain ⟨h, X, G⟩ := t.g
  exact He.glo_ok X G (t.c.d.fact 51 (f := .glo "TooLarge") rfl)
theorem T.d_Book_init (t : T K mg) : ∃ fd, FunD K "__init__" "Book.__init__" (defArgs sBookInit) (defBody sBookInit) (defScope sBookInit) [] [] (He.ma K (He.ga K "Book") "__init__") fd := t.c.d.def_ 0 (d := dBookInit) rfl
theorem T.d_same_book (t : T K mg) : Fd K "same_book" sSameBook := t.c.d.def_ 1 (d := dSameBook) rfl
theorem T.d_is_sign (t : T K mg) : Fd K "is_sign" sIsSign := t.c.d.def_ 2 (d := dIsSign) rfl
theorem T.d_text_fault (t : T K mg) : Fd K "text_fault" sTextFault := t.c.d.def_ 3 (d := dTextFault) rfl
theorem T.d_is_spare_space (t : T K mg) : Fd K "is_spare_space" sIsSpareSpace := t.c.d.def_ 4 (d := dIsSpareSpace) rfl
theorem T.d_is_text (t : T K mg) : Fd K "is_text" sIsText := t.c.d.def_ 5 (d := dIsText) rfl
theorem T.d_is_block (t : T K mg) : Fd K "is_block" sIsBlock := t.c.d.def_ 6 (d := dIsBlock) rfl
theorem T.d_is_book (t : T K mg) : Fd K "is_book" sIsBook := t.c.d.def_ 7 (d := dIsBook) rfl
theorem T.d_lines_of (t : T K mg) : Fd K "lines_of" sLinesOf := t.c.d.def_ 8 (d := dLinesOf) rfl
theorem T.d_number_of (t : T K mg) : Fd K "number_of" sNumberOf := t.c.d.def_ 9 (d := dNumberOf) rfl
theorem T.d_number_word (t : T K mg) : Fd K "number_word" sNumberWord := t.c.d.def_ 10 (d := dNumberWord) rfl
theorem T.d_check_signs (t : T K mg) : Fd K "check_signs" sCheckSigns := t.c.d.def_ 11 (d := dCheckSigns) rfl
theorem T.d_read_block (t : T K mg) : Fd K "read_block" sReadBlock := t.c.d.def_ 12 (d := dReadBlock) rfl
theorem T.d_block_number (t : T K mg) : Fd K "block_number" sBlockNumber := t.c.d.def_ 13 (d := dBlockNumber) rfl
theorem T.d_block_text (t : T K mg) : Fd K "block_text" sBlockText := t.c.d.def_ 14 (d := dBlockText) rfl
theorem T.d_read_book (t : T K mg) : Fd K "read_book" sReadBook := t.c.d.def_ 15 (d := dReadBook) rfl
theorem T.d_ended (t : T K mg) : Fd K "ended" sEnded := t.c.d.def_ 16 (d := dEnded) rfl
theorem T.d_write_block (t : T K mg) : Fd K "write_block" sWriteBlock := t.c.d.def_ 17 (d := dWriteBlock) rfl
theorem T.d_write_book (t : T K mg) : Fd K "write_book" sWriteBook := t.c.d.def_ 18 (d := dWriteBook) rfl
theorem T.d_law_state (t : T K mg) : Fd K "_law_state" sLawState := t.c.d.def_ 19 (d := dLawState) rfl
theorem T.d_law_draw (t : T K mg) : Fd K "_law_draw" sLawDraw := t.c.d.def_ 20 (d := dLawDraw) rfl
theorem T.d_law_text (t : T K mg) : Fd K "_law_text" sLawText := t.c.d.def_ 21 (d := dLawText) rfl
theorem T.d_law_blocks (t : T K mg) : Fd K "_law_blocks" sLawBlocks := t.c.d.def_ 22 (d := dLawBlocks) rfl
theorem T.d_law_changed (t : T K mg) : Fd K "_law_changed" sLawChanged := t.c.d.def_ 23 (d := dLawChanged) rfl
theorem T.d_law_line (t : T K mg) : Fd K "_law_line" sLawLine := t.c.d.def_ 24 (d := dLawLine) rfl
theorem T.d_law (t : T K mg) : Fd K "law" sLaw := t.c.d.def_ 25 (d := dLaw) rfl
theorem T.e_TextError (t : T K mg) {P : Program} (hf : P.main.file = xTextError.file) (ht : (P.main.scope.names.lookup ("super" : Str)).isSome = false) : SxK.ErrC P K mg xTextError := by
  obtain ⟨h, X, G⟩ := t.g
  exact SxK.SupD.err X G (t.c.sup 0 (d := xTextError) rfl).1 (t.c.sup 0 (d := xTextError) rfl).2 hf ht
theorem T.e_TooLarge (t : T K mg) {P : Program} (hf : P.main.file = xTooLarge.file) (ht : (P.main.scope.names.lookup ("super" : Str)).isSome = false) : SxK.ErrC P K mg xTooLarge := by
  obtain ⟨h, X, G⟩ := t.g
  exact SxK.SupD.err X G (t.c.sup 1 (d := xTooLarge) rfl).1 (t.c.sup 1 (d := xTooLarge) rfl).2 hf ht
end
end Sx

set_option Elab.async false
set_option linter.all false
set_option maxRecDepth 100000
set_option maxHeartbeats 4000000
/-! rules that the layer lacks: len(set(text)), text * int, list(reversed(list)) -/
namespace SxA
open PySem PySem.Spec PyProof.Rows L2

/-! ### the different signs of a text, in the order in which they come -/
def stepD (acc : List Nat) (c : Nat) : List Nat := if c ∈ acc then acc else acc ++ [c]
def firsts (l : List Nat) : List Nat := l.foldl stepD []
theorem firsts_snoc (l : List Nat) (c : Nat) : firsts (l ++ [c]) = stepD (firsts l) c := by
  unfold firsts; rw [List.foldl_append]; rfl
theorem mem_step (acc : List Nat) (c k : Nat) : k ∈ stepD acc c ↔ k ∈ acc ∨ k = c := by
  unfold stepD
  by_cases h : c ∈ acc
  · rw [if_pos h]
    exact ⟨Or.inl, fun q => q.elim id fun e => by rw [e]; exact h⟩
  · rw [if_neg h, List.mem_append, List.mem_singleton]
theorem mem_fold : ∀ (l acc : List Nat) (k : Nat), k ∈ l.foldl stepD acc ↔ k ∈ acc ∨ k ∈ l
  | [], acc, k => by simp
  | c :: l, acc, k => by
    rw [List.foldl_cons, mem_fold l, mem_step, List.mem_cons]
    constructor
    · rintro ((h | h) | h)
      · exact .inl h
      · exact .inr (.inl h)
      · exact .inr (.inr h)
    · rintro (h | h | h)
      · exact .inl (.inl h)
      · exact .inl (.inr h)
      · exact .inr h
theorem mem_firsts (l : List Nat) (k : Nat) : k ∈ firsts l ↔ k ∈ l := by
  unfold firsts; rw [mem_fold]; simp
theorem firsts_take {l : List Nat} {i c : Nat} (h : l[i]? = some c) : firsts (l.take (i + 1)) = stepD (firsts (l.take i)) c := by
  rw [List.take_add_one, h]; exact firsts_snoc _ _
theorem firsts_count : ∀ (l : List Nat) (i : Nat), i ≤ l.length → (firsts (l.take i)).length ≤ i ∧ ((firsts (l.take i)).length = i ↔ (l.take i).Nodup)
  | l, 0, _ => by simp [firsts]
  | l, i + 1, hi => by
    have hc : l[i]? = some l[i] := List.getElem?_eq_getElem hi
    obtain ⟨a, b⟩ := firsts_count l i (by omega)
    rw [firsts_take hc]
    have et : l.take (i + 1) = l.take i ++ [l[i]] := by rw [List.take_add_one, hc]; rfl
    unfold stepD
    by_cases hm : l[i] ∈ firsts (l.take i)
    · rw [if_pos hm]
      refine ⟨by omega, fun q => by omega, fun nd => ?_⟩
      rw [et, List.nodup_append] at nd
      exact absurd rfl (nd.2.2 _ ((mem_firsts _ _).mp hm) _ (List.mem_singleton.mpr rfl))
    · rw [if_neg hm, List.length_append, List.length_singleton]
      refine ⟨by omega, ?_⟩
      rw [et, List.nodup_append]
      constructor
      · intro q
        refine ⟨b.mp (by omega), by simp, fun x hx y hy e => hm ?_⟩
        rw [List.mem_singleton] at hy
        rw [← hy, ← e]
        exact (mem_firsts _ _).mpr hx
      · intro q
        have := b.mpr q.1
        omega
/-- len(set(text)) -/
def kinds (z : Str) : Nat := (firsts z.cps.toList).length
theorem kinds_eq (z : Str) : kinds z = z.length ↔ z.cps.toList.Nodup := by
  have h := firsts_count z.cps.toList z.cps.toList.length (Nat.le_refl _)
  rw [List.take_length] at h
  have e : z.length = z.cps.toList.length := by simp [Str.length]
  unfold kinds
  rw [e]
  exact h.2
theorem kinds_le (z : Str) : kinds z ≤ z.length := by
  have h := firsts_count z.cps.toList z.cps.toList.length (Nat.le_refl _)
  rw [List.take_length] at h
  have e : z.length = z.cps.toList.length := by simp [Str.length]
  unfold kinds
  rw [e]
  exact h.1

/-! ### set(text) on the machine -/
abbrev sg (c : Nat) : Str := ⟨#[c]⟩
theorem sg_inj {a b : Nat} (h : sg a = sg b) : a = b := by
  have e : (#[a] : Array Nat) = #[b] := congrArg Str.cps h
  simpa using e
def hasD (l : List Nat) (k : Str) : Bool := l.any fun c => decide (k = sg c)
theorem hasD_sg (l : List Nat) (c : Nat) : hasD l (sg c) = decide (c ∈ l) := by
  unfold hasD
  by_cases h : c ∈ l
  · rw [decide_eq_true h]
    exact List.any_eq_true.mpr ⟨c, h, decide_eq_true rfl⟩
  · rw [decide_eq_false h]
    refine Bool.eq_false_iff.mpr fun q => ?_
    obtain ⟨d, hd, e⟩ := List.any_eq_true.mp q
    rw [sg_inj (of_decide_eq_true e)] at h
    exact h hd
theorem hasD_step (l : List Nat) (c : Nat) (k : Str) : hasD (stepD l c) k = (hasD l k || decide (k = sg c)) := by
  unfold stepD
  by_cases h : c ∈ l
  · rw [if_pos h]
    by_cases e : k = sg c
    · rw [e, hasD_sg, decide_eq_true h]
      rfl
    · rw [decide_eq_false e, Bool.or_false]
  · rw [if_neg h]
    unfold hasD
    rw [List.any_append]
    simp
theorem len_step (l : List Nat) (c : Nat) : (stepD l c).length = if hasD l (sg c) = true then l.length else l.length + 1 := by
  rw [hasD_sg]
  unfold stepD
  by_cases h : c ∈ l
  · rw [if_pos h, if_pos (decide_eq_true h)]
  · rw [if_neg h, if_neg (by rw [decide_eq_false h]; exact Bool.false_ne_true), List.length_append, List.length_singleton]
section
variable {prog : Program} {w : World} {A : Around} {E : Value → Shared → Prop}
/-- the set at S holds the signs l -/
def SetS (prog : Program) (w : World) (h : Heap) (S : Addr) (l : List Nat) : Prop := h.SetOf (strKind prog w) S (hasD l) l.length
theorem SetS.keep {h h' : Heap} {S : Addr} {l : List Nat} (p : SetS prog w h S l) (k : ∀ o, h.get? S = some o → h'.get? S = some o) : SetS prog w h' S l := by
  obtain ⟨o, es, ep, t, ho, r⟩ := p
  exact ⟨o, es, ep, t, k o ho, r⟩
theorem loopS {R : Result → Shared → Prop} {I : Addr} {fp wr : List Addr} {G : Array GenState → Array GenState → Prop} {x : Str} {St : Nat → Shared → Prop}
    (W : WalksS prog w A.in1 I fp wr G x.cps.size (SignAt x) St) (S : Addr) (away : S ∉ fp) (small : x.cps.size + 1 < scanBound) : ∀ (k i : Nat) (s : Shared), x.cps.size - i = k → i ≤ x.cps.size → St i s →
      SetS prog w s.heap S (firsts (x.cps.toList.take i)) → (∀ s', Moved (S :: wr) G s s' → SetS prog w s'.heap S (firsts x.cps.toList) → R (.ok (.ret .none)) s') →
      codeAny (model prog w) A (.builtin "set.update.loop" ⟨[.ref S, .ref I], []⟩) R s := by
  have awr : S ∉ wr := fun q => away (W.sub _ q)
  have more : ∀ b ∈ wr, b ∈ S :: wr := fun b hb => .tail _ hb
  intro k
  induction k with
  | zero =>
    intro i s hk hi st hS done
    obtain rfl : i = x.cps.size := by omega
    refine codeAny_builtin F.entry_set_update_loop ?_
    rw [Around.under_plainId F.plain_set_update_loop _]
    show wpAny _ A.in1 (pyNext (.ref I) >>= _) _ _ s
    refine wpAny_bind (W.done s _ _ st fun s' mv => ?_)
    show wpAny _ A.in1 (ret Value.none) _ _ s'
    have e : x.cps.toList.take x.cps.size = x.cps.toList := List.take_of_length_le (by simp)
    rw [e] at hS
    exact wpAny_pure (done s' (mv.mono more) (hS.keep fun o q => mv.heap S o awr q))
  | succ k ih =>
    intro i s hk hi st hS done
    have lt : i < x.cps.size := by omega
    refine codeAny_builtin F.entry_set_update_loop ?_
    rw [Around.under_plainId F.plain_set_update_loop _]
    show wpAny _ A.in1 (pyNext (.ref I) >>= _) _ _ s
    refine wpAny_bind (W.item i s _ _ lt st fun v s' hv st' mv => ?_)
    obtain ⟨c, u, hc, rfl⟩ := hv
    have hS' := hS.keep (h' := s'.heap) fun o q => mv.heap S o awr q
    show wpAny _ A.in1 (holding [Value.str (sg c) u] (setAdd S (.str (sg c) u)) >>= _) _ _ s'
    refine wpAny_bind (wpAny_holding ?_)
    unfold setAdd
    refine wpAny_holding ?_
    refine wpAny_bind ((strKind prog w).pyHash (k := sg c) (strKind_is _ _ _ _) ?_)
    have cnt := (firsts_count x.cps.toList i (by simp; omega)).1
    refine wpAny_setAddHashed_of (knd := strKind prog w) (s := { s' with toks := s'.toks + 1 }) (strKind_is _ _ _ _) rfl hS' (by omega) fun h' sb hS2 => ?_
    have hc2 : x.cps.toList[i]? = some c := by rw [Array.getElem?_toList]; exact hc
    have hS3 : SetS prog w h' S (firsts (x.cps.toList.take (i + 1))) := by
      rw [firsts_take hc2]
      exact SetOf_congr hS2 (fun k => (hasD_step _ c k).symm) (len_step _ c).symm
    refine wpAny_pure ⟨plainId_quiet F.plain_set_update_loop _, ih (i + 1) _ (by omega) lt (W.frame _ s' _ _ st' (Nat.le_succ _) fun b hb o e => ?_) hS3 fun s'' mv' hS'' => done s'' (Moved.trans W.gtrans ((mv.mono more).then_heap (Nat.le_succ _) fun b o hb e => ?_) mv') hS''⟩
    · rw [sb.2 b fun q : b = S => away (by rw [← q]; exact hb)]; exact e
    · rw [sb.2 b fun q : b = S => hb (by rw [q]; exact .head _)]; exact e
variable {s : Shared}
theorem sub_str_set : isSubtype (.type "str") (.type "set") = pure false := by rw [isSubtype_type]; kernel_rfl
theorem sub_str_frozenset : isSubtype (.type "str") (.type "frozenset") = pure false := by rw [isSubtype_type]; kernel_rfl
theorem call_set_text {x : Str} {tx : Tok} {Q : Value → Shared → Prop} (hh : A.handled = none) (small : x.cps.size + 1 < scanBound)
    (h : ∀ (h' : Heap) (tk : Nat), SetS prog w h' s.heap.objs.size (firsts x.cps.toList) → (∀ b o, b < s.heap.objs.size → s.heap.get? b = some o → h'.get? b = some o) → Q (.ref s.heap.objs.size) { s with heap := h', toks := tk }) :
    wpAny (model prog w) A (call (.type "set") [.str x tx]) Q E s := by
  obtain ⟨c, tl, hmro⟩ := F.called_set.mro
  have hmade := F.called_set.made
  have hsub := F.called_set.sub
  refine wpAny_call (codeAny_of_tree ?_)
  show wpAny _ _ (callAny (.type "set") _) _ _ _
  refine wpAny_pure ⟨Code.quiet_builtin _ (by decide +kernel), codeAny_builtin F.entry_type_call ?_⟩
  rw [Around.under_plain (weight_type_call_type "set" [.str x tx] []) rfl]
  have h1 := F.called_set.notType
  have h2 := F.called_set.canCreate
  have hct := PySem.F.typeCall_set_1 (.str x tx)
  repeat (any_goals (first | assumption | wp_step))
  refine codeAny_mono (code_set_new_1 (.str x tx) (E := E) (Q₁ := fun v s₁ => ∃ led : Bool, v = .ref s.heap.objs.size ∧ s₁ = { s with heap := s.heap.push { cls := .type "set", dict := none, data := .set #[] 0 (.fresh 0 0 led) } }) fun led => ⟨led, rfl, rfl⟩) fun r s₁ hr => ?_
  cases r with
  | error e => exact hr
  | ok fl =>
    cases fl with
    | ret v =>
      obtain ⟨led, rfl, rfl⟩ := hr
      have hS : (s.heap.push { cls := .type "set", dict := none, data := .set #[] 0 (.fresh 0 0 led) }).get? s.heap.objs.size = some { cls := .type "set", dict := none, data := .set #[] 0 (.fresh 0 0 led) } := Heap.get?_push_size _ rfl
      have hT : Shared.TypeIs { s with heap := s.heap.push { cls := .type "set", dict := none, data := .set #[] 0 (.fresh 0 0 led) } } (.ref s.heap.objs.size) "set" := ⟨_, hS, rfl⟩
      have hli := F.called_set.init.lookup
      have hbi := F.called_set.init.bind (.ref s.heap.objs.size)
      repeat (any_goals (first | assumption | wp_step))
      refine codeAny_mono (codeAny_call_builtin (R := wants (fun r s₂ => r = .none ∧ ∃ h' tk, s₂ = { s with heap := h', toks := tk } ∧ SetS prog w h' s.heap.objs.size (firsts x.cps.toList) ∧
          (∀ b o, b < s.heap.objs.size → s.heap.get? b = some o → h'.get? b = some o)) E) F.called_set.init.plain F.entry_set_init (check_set_init_1 hT ?_)) fun r₂ s₂ hr₂ => ?_
      · have hsls := sub_str_set
        have hslf := sub_str_frozenset
        have hne : (Value.type "str" == Value.type "dict") = false := by decide
        unfold Builtin.«set.__init__» noKeywords Builtin.Frozenset.updateFrom
        generalize hPI : pyIter = PI
        wp_walk
        subst hPI
        refine wpAny_pyIter_str fun o St W st => ?_
        refine wpAny_bind (wpAny_runValue ?_)
        have hh3 : A.in1.in1.in1.handled = none := by simp [hh]
        have away : s.heap.objs.size ∉ [(s.heap.push { cls := .type "set", dict := none, data := .set #[] 0 (.fresh 0 0 led) }).objs.size] := by
          rw [Heap.size_push, List.mem_singleton]
          exact Nat.ne_of_lt (Nat.lt_succ_self _)
        refine loopS ((W _ hh3).toS) s.heap.objs.size away small (x.cps.size - 0) 0 _ (by omega) (Nat.zero_le _) st ?hS0 ?hR
        case hS0 =>
          exact SetOf_congr ((PyProof.Rows.setObjOf_fresh (knd := strKind prog w) led).setOf (Heap.get?_push_of_some _ hS) (by unfold scanBound; omega)) (fun _ => rfl) rfl
        case hR =>
          intro s' mv hS'
          obtain ⟨h', g', d', tk', os'⟩ := s'
          have eg : g' = s.gens := mv.gens
          have ed : d' = s.drawn := mv.drawn
          have eo : os' = s.os := mv.os
          subst eg; subst ed; subst eo
          show wpAny _ _ _ _ _ _
          refine wpAny_pure ?_
          show wpAny _ _ (ret Value.none) _ _ _
          refine wpAny_pure ⟨rfl, h', tk', rfl, hS', fun b o hb e => ?_⟩
          have n1 : b ≠ s.heap.objs.size := Nat.ne_of_lt hb
          have n2 : b ≠ (s.heap.push { cls := .type "set", dict := none, data := .set #[] 0 (.fresh 0 0 led) }).objs.size := by
            rw [Heap.size_push]; exact Nat.ne_of_lt (Nat.lt_succ_of_lt hb)
          exact mv.heap b o (by simp only [List.mem_cons, List.mem_singleton, List.not_mem_nil, or_false, not_or]; exact ⟨n1, n2⟩) (Heap.get?_push_of_some _ (Heap.get?_push_of_some _ e))
      · cases r₂ with
        | error e => exact hr₂
        | ok fl₂ =>
          cases fl₂ with
          | ret r =>
            obtain ⟨rfl, h', tk, rfl, hS', hk'⟩ := hr₂
            repeat (any_goals (first | assumption | wp_step))
            exact h _ _ hS' hk'
          | _ => exact hr₂.elim
    | _ => exact hr.elim
end
/-! ### the rules -/
/-- len(set(text)) -/
def tKinds (ta : TE) : TE := fun σ H Q => ta σ H fun v H1 => ∃ z : Str, v = .str z ∧ z.length ≤ 4000 ∧ Q (.int (kinds z : Nat)) H1
theorem pe_kinds {X : Cx} {a : Expr} {ta : TE} {p p2 q pos : Pos} (hg : Gl X "len") (hm : X.mg "len" = none) (hg2 : Gl X "set") (hm2 : X.mg "set" = none) (ha : PE X a ta) (hc : X.calm = true := by rfl)
    (na : starEach [a] X.env = (false, eval a X.env) :: starEach [] X.env := by rfl) : PE X (.Call (.Name "len" p) [.Call (.Name "set" p2) [a] [] q] [] pos) (tKinds ta) := by
  constructor
  intro pins s σ H Q I h
  refine Call_ (ld_blt I hg hm boot_len (PyProof.Rows.callWith_builtin1 (PyProof.Rows.args_cons (Call_ (ld_blt I hg2 hm2 boot_set ?_)) rfl) rfl rfl))
  refine PyProof.Rows.callWith_type1 (PyProof.Rows.args_cons (thn (ha.run pins s σ H _ I h) fun v s1 ⟨y, H1, I1, r1, q1⟩ => PyProof.Rows.args_nil ?_) na) na rfl
  obtain ⟨z, rfl, hl, q1⟩ := q1
  obtain ⟨t, rfl⟩ := r1
  have hs : z.cps.size = z.length := rfl
  refine call_set_text (I1.ok.hd hc) (by rw [hs]; unfold scanBound; omega) fun h' tk hS hk => PyProof.Rows.args_nil ?_
  have kl := kinds_le z
  obtain ⟨o, es, ep, t2, ho, hex, hd, _, _, _, hf, hn⟩ := hS
  have hn2 : es.size = kinds z := hn
  have I2 : Inv X pins σ H1 { s1 with heap := h', toks := tk } := I1.kept fun b o e => hk b o (Heap.lt_size e) e
  exact call_len_set ho hex hd hf (by rw [hn2]; omega) ⟨.int (kinds z : Nat), H1, I2.tok _, ⟨_, by rw [hn2]⟩, q1⟩
/-- text * n -/
def rMulS : R2 := fun x y H Q => ∃ (z : Str) (n : Int), x = .str z ∧ y = .int n ∧ MulOk z n ∧ Q (.str (Txt.mul z n)) H
theorem op_mulS {X : Cx} : OpR X (binaryOp .Mult) rMulS := by
  intro pins s σ H x y v u Q I rx ry h
  obtain ⟨z, n, rfl, rfl, hz, q⟩ := h
  obtain ⟨t, rfl⟩ := rx
  obtain ⟨t', rfl⟩ := ry
  exact SB.mul hz fun t2 tk => ⟨.str (Txt.mul z n), H, I.tok _, ⟨_, rfl⟩, q⟩
end SxA

set_option Elab.async false
set_option linter.all false
set_option maxRecDepth 100000
set_option maxHeartbeats 4000000
namespace SxA
open PySem PySem.Spec PyProof.Rows L2
section
variable {prog : Program} {w : World} {A : Around} {E : Value → Shared → Prop} {s : Shared}
/-- list(it), it what reversed(a list) gave -/
theorem call_list_rev {it l : Addr} {items : Array Value} {Q : Value → Shared → Prop} (hh : A.handled = none) (hit : s.heap.IsRevIter it l ((items.size : Int) - 1)) (hl : s.heap.IsList l items) (hne : l ≠ it) (hn : items.size ≤ sizeLine)
    (hQ : ∀ (h' : Heap) (tk : Nat) (acc : Array Value) (c : Nat), (∀ b o, b ≠ it → s.heap.get? b = some o → h'.get? b = some o) → h'.get? s.heap.objs.size = some { cls := .type "list", dict := none, data := .seq acc c, slots := #[] } →
      ItemsOf (fun i v => items[items.size - 1 - i]? = some v) acc items.size → Q (.ref s.heap.objs.size) { s with heap := h', toks := tk }) :
    wpAny (model prog w) A (call (.type "list") [.ref it]) Q E s := by
  obtain ⟨oi, hoi, _⟩ := id hit
  obtain ⟨ol, hol, _⟩ := id hl
  have ni : s.heap.objs.size ≠ it := Nat.ne_of_gt (Heap.lt_size hoi)
  have nl : s.heap.objs.size ≠ l := Nat.ne_of_gt (Heap.lt_size hol)
  have away : s.heap.objs.size ∉ [it, l] := by
    simp only [List.mem_cons, List.not_mem_nil, or_false, not_or]
    exact ⟨ni, nl⟩
  refine callType_codes (Q₁ := fun v s₁ => v = .ref s.heap.objs.size ∧ s₁ = { s with heap := s.heap.push { cls := .type "list", data := .seq #[] } }) F.called_list (F.typeCall_list_1 _) F.entry_list_init (code_list_new _ ⟨rfl, rfl⟩) fun v s₁ h₁ => ?_
  obtain ⟨rfl, rfl⟩ := h₁
  have hS : (s.heap.push { cls := .type "list", data := .seq #[] }).get? s.heap.objs.size = some { cls := .type "list", data := .seq #[] } := Heap.get?_push_size _ rfl
  refine ⟨⟨_, hS, rfl⟩, F.args_list_init_2 _ _, ?_⟩
  show wpAny _ _ (do let old ← Builtin.List.listItems (.ref s.heap.objs.size); Builtin.List.listUpdate (.ref s.heap.objs.size) (fun _ => #[]); letGo old.toList.reverse; Builtin.List.listExtendWith (.ref s.heap.objs.size) (.ref it) .none) _ _ _
  refine wpAny_bind ?_
  unfold Builtin.List.listItems
  refine wpAny_bind (wpAny_seqItems hS rfl (wpAny_pure ?_))
  show wpAny _ _ (updateSeq s.heap.objs.size (fun _ => #[]) >>= fun _ => letGo (#[] : Array Value).toList.reverse >>= fun _ => Builtin.List.listExtendWith (.ref s.heap.objs.size) (.ref it) .none) _ _ _
  refine wpAny_bind (wpAny_updateSeq hS rfl ?_)
  have hS₂ := Heap.get?_update_self (Obj.mapSeq (fun _ => (#[] : Array Value))) hS rfl
  have oth : ∀ b o, b ≠ s.heap.objs.size → s.heap.get? b = some o → ((s.heap.push { cls := .type "list", data := .seq #[] }).update s.heap.objs.size (Obj.mapSeq (fun _ => (#[] : Array Value)))).get? b = some o :=
    fun b o hb e => (Heap.get?_update_other _ _ (Ne.symm hb)).trans (Heap.get?_push_of_some _ e)
  refine wpAny_bind (wpAny_letGo ?_)
  generalize hgh : (s.heap.push { cls := .type "list", data := .seq #[] }).update s.heap.objs.size (Obj.mapSeq (fun _ => (#[] : Array Value))) = g at hS₂ oth
  have hit1 : g.IsRevIter it l ((items.size : Int) - 1) := hit.at fun o e => oth _ _ ni.symm e
  have hl1 : g.IsList l items := hl.at fun o e => oth _ _ nl.symm e
  have hT : ({ s with heap := g } : Shared).TypeIs (.ref it) "list_reverseiterator" := Heap.IsRevIter.typeIs (s := { s with heap := g }) hit1
  have h1 : Builtin.List.listSameRef (.ref s.heap.objs.size) (.ref it) = false := by simp [Builtin.List.listSameRef, ni]
  have hh2 : A.in1.in1.handled = none := by simp [hh]
  have W := (Walks.listRev (prog := prog) (w := w) (A := A.in1.in1) hh2 it l hne items).toS
  unfold Builtin.List.listExtendWith
  refine wpAny_bind (wpAny_typeOf hT ?_)
  rw [if_neg (by rw [h1]; decide)]
  refine wpAny_bind (wpAny_pyIter_revIter (s := { s with heap := g }) hit1 (wpAny_bind (wpAny_holding ?_)))
  unfold Builtin.List.listLengthHint
  refine wpAny_bind (wpAny_specialOf hT RT.nolen_lri ?_)
  show wpAny _ _ (specialOf (Value.ref it) (Str.ofString "__length_hint__") >>= _) _ _ _
  refine wpAny_bind (wpAny_specialOf hT RT.hint_lri ?_)
  generalize hid : ("list_reverseiterator.__length_hint__" : String) = nm
  wp_delta
  rw [show splitId nm = some ("list_reverseiterator", "__length_hint__") from by subst hid; decide +kernel]
  subst hid
  refine wpAny_bind (wpAny_isInstance (b := true) hT (by rw [isSubtype_type]; kernel_rfl) (wpAny_pure ?_))
  rw [if_neg (by decide)]
  have e0 : ((items.size : Nat) : Int) - 1 - ((0 : Nat) : Int) = (items.size : Int) - 1 := by omega
  refine wpAny_pure ⟨plainId_quiet F.plain_extend_loop _, codeAny_extend_loopS W hn _ away _ items.size 0 _ _ _ rfl (Nat.zero_le _) ⟨Nat.zero_le _, by rw [e0]; exact hit1, hl1⟩ hS₂ (ItemsOf.nil _) fun s' acc' c' mv hS' hacc => ?_⟩
  rw [Moved.eq_with mv]
  refine ⟨rfl, hQ s'.heap s'.toks acc' c' (fun b o hb e => mv.heap b o (fun hmem => ?_) ?_) hS' hacc⟩
  · rcases List.mem_cons.mp hmem with e' | hmem
    · exact absurd (Heap.lt_size e) (by rw [e']; exact Nat.lt_irrefl _)
    · exact hb (List.mem_singleton.mp hmem)
  · exact oth b o (Nat.ne_of_lt (Heap.lt_size e)) e
end
/-- list(reversed(x)), x a list -/
def tListRev (K : PySem.W.Frag) (te : TE) : TE := fun σ H Q => te σ H fun v H1 => ∃ (a : Addr) (xs : List V), v = .ref a ∧ SqL K H1 a xs ∧ ∀ q, H1 q = none → Q (.ref q) (upd H1 q (.lst xs.reverse))
theorem pe_listRev {X : Cx} {e : Expr} {te : TE} {p p2 pos pos2 : Pos} (hg : Gl X "list") (hm : X.mg "list" = none) (hg2 : Gl X "reversed") (hm2 : X.mg "reversed" = none) (he : PE X e te) (hc : X.calm = true := by rfl)
    (hs : starEach [e] X.env = (false, eval e X.env) :: starEach [] X.env := by rfl)
    (hs2 : starEach [.Call (.Name "reversed" p2) [e] [] pos2] X.env = (false, eval (.Call (.Name "reversed" p2) [e] [] pos2) X.env) :: starEach [] X.env := by rfl) :
    PE X (.Call (.Name "list" p) [.Call (.Name "reversed" p2) [e] [] pos2] [] pos) (tListRev X.K te) := by
  constructor
  intro pins s σ H Q I h
  refine Call_ (ld_blt I hg hm boot_list (PyProof.Rows.callWith_type1 (args_cons (Call_ (ld_blt I hg2 hm2 PyProof.Rows.boot_reversed (PyProof.Rows.callWith_type1 (args_cons (thn (he.run pins s σ H _ I h) fun u s1 ⟨v, H1, I1, r1, q1⟩ => args_nil ?_) hs) hs rfl))) hs2) hs2 rfl))
  obtain ⟨a, xs, rfl, hq, q⟩ := q1
  obtain rfl : u = Value.ref a := r1
  obtain ⟨its, rv, pl, hz⟩ := I1.list hq
  refine call_reversed_list pl.isList (args_nil ?_)
  have hl := pl.isList
  obtain ⟨ol, hol, _⟩ := id hl
  have hne : a ≠ s1.heap.objs.size := Nat.ne_of_lt (Heap.lt_size hol)
  have hn : its.toArray.size ≤ sizeLine := by rw [List.size_toArray, ← rv.length]; exact hz
  have sz : (s1.heap.push (revObj a ((its.toArray.size : Int) - 1))).objs.size = s1.heap.objs.size + 1 := Heap.size_push _ _
  refine call_list_rev (s := { s1 with heap := s1.heap.push (revObj a ((its.toArray.size : Int) - 1)) }) (I1.ok.hd hc) ⟨_, Heap.get?_push_size _ rfl, rfl, rfl⟩ (hl.push _) hne hn fun h' tk acc c hk hS hi => ?_
  have e1 : acc.toList.toArray = acc := by simp
  refine ⟨.ref (s1.heap.push (revObj a ((its.toArray.size : Int) - 1))).objs.size, upd H1 _ (.lst xs.reverse), I1.laid (t' := tk) (fun b o e => hk b o (Nat.ne_of_lt (Heap.lt_size e)) (Heap.get?_push_of_some _ e)) (by rw [sz]; exact Nat.le_succ _)
    (show ObjOk X.prog X.w _ h' _ (.lst xs.reverse) from ⟨by rw [List.length_reverse]; exact hz, acc.toList, c, RT.vals_rev rv hi, by rw [e1]; exact hS⟩), rfl, q _ (I1.hok.fresh (by rw [sz]; exact Nat.le_succ _))⟩
end SxA

set_option Elab.async false
set_option linter.all false
set_option maxRecDepth 100000
set_option maxHeartbeats 1000000
namespace Sx
open PySem PySem.Spec PyProof.Rows L2 SxA
/-! ### a def that keeps a promise, called by its name -/
def Ok (P : Program) (w : World) (K : PySem.W.Frag) (mg : Str → Option Value) (base : Heap) (k : Nat) (x : Str) (ps : List Str) (sp : Sp) : Prop :=
  ∃ fd, FnOk P w K mg base CX0 k (He.ga K x) fd ps sp ∧ Binds K fd ps [] ∧ PySem.W.keepIn K (.ref (He.ga K x)) = true ∧ mg x = some (.ref (He.ga K x))
section
variable {P : Program} {w : World} {K : PySem.W.Frag} {mg : Str → Option Value} {base : Heap}
theorem mkOk {x : Str} {st : Stmt} {N ps : List Str} {k : Nat} {sp : Sp} (d : Fd K x st) (hx : mg x = some (.ref (He.ga K x))) (S : FnScope N ps (defScope st)) (len : ∀ vs H Q E, sp vs H Q E → vs.length = ps.length)
    (bnd : ∀ (kV doc pm : Value) (an : Option Addr) (cdv ct : Value) (us : List Value), us.length = ps.length → bindArgs (PySem.W.fnOf x x (defArgs st) (defBody st) (defScope st) .none kV doc pm an cdv ct) ⟨us, []⟩ = pure (ps.zip us))
    (body : ∀ (cdv : Value) (A : Around) (outer : List Env) (s : Shared) (H0 : Hp) (vs : List V) (Q : VK) (E : XK), Room k (A.deeper (envOfC x (defScope st) s.heap.objs.size (He.ga K x) cdv)) → sp vs H0 Q E →
      ∃ t, PSs (cxOf CX0 P w K mg base N x (defScope st) (He.ga K x) cdv A outer s H0 E).nox (defBody st) t ∧ t { nx := fun _ H' => Q .non H', rt := Q } (start N vs) H0) : Ok P w K mg base (k + 1) x ps sp := by
  obtain ⟨fd, F⟩ := d
  refine ⟨fd, F.ok S len fun cdv A outer s H vs Q E hr h => ?_, F.bindsN bnd, F.kp, hx⟩
  obtain ⟨t, h1, h2⟩ := body cdv A outer s H vs Q E hr h
  exact ⟨t, h1.nox, h2⟩
theorem pe_ok {X : Cx} {k : Nat} {x : Str} {ps : List Str} {sp : Sp} {p pos : Pos} {e : Expr} {es : List Expr} {t : TA} (o : Ok X.prog X.w X.K X.mg X.base k x ps sp) (hr : Room k X.A) (hg : Gl X x) (ha : PA X (e :: es) t)
    (hdb : (x == ("__debug__" : Str)) = false := by decide) (hs : starEach (e :: es) X.env = (false, eval e X.env) :: starEach es X.env := by rfl) (hpl : ((backTo pos (starEach es X.env)).any (·.1)) = false := by rfl) :
    PE X (.Call (.Name x p) (e :: es) [] pos) (tCall sp [] E0 t) := by
  obtain ⟨fd, F, b, kp, hm⟩ := o
  exact pe_call F hr hg hm kp b .nil pass0 ha hdb hs hpl
/-! ### frames: all that was tracked is as it was, but at a -/
def But (a : Addr) (H H' : Hp) : Prop := ∀ b o, H b = some o → b ≠ a → H' b = some o
theorem But.of {a : Addr} {H H' : Hp} (s : Same H H') : But a H H' := fun b o e _ => s b o e
theorem Same.new {H : Hp} {p : Addr} {o : HO} (h : H p = none) : Same H (upd H p o) := fun b o e => by
  rw [upd_ne (ne_of_none e h)]
  exact e
theorem Same.put {H0 H : Hp} {p : Addr} {o : HO} (s : Same H0 H) (h : H0 p = none) : Same H0 (upd H p o) := fun b o e => by
  rw [upd_ne (ne_of_none e h)]
  exact s b o e
/-! ### comprehensions whose elements are known -/
/-- .. over the signs of a text -/
theorem lc_text {z : Str} {ys : List V} {te : TE} {i0 : Nat} {vs : List Nat} {σ : L2.St} {H1 : Hp} {D : Addr} {Qd : Hp → Prop} (hD : H1 D = none) (hl : ys.length = z.cps.toList.length) (hz : ys.length ≤ sizeLine)
    (hw : ∀ c : Nat, wipe ((wipe σ vs).set i0 (some (.str (sg c)))) vs = wipe σ vs)
    (he : ∀ (i c : Nat) (y : V) (H : Hp) (Q : VK), z.cps.toList[i]? = some c → ys[i]? = some y → Same H1 H → (∀ H', Same H H' → Q y H') → te ((wipe σ vs).set i0 (some (.str (sg c)))) H Q)
    (hd : ∀ H, Same H1 H → H D = some (.lst ys) → Qd H) :
    ∃ W : Nat → Nat → Hp → Prop, (∃ m, W 0 m (upd H1 D (.lst []))) ∧ ∀ i m H, W i m H → ((Its z).stop i H ∧ Qd H) ∨ ((Its z).go i H ∧ ∃ Nx : Hp → Prop, (∀ H', Nx H' → ∃ m', m' < m ∧ W (i + 1) m' H') ∧
      ∀ x H', (Its z).yld i H x H' → (gName i0) x (wipe σ vs) H' fun σ2 H2 => wipe σ2 vs = wipe σ vs ∧ tYes σ2 H2 fun b H3 => if b = true then te σ2 H3 fun y H4 => ∃ acc, H4 D = some (.lst acc) ∧ acc.length < sizeLine ∧ Nx (upd H4 D (.lst (acc ++ [y]))) else Nx H3) := by
  have hsz : z.cps.size = ys.length := by rw [hl]; simp
  refine ⟨fun i m H => m = ys.length - i ∧ i ≤ ys.length ∧ Same H1 H ∧ H D = some (.lst (ys.take i)), ⟨ys.length, rfl, Nat.zero_le _, Same.new hD, upd_same⟩, ?_⟩
  rintro i m H ⟨rfl, hi, sm, hH⟩
  by_cases lt : i < ys.length
  · refine .inr ⟨by show i < z.cps.size; omega, fun H' => Same H1 H' ∧ H' D = some (.lst (ys.take (i + 1))), fun H' q => ⟨ys.length - (i + 1), by omega, rfl, lt, q.1, q.2⟩, ?_⟩
    rintro x H' ⟨rfl, c, hc, rfl⟩
    have hc2 : z.cps.toList[i]? = some c := by rw [Array.getElem?_toList]; exact hc
    have hy : ys[i]? = some ys[i] := List.getElem?_eq_getElem lt
    refine ⟨hw c, ?_⟩
    show te _ _ _
    refine he i c _ _ _ hc2 hy sm fun H4 s4 => ⟨ys.take i, s4 _ _ hH, ?_, ?_, ?_⟩
    · rw [List.length_take]; omega
    · exact Same.put (sm.trans s4) hD
    · rw [upd_same, List.take_add_one, hy]; rfl
  · have e : i = ys.length := by omega
    subst e
    refine .inl ⟨by show z.cps.size ≤ ys.length; omega, hd H sm ?_⟩
    rw [hH, List.take_length]
/-- .. over a list -/
theorem lc_known {a : Addr} {xs ys : List V} {te : TE} {i0 : Nat} {vs : List Nat} {σ : L2.St} {H1 : Hp} {D : Addr} {Qd : Hp → Prop} (hD : H1 D = none) (hq : SqL K H1 a xs) (hl : ys.length = xs.length) (hz : ys.length ≤ sizeLine)
    (hw : ∀ v : V, wipe ((wipe σ vs).set i0 (some v)) vs = wipe σ vs)
    (he : ∀ (i : Nat) (x y : V) (H : Hp) (Q : VK), xs[i]? = some x → ys[i]? = some y → Same H1 H → (∀ H', Same H H' → Q y H') → te ((wipe σ vs).set i0 (some x)) H Q)
    (hd : ∀ H, Same H1 H → H D = some (.lst ys) → Qd H) :
    ∃ W : Nat → Nat → Hp → Prop, (∃ m, W 0 m (upd H1 D (.lst []))) ∧ ∀ i m H, W i m H → ((Itl K a).stop i H ∧ Qd H) ∨ ((Itl K a).go i H ∧ ∃ Nx : Hp → Prop, (∀ H', Nx H' → ∃ m', m' < m ∧ W (i + 1) m' H') ∧
      ∀ x H', (Itl K a).yld i H x H' → (gName i0) x (wipe σ vs) H' fun σ2 H2 => wipe σ2 vs = wipe σ vs ∧ tYes σ2 H2 fun b H3 => if b = true then te σ2 H3 fun y H4 => ∃ acc, H4 D = some (.lst acc) ∧ acc.length < sizeLine ∧ Nx (upd H4 D (.lst (acc ++ [y]))) else Nx H3) := by
  refine lc_list (K := K) (a := a) (xs := xs) (g := gName i0) (tt := tYes) (te := te) (fun i H => Same H1 H ∧ H D = some (.lst (ys.take i))) ⟨Same.new hD, upd_same⟩ (fun i H _ p => p.1.seq hq) ?_ ?_
  · rintro i x H hx ⟨sm, hH⟩
    have lt : i < ys.length := by rw [hl]; exact (List.getElem?_eq_some_iff.mp hx).1
    have hy : ys[i]? = some ys[i] := List.getElem?_eq_getElem lt
    refine ⟨hw x, ?_⟩
    show te _ _ _
    refine he i x _ _ _ hx hy sm fun H4 s4 => ⟨ys.take i, s4 _ _ hH, ?_, Same.put (sm.trans s4) hD, ?_⟩
    · rw [List.length_take]; omega
    · rw [upd_same, List.take_add_one, hy]; rfl
  · rintro H ⟨sm, hH⟩
    rw [← hl, List.take_length] at hH
    exact hd H sm hH
/-! ### mirrors: texts, cells, neighbours -/
abbrev sl (z : Str) : List Nat := z.cps.toList
theorem sl_len (z : Str) : z.length = (sl z).length := by simp [Str.length]
def signB (c : Nat) : Bool := decide (32 ≤ c) && decide (c ≤ 126)
def goodB (c : Nat) : Bool := signB c && !(decide (c = 94) || decide (c = 36))
def diffB (z : Str) : Bool := decide (sl z).Nodup
def signsB (z : Str) : Bool := (decide (1 ≤ (z.length : Int)) && decide ((z.length : Int) ≤ 60)) && (diffB z && (sl z).all goodB)
def textB (t z : Str) : Bool := (decide (1 ≤ (t.length : Int)) && decide ((t.length : Int) ≤ 4)) && (sl t).all fun c => decide (c ∈ sl z)
def cellB (c : Int) : Bool := decide (0 ≤ c) && decide (c ≤ 63)
def cellsB (cs : List Int) : Bool := (decide (1 ≤ (cs.length : Int)) && decide ((cs.length : Int) ≤ 4)) && cs.all cellB
def nearB (o : Option Str) (z : Str) (e : Nat) : Bool := match o with
  | none => true
  | some t => decide (sl t ≠ []) && (diffB t && (sl t).all fun c => decide (c ∈ sl z) || decide (c = e))
def modeB (m n : Int) : Bool := decide (0 ≤ m) && decide (m < n)
def manyB (n : Int) : Bool := decide (1 ≤ n) && decide (n ≤ 4)
/-! ### their promises -/
def spSign : Sp := fun vs H Q _ => ∃ c : Nat, vs = [.str (sg c)] ∧ Q (.bl (signB c)) H
def spDiff : Sp := fun vs H Q _ => ∃ z : Str, vs = [.str z] ∧ z.length ≤ 4000 ∧ Q (.bl (diffB z)) H
def spSigns : Sp := fun vs H Q _ => ∃ z : Str, vs = [.str z] ∧ z.length ≤ 4000 ∧ ∀ H', Same H H' → Q (.bl (signsB z)) H'
def spMany : Sp := fun vs H Q _ => ∃ n : Int, vs = [.int n] ∧ Q (.bl (manyB n)) H
def spMode : Sp := fun vs H Q _ => ∃ m n : Int, vs = [.int m, .int n] ∧ Q (.bl (modeB m n)) H
def spText : Sp := fun vs H Q _ => ∃ t z : Str, vs = [.str t, .str z] ∧ t.length ≤ 4000 ∧ ∀ H', Same H H' → Q (.bl (textB t z)) H'
def spCells (K : PySem.W.Frag) : Sp := fun vs H Q _ => ∃ (a : Addr) (cs : List Int), vs = [.ref a] ∧ SqL K H a (cs.map V.int) ∧ cs.length ≤ 4000 ∧ ∀ H', Same H H' → Q (.bl (cellsB cs)) H'
def oV : Option Str → V
  | none => .non
  | some t => .str t
def spNear : Sp := fun vs H Q _ => ∃ (o : Option Str) (z : Str) (e : Nat), vs = [oV o, .str z, .str (sg e)] ∧ (∀ t, o = some t → t.length ≤ 4000) ∧ ∀ H', Same H H' → Q (.bl (nearB o z e)) H'
/-! ### they keep them -/
theorem scSign : FnScope ["character"] ["character"] (defScope sIsSign) := ⟨rfl, rfl, rfl, by decide +kernel, rfl, by decide +kernel, by decide +kernel⟩
theorem lt1 (a b : Nat) : decide ((⟨#[a]⟩ : Str).cps.toList < (⟨#[b]⟩ : Str).cps.toList) = decide (a < b) := by
  rw [decide_eq_decide]
  show [a] < [b] ↔ a < b
  rw [List.cons_lt_cons_iff]
  constructor
  · rintro (h | ⟨_, h⟩)
    · exact h
    · exact absurd h (List.not_lt_nil _)
  · exact Or.inl
theorem ok_sign (t : T K mg) : Ok P w K mg base 1 "is_sign" ["character"] spSign := by
  refine mkOk t.d_is_sign t.g_is_sign scSign (fun vs H Q E h => ?_) (fun _ _ _ _ _ _ us hl => match us, hl with | [_], _ => rfl) fun cdv A outer s H vs Q E hr h => ?_
  · obtain ⟨c, rfl, _⟩ := h; rfl
  obtain ⟨c, rfl, q⟩ := h
  refine ⟨_, pss_one (ps_ret (pe_chain op_le_str op_le_str pe_str (pv 0) pe_str)), ?_⟩
  refine ⟨_, rfl, _, _, rfl, rfl, _, rfl, ?_⟩
  have e1 : (!decide ((sg c).cps.toList < (Str.ofString " ").cps.toList)) = decide (32 ≤ c) := by
    have e : Str.ofString " " = sg 32 := by decide +kernel
    rw [e, lt1, ← decide_not, decide_eq_decide]; omega
  have e2 : (!decide ((Str.ofString "~").cps.toList < (sg c).cps.toList)) = decide (c ≤ 126) := by
    have e : Str.ofString "~" = sg 126 := by decide +kernel
    rw [e, lt1, ← decide_not, decide_eq_decide]; omega
  show if (!decide ((sg c).cps.toList < (Str.ofString " ").cps.toList)) = true then _ else _
  rw [e1]
  unfold signB at q
  refine ite2 (fun h => ?_) (fun h => ?_)
  · refine ⟨_, _, rfl, rfl, ?_⟩
    rw [h, Bool.true_and] at q
    show Q (.bl (!decide ((Str.ofString "~").cps.toList < (sg c).cps.toList))) _
    rw [e2]
    exact q
  · rw [Bool.not_eq_true] at h
    rw [h, Bool.false_and] at q
    exact q
end
end Sx

set_option Elab.async false
set_option linter.all false
set_option maxRecDepth 100000
set_option maxHeartbeats 1000000
namespace Sx
open PySem PySem.Spec PyProof.Rows L2 SxA
section
variable {P : Program} {w : World} {K : PySem.W.Frag} {mg : Str → Option Value} {base : Heap}
theorem pgi {X : Cx} {x : Str} {i : Int} {k : Tok} {pos : Pos} (hg : Gl X x) (hm : X.mg x = some (.int i k)) (hd : (x == ("__debug__" : Str)) = false := by decide) : PE X (.Name x pos) (tC (.int i)) := pe_glob (v := .int i) hg hm ⟨_, rfl⟩ hd
theorem pgs {X : Cx} {x z : Str} {k : Tok} {pos : Pos} (hg : Gl X x) (hm : X.mg x = some (.str z k)) (hd : (x == ("__debug__" : Str)) = false := by decide) : PE X (.Name x pos) (tC (.str z)) := pe_glob (v := .str z) hg hm ⟨_, rfl⟩ hd
theorem op_notInK {X : Cx} {K : PySem.W.Frag} (h : X.K = K) : OpR X (compareOp .NotIn) (rIn K true) := by
  subst h
  exact op_notIn_seq
theorem small4 {n : Nat} (h : n ≤ 4000) : n ≤ sizeLine := Nat.le_trans h (by decide)
theorem sqD {D : Addr} {H : Hp} {ys : List V} (h : H D = some (.lst ys)) : SqL K H D ys := SqL.of h
theorem inV2 (c : Nat) (k1 k2 : Str) (h1 : k1 = sg 94) (h2 : k2 = sg 36) : (!inV (.str (sg c)) [.str k1, .str k2]) = !(decide (c = 94) || decide (c = 36)) := by
  subst h1 h2
  have e : ∀ d : Nat, eqV (.str (sg d)) (.str (sg c)) = decide (c = d) := fun d => by
    show (sg d == sg c) = decide (c = d)
    by_cases h : c = d
    · subst h; simp
    · rw [decide_eq_false h]
      exact beq_eq_false_iff_ne.mpr fun q => h (sg_inj q).symm
  unfold inV
  rw [List.any_cons, List.any_cons, List.any_nil, e, e, Bool.or_false]
theorem eq_sg (c e : Nat) : decide (V.str (sg c) = V.str (sg e)) = decide (c = e) := by
  rw [decide_eq_decide]
  exact ⟨fun h => sg_inj (V.str.inj h), fun h => by rw [h]⟩
end
end Sx

set_option Elab.async false
set_option linter.all false
set_option maxRecDepth 100000
set_option maxHeartbeats 1000000
namespace Sx
open PySem PySem.Spec PyProof.Rows L2 SxA
/-! ### data -/
structure RD where
  mode : Int
  text : Str
  cells : List Int
  to : Int
  ahead : Option Str
  behind : Option Str
deriving DecidableEq
structure TD where
  signs : Str
  modes : Int
  rules : List RD
deriving DecidableEq
def RD.sz (r : RD) : Prop := r.text.length ≤ 4000 ∧ r.cells.length ≤ 4000 ∧ (∀ t, r.ahead = some t → t.length ≤ 4000) ∧ ∀ t, r.behind = some t → t.length ≤ 4000
def TD.sz (d : TD) : Prop := d.signs.length ≤ 4000 ∧ d.rules.length ≤ 4000 ∧ ∀ r ∈ d.rules, r.sz
def ruleB (r : RD) (z : Str) (n : Int) : Bool := modeB r.mode n && (textB r.text z && (cellsB r.cells && (modeB r.to n && (nearB r.ahead z 94 && nearB r.behind z 36))))
def letB (d : TD) : Bool := signsB d.signs && (manyB d.modes && (decide ((d.rules.length : Int) ≤ 80) && d.rules.all fun r => ruleB r d.signs d.modes))
def ruleF (r : RD) (l : Addr) : List (Str × V) := [("mode", .int r.mode), ("text", .str r.text), ("cells", .ref l), ("to", .int r.to), ("ahead", oV r.ahead), ("behind", oV r.behind)]
def tableF (d : TD) (l : Addr) : List (Str × V) := [("signs", .str d.signs), ("modes", .int d.modes), ("rules", .ref l)]
def RuleO (K : PySem.W.Frag) (H : Hp) (v : V) (r : RD) : Prop := ∃ x dx l, v = .ref x ∧ H x = some (.ins (He.ga K "Rule") dx (ruleF r l)) ∧ H l = some (.lst (r.cells.map V.int))
def RulesL (K : PySem.W.Frag) (H : Hp) (l : Addr) (rs : List RD) : Prop := ∃ vs, H l = some (.lst vs) ∧ vs.length = rs.length ∧ ∀ (i : Nat) v r, vs[i]? = some v → rs[i]? = some r → RuleO K H v r
def TableO (K : PySem.W.Frag) (H : Hp) (v : V) (d : TD) : Prop := ∃ x dx l, v = .ref x ∧ H x = some (.ins (He.ga K "Table") dx (tableF d l)) ∧ RulesL K H l d.rules
theorem RuleO.same {K : PySem.W.Frag} {H H' : Hp} {v : V} {r : RD} (h : RuleO K H v r) (s : Same H H') : RuleO K H' v r := by
  obtain ⟨x, dx, l, e, h1, h2⟩ := h
  exact ⟨x, dx, l, e, s _ _ h1, s _ _ h2⟩
theorem RulesL.same {K : PySem.W.Frag} {H H' : Hp} {l : Addr} {rs : List RD} (h : RulesL K H l rs) (s : Same H H') : RulesL K H' l rs := by
  obtain ⟨vs, h1, h2, h3⟩ := h
  exact ⟨vs, s _ _ h1, h2, fun i v r a b => (h3 i v r a b).same s⟩
theorem TableO.same {K : PySem.W.Frag} {H H' : Hp} {v : V} {d : TD} (h : TableO K H v d) (s : Same H H') : TableO K H' v d := by
  obtain ⟨x, dx, l, e, h1, h2⟩ := h
  exact ⟨x, dx, l, e, s _ _ h1, h2.same s⟩
/-! ### parts of heaps: all but a; what is new -/
def off (a : Addr) (H : Hp) : Hp := fun b => if b = a then none else H b
def fresh (H H' : Hp) : Hp := fun b => match H b with
  | none => H' b
  | some _ => none
theorem off_ne {a b : Addr} {H : Hp} (h : b ≠ a) : off a H b = H b := if_neg h
theorem off_some {a b : Addr} {H : Hp} {o : HO} (h : off a H b = some o) : b ≠ a ∧ H b = some o := by
  unfold off at h
  by_cases e : b = a
  · rw [if_pos e] at h; cases h
  · rw [if_neg e] at h; exact ⟨e, h⟩
theorem fresh_of {H H' : Hp} {b : Addr} (h : H b = none) : fresh H H' b = H' b := by
  unfold fresh; rw [h]
theorem fresh_some {H H' : Hp} {b : Addr} {o : HO} (h : fresh H H' b = some o) : H b = none ∧ H' b = some o := by
  unfold fresh at h
  cases e : H b with
  | none => rw [e] at h; exact ⟨rfl, h⟩
  | some u => rw [e] at h; cases h
theorem off_le {a : Addr} {H : Hp} : Same (off a H) H := fun b o h => (off_some h).2
theorem off_up {a : Addr} {H H' : Hp} (s : Same H H') : Same (off a H) (off a H') := fun b o h => by
  obtain ⟨h1, h2⟩ := off_some h
  rw [off_ne h1]
  exact s _ _ h2
theorem off_but {a : Addr} {H H' : Hp} (s : But a H H') : Same (off a H) (off a H') := fun b o h => by
  obtain ⟨h1, h2⟩ := off_some h
  rw [off_ne h1]
  exact s _ _ h2 h1
theorem off_put (a : Addr) (H : Hp) (o : HO) : off a (upd H a o) = off a H := by
  funext b
  unfold off
  by_cases e : b = a
  · rw [if_pos e, if_pos e]
  · rw [if_neg e, if_neg e, upd_ne e]
theorem off_in {a : Addr} {H0 H : Hp} (s : Same H0 H) (h : H0 a = none) : Same H0 (off a H) := fun b o e => by
  rw [off_ne (ne_of_none e h)]
  exact s _ _ e
theorem fresh_le {H H' : Hp} : Same (fresh H H') H' := fun b o h => (fresh_some h).2
theorem fresh_off {a : Addr} {H H' : Hp} {u : HO} (h : H a = some u) : Same (fresh H H') (off a H') := fun b o e => by
  obtain ⟨h1, h2⟩ := fresh_some e
  rw [off_ne fun q => by rw [q, h] at h1; cases h1]
  exact h2
theorem fresh_up {H H1 H' H2 : Hp} (s : ∀ b, H1 b = none → H b = none) (s2 : Same H' H2) : Same (fresh H1 H') (fresh H H2) := fun b o e => by
  obtain ⟨h1, h2⟩ := fresh_some e
  rw [fresh_of (s b h1)]
  exact s2 _ _ h2
theorem Same.none {H H' : Hp} (s : Same H H') : ∀ b, H' b = Option.none → H b = Option.none := fun b h => s.free h
/-! ### an attribute, put -/
theorem put_new (f : Str) (v : V) : ∀ fs : List (Str × V), (∀ q ∈ fs, q.1 ≠ f) → putF f v fs = fs ++ [(f, v)]
  | [], _ => rfl
  | (g, x) :: r, h => by
    show (if g = f then (g, v) :: r else (g, x) :: putF f v r) = _
    rw [if_neg (h (g, x) (.head _)), put_new f v r fun q hq => h q (.tail _ hq)]
    rfl
/-! ### promises -/
def spRule (K : PySem.W.Frag) : Sp := fun vs H Q _ => ∃ (p dx c : Addr) (r : RD), vs = [.ref p, .int r.mode, .str r.text, .ref c, .int r.to, oV r.ahead, oV r.behind] ∧ H p = some (.ins (He.ga K "Rule") dx []) ∧ SqL K H c (r.cells.map V.int) ∧
  ∀ H' l, H l = none → H' p = some (.ins (He.ga K "Rule") dx (ruleF r l)) → H' l = some (.lst (r.cells.map V.int)) → (∀ b o, H b = some o → b ≠ p → H' b = some o) → Q .non H'
def spCopy (K : PySem.W.Frag) : Sp := fun vs H Q _ => ∃ (v : V) (r : RD), vs = [v] ∧ RuleO K H v r ∧ ∀ v' H', Same H H' → RuleO K (fresh H H') v' r → Q v' H'
def spTable (K : PySem.W.Frag) : Sp := fun vs H Q _ => ∃ (p dx l : Addr) (d : TD), vs = [.ref p, .str d.signs, .int d.modes, .ref l] ∧ H p = some (.ins (He.ga K "Table") dx []) ∧ RulesL K H l d.rules ∧ d.rules.length ≤ 4000 ∧
  ∀ H' l', H l' = none → H' p = some (.ins (He.ga K "Table") dx (tableF d l')) → RulesL K (fresh H H') l' d.rules → (∀ b o, H b = some o → b ≠ p → H' b = some o) → Q .non H'
/-! ### Rule.__init__ -/
section
variable {P : Program} {w : World} {K : PySem.W.Frag} {mg : Str → Option Value} {base : Heap}
abbrev psRule : List Str := ["self", "mode", "text", "cells", "to", "ahead", "behind"]
/-- Rule(..), by a call with and without its keywords -/
def OkRule (P : Program) (w : World) (K : PySem.W.Frag) (mg : Str → Option Value) (base : Heap) : Prop :=
  ∃ fd, FnOk P w K mg base CX0 1 (He.ma K (He.ga K "Rule") "__init__") fd psRule (spRule K) ∧ (∃ ds, Vals [V.non, V.non] ds ∧ Binds K fd psRule ds) ∧ KBn K fd psRule 5 ["ahead", "behind"] (fun us ws => us ++ ws) (fun vs zs => vs ++ zs)
theorem ruleF_put (r : RD) (l : Addr) : putF "behind" (oV r.behind) (putF "ahead" (oV r.ahead) (putF "to" (.int r.to) (putF "cells" (.ref l) (putF "text" (.str r.text) (putF "mode" (.int r.mode) []))))) = ruleF r l := by
  rw [put_new "mode" _ [] (by simp), put_new "text" _ _ (by simp only [List.nil_append, List.mem_cons, List.not_mem_nil, or_false, forall_eq]; decide +kernel)]
  rw [put_new "cells" _ _ (by simp only [List.nil_append, List.cons_append, List.mem_cons, List.not_mem_nil, or_false, forall_eq_or_imp, forall_eq]; decide +kernel)]
  rw [put_new "to" _ _ (by simp only [List.nil_append, List.cons_append, List.mem_cons, List.not_mem_nil, or_false, forall_eq_or_imp, forall_eq]; decide +kernel)]
  rw [put_new "ahead" _ _ (by simp only [List.nil_append, List.cons_append, List.mem_cons, List.not_mem_nil, or_false, forall_eq_or_imp, forall_eq]; decide +kernel)]
  rw [put_new "behind" _ _ (by simp only [List.nil_append, List.cons_append, List.mem_cons, List.not_mem_nil, or_false, forall_eq_or_imp, forall_eq]; decide +kernel)]
  rfl
theorem len_put (f : Str) (v : V) : ∀ fs : List (Str × V), (putF f v fs).length ≤ fs.length + 1
  | [] => Nat.le_refl _
  | (g, x) :: r => by
    show (if g = f then (g, v) :: r else (g, x) :: putF f v r).length ≤ _
    by_cases h : g = f
    · rw [if_pos h]; exact Nat.le_succ _
    · rw [if_neg h]; exact Nat.succ_le_succ (len_put f v r)
theorem len_put_lt {f : Str} {v : V} {fs : List (Str × V)} {n : Nat} (h : fs.length ≤ n) : (putF f v fs).length ≤ n + 1 := Nat.le_trans (len_put f v fs) (Nat.succ_le_succ h)
end
end Sx

set_option Elab.async false
set_option linter.all false
set_option maxRecDepth 100000
set_option maxHeartbeats 1000000
namespace Sx
open PySem PySem.Spec PyProof.Rows L2 SxA
/-! ### data compared -/
def pInts (cs : List Int) : PyData := .list (cs.map PyData.int)
theorem eqvAll_ints : ∀ xs ys : List Int, PyData.eqvAll (xs.map PyData.int) (ys.map PyData.int) = decide (xs = ys)
  | [], [] => rfl
  | [], y :: ys => by simp [PyData.eqvAll]
  | x :: xs, [] => by simp [PyData.eqvAll]
  | x :: xs, y :: ys => by
    rw [List.map_cons, List.map_cons, PyData.eqvAll, eqvAll_ints xs ys, PyData.eqv]
    by_cases h : x = y
    · subst h; simp
    · simp [h]
theorem eqv_ints (xs ys : List Int) : PyData.eqv (pInts xs) (pInts ys) = decide (xs = ys) := by
  unfold pInts
  rw [PyData.eqv]
  exact eqvAll_ints xs ys
theorem lay_ints : ∀ xs : List Int, PyData.canLayAll0 (xs.map PyData.int) = true
  | [] => rfl
  | x :: xs => by
    rw [List.map_cons, PyData.canLayAll0, lay_ints xs]
    rfl
theorem dep_ints : ∀ xs : List Int, PyData.depthAll (xs.map PyData.int) ≤ 1
  | [] => Nat.zero_le _
  | x :: xs => by
    rw [List.map_cons, PyData.depthAll]
    exact Nat.max_le.mpr ⟨by rw [PyData.depth]; decide, dep_ints xs⟩
theorem shaped_ints (xs : List Int) : SeqAt.shaped (pInts xs) = true := by
  unfold SeqAt.shaped pInts
  rw [PyData.canLay0, lay_ints, PyData.depth]
  have := dep_ints xs
  simp
  omega
theorem dpAll_ints (K : PySem.W.Frag) (H : Hp) : ∀ xs : List Int, DpAll K H (xs.map V.int) (xs.map PyData.int)
  | [] => .nil
  | x :: xs => .cons (.int x) (dpAll_ints K H xs)
theorem dp_ints {K : PySem.W.Frag} {H : Hp} {a : Addr} {xs : List Int} (h : SqL K H a (xs.map V.int)) : Dp K H (.ref a) (pInts xs) := .lst h (dpAll_ints K H xs)
section
variable {P : Program} {w : World} {K : PySem.W.Frag} {mg : Str → Option Value} {base : Heap}
/-! ### attributes looked up -/
theorem lk_mode (r : RD) (l : Addr) : (ruleF r l).lookup ("mode" : Str) = some (.int r.mode) := rfl
theorem lk_text (r : RD) (l : Addr) : (ruleF r l).lookup ("text" : Str) = some (.str r.text) := rfl
theorem lk_cells (r : RD) (l : Addr) : (ruleF r l).lookup ("cells" : Str) = some (.ref l) := rfl
theorem lk_to (r : RD) (l : Addr) : (ruleF r l).lookup ("to" : Str) = some (.int r.to) := rfl
theorem lk_ahead (r : RD) (l : Addr) : (ruleF r l).lookup ("ahead" : Str) = some (oV r.ahead) := rfl
theorem lk_behind (r : RD) (l : Addr) : (ruleF r l).lookup ("behind" : Str) = some (oV r.behind) := rfl
theorem lk_signs (d : TD) (l : Addr) : (tableF d l).lookup ("signs" : Str) = some (.str d.signs) := rfl
theorem lk_modes (d : TD) (l : Addr) : (tableF d l).lookup ("modes" : Str) = some (.int d.modes) := rfl
theorem lk_rules (d : TD) (l : Addr) : (tableF d l).lookup ("rules" : Str) = some (.ref l) := rfl

/-! ### comprehensions whose elements are told -/
theorem lc_rel {a : Addr} {xs : List V} {te : TE} {i0 : Nat} {vs : List Nat} {σ : L2.St} {H1 : Hp} {D : Addr} {Qd : Hp → Prop} (Rel : Nat → V → Hp → Prop) (hm : ∀ i v H H', Rel i v H → Same H H' → Rel i v H') (hD : H1 D = none) (hq : SqL K H1 a xs) (hz : xs.length ≤ sizeLine)
    (hw : ∀ v : V, wipe ((wipe σ vs).set i0 (some v)) vs = wipe σ vs)
    (he : ∀ (i : Nat) (x : V) (H : Hp) (Q : VK) (acc : List V), xs[i]? = some x → Same H1 H → H D = some (.lst acc) → (∀ y H', Same H H' → Rel i y (fresh H H') → Q y H') → te ((wipe σ vs).set i0 (some x)) H Q)
    (hd : ∀ H ys, Same H1 H → H D = some (.lst ys) → ys.length = xs.length → (∀ i y, ys[i]? = some y → Rel i y (fresh H1 (off D H))) → Qd H) :
    ∃ W : Nat → Nat → Hp → Prop, (∃ m, W 0 m (upd H1 D (.lst []))) ∧ ∀ i m H, W i m H → ((Itl K a).stop i H ∧ Qd H) ∨ ((Itl K a).go i H ∧ ∃ Nx : Hp → Prop, (∀ H', Nx H' → ∃ m', m' < m ∧ W (i + 1) m' H') ∧
      ∀ x H', (Itl K a).yld i H x H' → (gName i0) x (wipe σ vs) H' fun σ2 H2 => wipe σ2 vs = wipe σ vs ∧ tYes σ2 H2 fun b H3 => if b = true then te σ2 H3 fun y H4 => ∃ acc, H4 D = some (.lst acc) ∧ acc.length < sizeLine ∧ Nx (upd H4 D (.lst (acc ++ [y]))) else Nx H3) := by
  refine lc_list (K := K) (a := a) (xs := xs) (g := gName i0) (tt := tYes) (te := te) (fun i H => Same H1 H ∧ ∃ ys, H D = some (.lst ys) ∧ ys.length = i ∧ ∀ j y, ys[j]? = some y → Rel j y (fresh H1 (off D H)))
    ⟨Same.new hD, [], upd_same, rfl, fun j y h => by simp at h⟩ (fun i H _ p => p.1.seq hq) ?_ ?_
  · rintro i x H hx ⟨sm, ys, hH, hl, hr⟩
    have lt : i < xs.length := (List.getElem?_eq_some_iff.mp hx).1
    refine ⟨hw x, ?_⟩
    show te _ _ _
    refine he i x _ _ ys hx sm hH fun y H4 s4 r4 => ⟨ys, s4 _ _ hH, by omega, Same.put (sm.trans s4) hD, ys ++ [y], upd_same, by rw [List.length_append, hl]; rfl, fun j v hj => ?_⟩
    rw [off_put]
    by_cases hji : j < ys.length
    · rw [List.getElem?_append_left hji] at hj
      exact hm _ _ _ _ (hr j v hj) (fresh_up (fun b h => h) (off_up s4))
    · rw [List.getElem?_append_right (by omega)] at hj
      have hj0 : j - ys.length = 0 := by
        have := (List.getElem?_eq_some_iff.mp hj).1
        rw [List.length_singleton] at this
        omega
      rw [hj0] at hj
      obtain rfl : y = v := Option.some.inj hj
      have e : j = i := by omega
      rw [e]
      refine hm _ _ _ _ r4 fun b o e => ?_
      obtain ⟨h1, h2⟩ := fresh_some e
      have hb : b ≠ D := fun q => by rw [q, hH] at h1; cases h1
      rw [fresh_of (Sx.Same.none sm b h1), off_ne hb]
      exact h2
  · rintro H ⟨sm, ys, hH, hl, hr⟩
    exact hd H ys sm hH hl hr
/-! ### copy_of_rule, Table.__init__ -/
abbrev psTable : List Str := ["self", "signs", "modes", "rules"]
abbrev nsTable : List Str := ["self", "signs", "modes", "rules", "rule"]
def OkTable (P : Program) (w : World) (K : PySem.W.Frag) (mg : Str → Option Value) (base : Heap) : Prop :=
  ∃ fd, FnOk P w K mg base CX0 4 (He.ma K (He.ga K "Table") "__init__") fd psTable (spTable K) ∧ Binds K fd psTable []
theorem tableF_put (d : TD) (l : Addr) : putF "rules" (.ref l) (putF "modes" (.int d.modes) (putF "signs" (.str d.signs) [])) = tableF d l := by
  rw [put_new "signs" _ [] (by simp), put_new "modes" _ _ (by simp only [List.nil_append, List.mem_cons, List.not_mem_nil, or_false, forall_eq]; decide +kernel)]
  rw [put_new "rules" _ _ (by simp only [List.nil_append, List.cons_append, List.mem_cons, List.not_mem_nil, or_false, forall_eq_or_imp, forall_eq]; decide +kernel)]
  rfl
end
end Sx

set_option Elab.async false
set_option linter.all false
set_option maxRecDepth 100000
set_option maxHeartbeats 1000000
namespace Sx
open PySem PySem.Spec PyProof.Rows L2 SxA
section
variable {P : Program} {w : World} {K : PySem.W.Frag} {mg : Str → Option Value} {base : Heap}
theorem hu64 {A : Around} {k : Nat} (hr : Room k A) : A.units + 64 < cLine := by
  have := hr.un
  omega
theorem lc_zip {a b : Addr} {xs ys zs : List V} {te : TE} {i0 j0 : Nat} {vs : List Nat} {σ : L2.St} {H1 : Hp} {D : Addr} {Qd : Hp → Prop} (hD : H1 D = none) (hx : SqL K H1 a xs) (hy : SqL K H1 b ys) (hl : ys.length = xs.length) (hz : zs.length = xs.length) (hb : zs.length ≤ sizeLine)
    (hw : ∀ u v : V, wipe (((wipe σ vs).set i0 (some u)).set j0 (some v)) vs = wipe σ vs)
    (he : ∀ (i : Nat) (x y z : V) (H : Hp) (Q : VK), xs[i]? = some x → ys[i]? = some y → zs[i]? = some z → Same H1 H → (∀ H', Same H H' → Q z H') → te (((wipe σ vs).set i0 (some x)).set j0 (some y)) H Q)
    (hd : ∀ H, Same H1 H → H D = some (.lst zs) → Qd H) :
    ∃ W : Nat → Nat → Hp → Prop, (∃ m, W 0 m (upd H1 D (.lst []))) ∧ ∀ i m H, W i m H → ((Itz K a b).stop i H ∧ Qd H) ∨ ((Itz K a b).go i H ∧ ∃ Nx : Hp → Prop, (∀ H', Nx H' → ∃ m', m' < m ∧ W (i + 1) m' H') ∧
      ∀ x H', (Itz K a b).yld i H x H' → (gTup K 2 (gCons (gName i0) (gCons (gName j0) gNil))) x (wipe σ vs) H' fun σ2 H2 => wipe σ2 vs = wipe σ vs ∧ tYes σ2 H2 fun b H3 => if b = true then te σ2 H3 fun y H4 => ∃ acc, H4 D = some (.lst acc) ∧ acc.length < sizeLine ∧ Nx (upd H4 D (.lst (acc ++ [y]))) else Nx H3) := by
  refine ⟨fun i m H => m = zs.length - i ∧ i ≤ zs.length ∧ Same H1 H ∧ H D = some (.lst (zs.take i)), ⟨zs.length, rfl, Nat.zero_le _, Same.new hD, upd_same⟩, ?_⟩
  rintro i m H ⟨rfl, hi, sm, hH⟩
  by_cases lt : i < zs.length
  · have ex : xs[i]? = some (xs[i]'(by omega)) := List.getElem?_eq_getElem _
    have ey : ys[i]? = some (ys[i]'(by omega)) := List.getElem?_eq_getElem _
    have ez : zs[i]? = some zs[i] := List.getElem?_eq_getElem lt
    refine .inr ⟨⟨xs, ys, _, _, sm.seq hx, sm.seq hy, ex, ey⟩, fun H' => Same H1 H' ∧ H' D = some (.lst (zs.take (i + 1))), fun H' q => ⟨zs.length - (i + 1), by omega, rfl, lt, q.1, q.2⟩, ?_⟩
    rintro v H' ⟨T, x, y, rfl, hT, rfl, h1, h2⟩
    have hx2 := h1 _ (sm.seq hx)
    have hy2 := h2 _ (sm.seq hy)
    refine ⟨T, [x, y], rfl, SqT.of upd_same, rfl, x, _, rfl, y, _, rfl, rfl, hw x y, ?_⟩
    show te _ _ _
    have nDT : D ≠ T := ne_of_none hH hT
    refine he i x y _ _ _ hx2 hy2 ez (sm.trans (Same.new hT)) fun H4 s4 => ⟨zs.take i, s4 _ _ (by rw [upd_ne nDT]; exact hH), ?_, ?_, ?_⟩
    · rw [List.length_take]; omega
    · exact Same.put ((sm.trans (Same.new hT)).trans s4) hD
    · rw [upd_same, List.take_add_one, ez]; rfl
  · have e : i = zs.length := by omega
    subst e
    refine .inl ⟨⟨xs, ys, sm.seq hx, sm.seq hy, .inl (by omega)⟩, hd H sm ?_⟩
    rw [hH, List.take_length]
/-- .. over a range, filtered -/
theorem lc_rangeF {lo : Int} {n : Nat} {f : Nat → Bool} {F : Nat → V} {tt : TT} {te : TE} {i0 : Nat} {vs : List Nat} {σ : L2.St} {H1 : Hp} {D : Addr} {Qd : Hp → Prop} (hD : H1 D = none) (hn : n ≤ sizeLine)
    (hw : ∀ u : V, wipe ((wipe σ vs).set i0 (some u)) vs = wipe σ vs)
    (ht : ∀ (i : Nat) (H : Hp) (Q : Bool → Hp → Prop), i < n → Same H1 H → Q (f i) H → tt ((wipe σ vs).set i0 (some (.int (lo + (i : Nat))))) H Q)
    (he : ∀ (i : Nat) (H : Hp) (Q : VK), i < n → Same H1 H → Q (F i) H → te ((wipe σ vs).set i0 (some (.int (lo + (i : Nat))))) H Q)
    (hd : ∀ H, Same H1 H → H D = some (.lst (((List.range n).filter f).map F)) → Qd H) :
    ∃ W : Nat → Nat → Hp → Prop, (∃ m, W 0 m (upd H1 D (.lst []))) ∧ ∀ i m H, W i m H → ((Itr lo n).stop i H ∧ Qd H) ∨ ((Itr lo n).go i H ∧ ∃ Nx : Hp → Prop, (∀ H', Nx H' → ∃ m', m' < m ∧ W (i + 1) m' H') ∧
      ∀ x H', (Itr lo n).yld i H x H' → (gName i0) x (wipe σ vs) H' fun σ2 H2 => wipe σ2 vs = wipe σ vs ∧ tt σ2 H2 fun b H3 => if b = true then te σ2 H3 fun y H4 => ∃ acc, H4 D = some (.lst acc) ∧ acc.length < sizeLine ∧ Nx (upd H4 D (.lst (acc ++ [y]))) else Nx H3) := by
  have step : ∀ i, ((List.range (i + 1)).filter f).map F = ((List.range i).filter f).map F ++ (if f i = true then [F i] else []) := fun i => by
    rw [List.range_succ, List.filter_append, List.map_append]
    by_cases h : f i = true
    · rw [if_pos h]; simp [List.filter_cons, h]
    · rw [if_neg h]; simp [List.filter_cons, h]
  have small : ∀ i, i < n → (((List.range i).filter f).map F).length < sizeLine := fun i h => by
    rw [List.length_map]
    have := List.length_filter_le f (List.range i)
    rw [List.length_range] at this
    omega
  refine lc_range (g := gName i0) (tt := tt) (te := te) (fun i H => Same H1 H ∧ H D = some (.lst (((List.range i).filter f).map F))) ⟨Same.new hD, upd_same⟩ ?_ (fun H q => hd H q.1 q.2)
  rintro i H hi ⟨sm, hH⟩
  refine ⟨hw _, ht i H _ hi sm ?_⟩
  by_cases h : f i = true
  · rw [if_pos h]
    refine he i H _ hi sm ⟨_, hH, small i hi, Same.put sm hD, ?_⟩
    rw [upd_same, step, if_pos h]
  · rw [if_neg h]
    exact ⟨sm, by rw [hH, step, if_neg h, List.append_nil]⟩
/-! ### same_rule, same_table -/
def spSameR (K : PySem.W.Frag) : Sp := fun vs H Q _ => ∃ (v v' : V) (r r' : RD), vs = [v, v'] ∧ RuleO K H v r ∧ RuleO K H v' r' ∧ Q (.bl (decide (r = r'))) H
def spSameT (K : PySem.W.Frag) : Sp := fun vs H Q _ => ∃ (v v' : V) (d d' : TD), vs = [v, v'] ∧ TableO K H v d ∧ TableO K H v' d' ∧ d.rules.length ≤ 4000 ∧ ∀ H', Same H H' → Q (.bl (decide (d = d'))) H'
theorem scal_oV (a b : Option Str) : scal (oV a) (oV b) = true := by
  cases a <;> cases b <;> rfl
theorem eq_oV (a b : Option Str) : decide (oV a = oV b) = decide (a = b) := by
  rw [decide_eq_decide]
  cases a <;> cases b <;> simp [oV]
theorem eq_int (a b : Int) : decide (V.int a = V.int b) = decide (a = b) := by
  rw [decide_eq_decide]
  exact ⟨V.int.inj, congrArg V.int⟩
theorem eq_str (a b : Str) : decide (V.str a = V.str b) = decide (a = b) := by
  rw [decide_eq_decide]
  exact ⟨V.str.inj, congrArg V.str⟩
theorem rd_eq (r r' : RD) : decide (r = r') = (decide (r.mode = r'.mode) && (decide (r.text = r'.text) && (decide (r.cells = r'.cells) && (decide (r.to = r'.to) && (decide (r.ahead = r'.ahead) && decide (r.behind = r'.behind)))))) := by
  obtain ⟨a, b, c, d, e, f⟩ := r
  obtain ⟨a', b', c', d', e', f'⟩ := r'
  simp only [RD.mk.injEq, Bool.decide_and]
abbrev nsSameT : List Str := ["table", "other", "rule", "twin"]
theorem td_eq (d d' : TD) : decide (d = d') = (decide (d.signs = d'.signs) && (decide (d.modes = d'.modes) && decide (d.rules = d'.rules))) := by
  obtain ⟨a, b, c⟩ := d
  obtain ⟨a', b', c'⟩ := d'
  simp only [TD.mk.injEq, Bool.decide_and]
theorem zip_eq : ∀ rs rs' : List RD, rs'.length = rs.length → ((rs.zip rs').map fun p => decide (p.1 = p.2)).all id = decide (rs = rs')
  | [], [], _ => rfl
  | r :: rs, r' :: rs', h => by
    have ih := zip_eq rs rs' (by simpa using h)
    rw [List.zip_cons_cons, List.map_cons, List.all_cons, ih]
    by_cases e : r = r'
    · subst e; simp
    · simp [e]
end
end Sx

set_option Elab.async false
set_option linter.all false
set_option maxRecDepth 100000
set_option maxHeartbeats 1000000
namespace Sx
open PySem PySem.Spec PyProof.Rows L2 SxA
/-! ### is_rule, is_let_by -/
def spIsRule (K : PySem.W.Frag) : Sp := fun vs H Q _ => ∃ (v : V) (z : Str) (n : Int) (r : RD), vs = [v, .str z, .int n] ∧ RuleO K H v r ∧ r.sz ∧ ∀ H', Same H H' → Q (.bl (ruleB r z n)) H'
def spLet (K : PySem.W.Frag) : Sp := fun vs H Q _ => ∃ (v : V) (d : TD), vs = [v] ∧ TableO K H v d ∧ d.sz ∧ ∀ H', Same H H' → Q (.bl (letB d)) H'
section
variable {P : Program} {w : World} {K : PySem.W.Frag} {mg : Str → Option Value} {base : Heap}
theorem pe_fldK {X : Cx} {K : PySem.W.Frag} {e : Expr} {f : Str} {pos : Pos} {ta : TE} (h : X.K = K) (ha : PE X e ta) (hb : attributeBase e f X.env (eval e X.env) = eval e X.env := by rfl) : PE X (.Attribute e f pos) (tFld K ta f) := by
  subst h
  exact pe_fld ha hb
end
end Sx

set_option Elab.async false
set_option linter.all false
set_option maxRecDepth 100000
set_option maxHeartbeats 1000000
namespace Sx
open PySem PySem.Spec PyProof.Rows L2 SxA
/-! ### dots_of, cell_of -/
def bitB (c : Int) (i : Nat) : Bool := Builtin.bitAnd (c / 2 ^ i) 1 != 0
def dotsL (c : Int) : List Int := ((List.range 6).filter (bitB c)).map fun i : Nat => (1 : Int) + (i : Int)
def inB (ds : List Int) (i : Nat) : Bool := inV (.int (0 + (i : Int) + 1)) (ds.map V.int)
def cellL (ds : List Int) : Int := (((List.range 6).filter (inB ds)).map fun i => (2 : Int) ^ i).sum
def spDots : Sp := fun vs H Q _ => ∃ c : Int, vs = [.int c] ∧ ∀ H' p, Same H H' → H p = none → H' p = some (.lst ((dotsL c).map V.int)) → Q (.ref p) H'
def spCellOf (K : PySem.W.Frag) : Sp := fun vs H Q _ => ∃ (a : Addr) (ds : List Int), vs = [.ref a] ∧ SqL K H a (ds.map V.int) ∧ ∀ H', Same H H' → Q (.int (cellL ds)) H'
section
variable {P : Program} {w : World} {K : PySem.W.Frag} {mg : Str → Option Value} {base : Heap}
def tTru (K : PySem.W.Frag) (ta : TE) : TT := fun σ H Q => ta σ H fun x H' => ∃ k, TruV K x H' k ∧ Q k H'
theorem pt_truthK {X : Cx} {K : PySem.W.Frag} {a : Expr} {ta : TE} (h : X.K = K) (ha : PE X a ta) (he : ∀ whole, isTrue a X.env whole = (do let v ← whole; standAt a.pos; holding [v] (truthy v)) := by intro _; rfl) :
    PT X a (tTru K ta) := by
  subst h
  exact pt_truth ha he
theorem op_inK {X : Cx} {K : PySem.W.Frag} (h : X.K = K) : OpR X (compareOp .In) (rIn K false) := by
  subst h
  exact op_in_seq
/-! ### the law's state and its draws -/
structure StAt (H : Hp) (a L : Addr) (ns : List Int) (p c z k : Int) : Prop where
  at_ : H a = some (.lst [.ref L, .int p, .int c, .int z, .int k])
  lst : H L = some (.lst (ns.map V.int))
  ne : L ≠ a
  p0 : 0 ≤ p
def St (H : Hp) (a L : Addr) : Prop := ∃ ns p c z k, StAt H a L ns p c z k
theorem StAt.up {H : Hp} {a L : Addr} {ns : List Int} {p c z k p' c' z' k' : Int} (h : StAt H a L ns p c z k) (hp : 0 ≤ p') : StAt (upd H a (.lst [.ref L, .int p', .int c', .int z', .int k'])) a L ns p' c' z' k' :=
  ⟨upd_same, by rw [upd_ne h.ne]; exact h.lst, h.ne, hp⟩
theorem St.same {H H' : Hp} {a L : Addr} (h : St H a L) (s : Same H H') : St H' a L := by
  obtain ⟨ns, p, c, z, k, h1, h2, h3, h4⟩ := h
  exact ⟨ns, p, c, z, k, s _ _ h1, s _ _ h2, h3, h4⟩
theorem St.hasA {H : Hp} {a L : Addr} (h : St H a L) : ∃ o, H a = some o := by
  obtain ⟨ns, p, c, z, k, h1, _⟩ := h
  exact ⟨_, h1⟩
theorem St.hasL {H : Hp} {a L : Addr} (h : St H a L) : ∃ o, H L = some o := by
  obtain ⟨ns, p, c, z, k, _, h2, _⟩ := h
  exact ⟨_, h2⟩
theorem St.ne {H : Hp} {a L : Addr} (h : St H a L) : L ≠ a := by
  obtain ⟨ns, p, c, z, k, h1, h2, h3, h4⟩ := h
  exact h3
/-- a list of one's own written -/
theorem St.write {H : Hp} {a L D : Addr} {o : HO} (h : St H a L) (n1 : a ≠ D) (n2 : L ≠ D) : St (upd H D o) a L := by
  obtain ⟨ns, p, c, z, k, h1, h2, h3, h4⟩ := h
  exact ⟨ns, p, c, z, k, by rw [upd_ne n1]; exact h1, by rw [upd_ne n2]; exact h2, h3, h4⟩
theorem But.refl (a : Addr) (H : Hp) : But a H H := fun _ _ e _ => e
theorem But.trans {a : Addr} {H H1 H2 : Hp} (x : But a H H1) (y : But a H1 H2) : But a H H2 := fun b o e hb => y b o (x b o e hb) hb
theorem But.put (a : Addr) (H : Hp) (o : HO) : But a H (upd H a o) := fun b u e hb => by rw [upd_ne hb]; exact e
def spState (K : PySem.W.Frag) : Sp := fun vs H Q _ => ∃ (a : Addr) (ns : List Int), vs = [.ref a] ∧ SqL K H a (ns.map V.int) ∧ ∀ p L H', H p = none → H L = none → Same H H' → St H' p L → Q (.ref p) H'
def spDraw : Sp := fun vs H Q _ => ∃ (a L : Addr) (m : Int), vs = [.ref a, .int m] ∧ St H a L ∧ 0 < m ∧ m < 1073741824 ∧ ∀ v H', 0 ≤ v → v < m → St H' a L → But a H H' → Q (.int v) H'
theorem scState : FnScope ["script"] ["script"] (defScope sLawState) := ⟨rfl, rfl, rfl, by decide +kernel, rfl, by decide +kernel, by decide +kernel⟩
theorem ok_state (t : T K mg) : Ok P w K mg base 1 "_law_state" ["script"] (spState K) := by
  refine mkOk t.d_law_state t.g_law_state scState (fun vs H Q E h => ?_) (fun _ _ _ _ _ _ us hl => match us, hl with | [_], _ => rfl) fun cdv A outer s H vs Q E hr h => ?_
  · obtain ⟨a, ns, rfl, _⟩ := h; rfl
  obtain ⟨a, ns, rfl, hS, k⟩ := h
  refine ⟨_, pss_one (ps_ret (pe_lst (pa_cons (pe_callTy call_list_of rfl t.f_list (by decide +kernel) (pa_cons (pv 0) pa_nil)) (pa_cons pe_int (pa_cons pe_int (pa_cons pe_int (pa_cons pe_int pa_nil))))))), ?_⟩
  refine ⟨_, rfl, a, _, rfl, .inl hS, fun L hL => ⟨by show 5 ≤ sizeLine; decide, fun p hp => ?_⟩⟩
  have ne : L ≠ p := fun e => by rw [← e, upd_same] at hp; cases hp
  have hp0 : H p = none := by rw [upd_ne ne.symm] at hp; exact hp
  exact k p L _ hp0 hL ((Same.new hL).trans (Same.new hp)) ⟨ns, 0, 0, 1, 0, upd_same, by rw [upd_ne ne]; exact upd_same, ne, Int.le_refl _⟩
abbrev nsDraw : List Str := ["state", "many", "value", "cell", "first"]
theorem scDraw : FnScope nsDraw ["state", "many"] (defScope sLawDraw) := ⟨rfl, rfl, rfl, by decide +kernel, rfl, by decide +kernel, by decide +kernel⟩
theorem mulF (y : Int) : CMul (y % 2147483647) (y % 2147483647) := .inl ⟨by omega, by omega⟩
theorem ok_draw (t : T K mg) : Ok P w K mg base 1 "_law_draw" ["state", "many"] spDraw := by
  refine mkOk t.d_law_draw t.g_law_draw scDraw (fun vs H Q E h => ?_) (fun _ _ _ _ _ _ us hl => match us, hl with | [_, _], _ => rfl) fun cdv A outer s H vs Q E hr h => ?_
  · obtain ⟨a, L, m, rfl, _⟩ := h; rfl
  obtain ⟨a, L, m, rfl, ⟨ns, p, c, z, kk, S⟩, m0, m1, k⟩ := h
  have hS := S.at_
  refine ⟨_, C8.pss_cut (ps_if (PW.pt (pw_and (pt_cmpR op_gt (pe_ix ix_list (pv 0) pe_int (fun _ _ => rfl)) pe_int (nomark _)) (pw_and1 (pt_cmpR op_gt (pe_ix ix_list (pv 0) pe_int (fun _ _ => rfl)) pe_int (nomark _)))))
      (pss_cons (ps_set (i := 2) scDraw.nd rfl (Or.inl rfl) (pe_op op_mod (pe_callTy call_int1 rfl t.f_int (by decide +kernel) (pa_cons (pe_ix ix_list (pv 0) pe_int (fun _ _ => rfl)) pa_nil)) (pv 1)))
      (pss_cons (ps_asg (pe_op op_fdiv (pe_ix ix_list (pv 0) pe_int (fun _ _ => rfl)) (pv 1)) (pg_sub (pv 0) pe_int set_list))
      (pss_cons (ps_asg (pe_op op_sub (pe_ix ix_list (pv 0) pe_int (fun _ _ => rfl)) pe_int) (pg_sub (pv 0) pe_int set_list)) (pss_one (ps_ret (pv 2)))))) pss_nil)
    (pss_cons (ps_set (i := 3) scDraw.nd rfl (Or.inl rfl) (pe_op op_add (pe_ix ix_list (pv 0) pe_int (fun _ _ => rfl)) (pe_op op_mul pe_int (pe_ix ix_list (pv 0) pe_int (fun _ _ => rfl)))))
    (C8.pss_cut (ps_if (pt_cmpR op_lt (pe_ix ix_list (pv 0) pe_int (fun _ _ => rfl)) (pe_callB call_len_seq rfl t.f_len boot_len (pa_cons (pe_ix ix_list (pv 0) pe_int (fun _ _ => rfl)) pa_nil)) (nomark _))
        (pss_one (ps_set (i := 3) scDraw.nd rfl (Or.inl rfl) (pe_ix ix_list (pe_ix ix_list (pv 0) pe_int (fun _ _ => rfl)) (pe_ix ix_list (pv 0) pe_int (fun _ _ => rfl)) (fun _ _ => rfl)))) pss_nil)
    (pss_cons (ps_asg (pe_op op_add (pe_ix ix_list (pv 0) pe_int (fun _ _ => rfl)) pe_int) (pg_sub (pv 0) pe_int set_list))
    (pss_cons (ps_if (pt_cmpR op_ge (pv 3) (pe_op op_pow pe_int pe_int) (nomark _))
        (pss_cons (ps_asg (pe_op op_fdiv (pv 3) (pv 1)) (pg_sub (pv 0) pe_int set_list)) (pss_cons (ps_asg pe_int (pg_sub (pv 0) pe_int set_list))
          (pss_one (ps_ret (pe_op op_mod (pe_callTy call_int1 rfl t.f_int (by decide +kernel) (pa_cons (pv 3) pa_nil)) (pv 1)))))) pss_nil)
    (pss_cons (ps_set (i := 4) scDraw.nd rfl (Or.inl rfl) (pe_op op_mod (pe_callTy call_int1 rfl t.f_int (by decide +kernel) (pa_cons (pe_op op_add (pe_op op_add (pe_op op_mul (pv 3) pe_int) (pe_op op_mul (pe_ix ix_list (pv 0) pe_int (fun _ _ => rfl)) pe_int)) (pe_ix ix_list (pv 0) pe_int (fun _ _ => rfl))) pa_nil)) pe_int))
    (pss_cons (ps_asg (pe_op op_mod (pe_callTy call_int1 rfl t.f_int (by decide +kernel) (pa_cons (pe_op op_add (pe_op op_add (pe_op op_mul (pv 4) pe_int) (pe_op op_mul (pv 4) (pv 4))) pe_int) pa_nil)) pe_int) (pg_sub (pv 0) pe_int set_list))
      (pss_one (ps_ret (pe_op op_mod (pe_callTy call_int1 rfl t.f_int (by decide +kernel) (pa_cons (pe_op op_fdiv (pe_ix ix_list (pv 0) pe_int (fun _ _ => rfl)) pe_int) pa_nil)) (pv 1)))))))))), ?_⟩
  have md : ∀ x : Int, 0 ≤ x % m ∧ x % m < m := fun x => ⟨Int.emod_nonneg _ (by omega), Int.emod_lt_of_pos _ m0⟩
  -- the first if
  refine ⟨fun σ' H' => σ' = [some (.ref a), some (.int m), none, none, none] ∧ H' = H, ?_, ?_⟩
  · refine ⟨_, rfl, a, _, _, _, rfl, rfl, SqL.of hS, rfl, _, _, rfl, rfl, _, rfl, ?_⟩
    refine ite2 (fun h1 => ?_) (fun h1 => iteF ⟨rfl, rfl⟩)
    refine ⟨_, rfl, a, _, _, _, rfl, rfl, SqL.of hS, rfl, _, _, rfl, rfl, _, rfl, ?_⟩
    refine ite2 (fun h2 => ?_) (fun h2 => ⟨rfl, rfl⟩)
    refine ⟨_, rfl, a, _, _, _, rfl, rfl, SqL.of hS, rfl, .inl ⟨_, rfl, ?_⟩⟩
    refine ⟨_, rfl, _, _, rfl, rfl, m0, ?_⟩
    refine ⟨_, rfl, a, _, _, _, rfl, rfl, SqL.of hS, rfl, _, rfl, _, _, rfl, rfl, ⟨m0, m1⟩, ?_⟩
    refine ⟨_, rfl, a, _, _, 2, rfl, rfl, hS, rfl, ?_⟩
    refine ⟨_, rfl, a, _, _, _, rfl, rfl, SqL.of upd_same, rfl, _, _, rfl, rfl, ?_⟩
    refine ⟨_, rfl, a, _, _, 4, rfl, rfl, upd_same, rfl, ?_⟩
    refine ⟨_, rfl, k _ _ (md _).1 (md _).2 ⟨ns, p, c / m, z, kk - 1, upd_same, ?_, S.ne, S.p0⟩ ?_⟩
    · rw [upd_ne S.ne, upd_ne S.ne]; exact S.lst
    · exact (But.put a _ _).trans (But.put a _ _)
  rintro σ' H' ⟨rfl, rfl⟩
  refine ⟨_, rfl, a, _, _, _, rfl, rfl, SqL.of hS, rfl, ?_⟩
  refine ⟨_, rfl, a, _, _, _, rfl, rfl, SqL.of hS, rfl, _, _, rfl, rfl, .inl (by decide), _, _, rfl, rfl, ?_⟩
  -- the second if
  refine ⟨fun σ' H1 => (∃ x : Int, σ' = [some (.ref a), some (.int m), none, some (.int x), none]) ∧ H1 = H', ?_, ?_⟩
  · refine ⟨_, rfl, a, _, _, _, rfl, rfl, SqL.of hS, rfl, ?_⟩
    refine ⟨_, rfl, a, _, _, _, rfl, rfl, SqL.of hS, rfl, L, _, rfl, .inl (SqL.of S.lst), _, _, rfl, rfl, _, rfl, ?_⟩
    refine ite2 (fun h1 => ?_) (fun h1 => ⟨⟨_, rfl⟩, rfl⟩)
    have h1' : p < (ns.length : Int) := by have := of_decide_eq_true h1; rw [List.length_map] at this; exact this
    have p0 := S.p0
    have hp : p.toNat < ns.length := by omega
    refine ⟨_, rfl, a, _, _, _, rfl, rfl, SqL.of hS, rfl, ?_⟩
    refine ⟨_, rfl, a, _, _, _, rfl, rfl, SqL.of hS, rfl, L, _, _, .int ns[p.toNat], rfl, rfl, SqL.of S.lst, ?_, ?_⟩
    · exact at_of (j := p.toNat) (by omega) (by rw [List.getElem?_map, List.getElem?_eq_getElem hp]; rfl)
    · exact ⟨⟨_, rfl⟩, rfl⟩
  rintro σ' H1 ⟨⟨x, rfl⟩, rfl⟩
  refine ⟨_, rfl, a, _, _, _, rfl, rfl, SqL.of hS, rfl, _, _, rfl, rfl, ?_⟩
  refine ⟨_, rfl, a, _, _, 1, rfl, rfl, hS, rfl, ?_⟩
  have p0 := S.p0
  have S1 : StAt (upd H1 a (.lst [.ref L, .int (p + 1), .int c, .int z, .int kk])) a L ns (p + 1) c z kk := S.up (by omega)
  have B1 : But a H1 (upd H1 a (.lst [.ref L, .int (p + 1), .int c, .int z, .int kk])) := But.put a _ _
  refine ⟨_, rfl, _, _, rfl, rfl, ⟨by decide, by decide, by decide⟩, _, _, rfl, rfl, _, rfl, ?_⟩
  refine ite2 (fun h1 => ?_) (fun h1 => ?_)
  · refine ⟨_, rfl, _, rfl, _, _, rfl, rfl, ⟨m0, m1⟩, ?_⟩
    refine ⟨_, rfl, a, _, _, 2, rfl, rfl, upd_same, rfl, ?_⟩
    refine ⟨_, rfl, a, _, _, 4, rfl, rfl, upd_same, rfl, ?_⟩
    refine ⟨_, rfl, .inl ⟨_, rfl, ?_⟩⟩
    refine ⟨_, rfl, _, _, rfl, rfl, m0, k _ _ (md _).1 (md _).2 ⟨ns, p + 1, x / m, z, 60, upd_same, ?_, S.ne, by omega⟩ ?_⟩
    · rw [upd_ne S.ne, upd_ne S.ne]; exact S1.lst
    · exact B1.trans ((But.put a _ _).trans (But.put a _ _))
  · refine ⟨_, rfl, _, _, rfl, rfl, .inr (by decide), ?_⟩
    refine ⟨_, rfl, a, _, _, _, rfl, rfl, SqL.of upd_same, rfl, _, _, rfl, rfl, .inr (by decide), _, _, rfl, rfl, ?_⟩
    refine ⟨_, rfl, a, _, _, _, rfl, rfl, SqL.of upd_same, rfl, _, _, rfl, rfl, .inl ⟨_, rfl, ?_⟩⟩
    refine ⟨_, _, rfl, rfl, (by show (0 : Int) < 2147483647; decide), ?_⟩
    refine ⟨_, rfl, _, _, rfl, rfl, .inr (by decide), ?_⟩
    refine ⟨_, rfl, _, rfl, _, _, rfl, rfl, mulF _, _, _, rfl, rfl, _, _, rfl, rfl, .inl ⟨_, rfl, ?_⟩⟩
    refine ⟨_, _, rfl, rfl, (by show (0 : Int) < 2147483629; decide), ?_⟩
    refine ⟨_, rfl, a, _, _, 3, rfl, rfl, upd_same, rfl, ?_⟩
    refine ⟨_, rfl, a, _, _, _, rfl, rfl, SqL.of upd_same, rfl, _, _, rfl, rfl, ⟨by decide, by decide⟩, .inl ⟨_, rfl, ?_⟩⟩
    refine ⟨_, rfl, _, _, rfl, rfl, m0, k _ _ (md _).1 (md _).2 ⟨ns, p + 1, c, _, kk, upd_same, ?_, S.ne, by omega⟩ ?_⟩
    · rw [upd_ne S.ne]; exact S1.lst
    · exact B1.trans (But.put a _ _)
end
end Sx

set_option Elab.async false
set_option linter.all false
set_option maxRecDepth 100000
set_option maxHeartbeats 1000000
namespace Sx
open PySem PySem.Spec PyProof.Rows L2 SxA
/-! ### texts -/
theorem sl_app (a b : Str) : sl (a ++ b) = sl a ++ sl b := by
  show (a.cps ++ b.cps).toList = _
  simp
theorem sl_sg (c : Nat) : sl (sg c) = [c] := rfl
theorem sl_mt : sl (Str.ofString "") = [] := by decide +kernel
theorem len_app (a b : Str) : (a ++ b).length = a.length + b.length := by
  rw [sl_len, sl_len, sl_len, sl_app, List.length_append]
theorem sl_ext {a b : Str} (h : sl a = sl b) : a = b := by
  obtain ⟨a⟩ := a
  obtain ⟨b⟩ := b
  have : a = b := by
    apply Array.ext'
    exact h
  rw [this]
theorem join_sg : ∀ zs : List Nat, sl (Txt.join (Str.ofString "") (zs.map sg)) = zs := by
  intro zs
  have e : Txt.join (Str.ofString "") (zs.map sg) = Str.join (Str.ofString "") (zs.map sg) := eq_of_beq (join_plain_closes _ _)
  rw [e]
  have e0 : Str.ofString "" = ⟨#[]⟩ := by decide +kernel
  rw [e0]
  induction zs with
  | nil => rfl
  | cons c r ih =>
    cases r with
    | nil => rfl
    | cons d r =>
      have e2 : Str.join ⟨#[]⟩ ((c :: d :: r).map sg) = sg c ++ ⟨#[]⟩ ++ Str.join ⟨#[]⟩ ((d :: r).map sg) := rfl
      rw [e2, sl_app, ih (eq_of_beq (join_plain_closes _ _)), sl_app]
      rfl
/-! ### comprehensions with a word of one's own -/
theorem lc_signs {z : Str} {tt : TT} {te : TE} {i0 : Nat} {vs : List Nat} {σ : L2.St} {H1 : Hp} {D : Addr} {Qd : Hp → Prop} (Pv : Nat → Hp → Prop) (h0 : Pv 0 (upd H1 D (.lst [])))
    (hs : ∀ (i c : Nat) (H : Hp), (sl z)[i]? = some c → Pv i H → wipe ((wipe σ vs).set i0 (some (.str (sg c)))) vs = wipe σ vs ∧ tt ((wipe σ vs).set i0 (some (.str (sg c)))) H fun b H3 => if b = true then te ((wipe σ vs).set i0 (some (.str (sg c)))) H3 fun y H4 => ∃ acc, H4 D = some (.lst acc) ∧ acc.length < sizeLine ∧ Pv (i + 1) (upd H4 D (.lst (acc ++ [y]))) else Pv (i + 1) H3)
    (hd : ∀ H, Pv (sl z).length H → Qd H) :
    ∃ W : Nat → Nat → Hp → Prop, (∃ m, W 0 m (upd H1 D (.lst []))) ∧ ∀ i m H, W i m H → ((Its z).stop i H ∧ Qd H) ∨ ((Its z).go i H ∧ ∃ Nx : Hp → Prop, (∀ H', Nx H' → ∃ m', m' < m ∧ W (i + 1) m' H') ∧
      ∀ x H', (Its z).yld i H x H' → (gName i0) x (wipe σ vs) H' fun σ2 H2 => wipe σ2 vs = wipe σ vs ∧ tt σ2 H2 fun b H3 => if b = true then te σ2 H3 fun y H4 => ∃ acc, H4 D = some (.lst acc) ∧ acc.length < sizeLine ∧ Nx (upd H4 D (.lst (acc ++ [y]))) else Nx H3) := by
  have hsz : z.cps.size = (sl z).length := by simp
  refine ⟨fun i m H => m = (sl z).length - i ∧ i ≤ (sl z).length ∧ Pv i H, ⟨(sl z).length, rfl, Nat.zero_le _, h0⟩, ?_⟩
  rintro i m H ⟨rfl, hi, p⟩
  by_cases lt : i < (sl z).length
  · refine .inr ⟨by show i < z.cps.size; omega, Pv (i + 1), fun H' q => ⟨(sl z).length - (i + 1), by omega, rfl, lt, q⟩, ?_⟩
    rintro x H' ⟨rfl, c, hc, rfl⟩
    exact hs i c _ (by rw [Array.getElem?_toList]; exact hc) p
  · have e : i = (sl z).length := by omega
    subst e
    exact .inl ⟨by show z.cps.size ≤ (sl z).length; omega, hd H p⟩
/-- a loop over the signs of a text -/
theorem for_signs {z : Str} {g : TG} {tb : TS} {D : Ends} {σ : L2.St} {H : Hp} (Pv : Nat → L2.St → Hp → Prop) (h0 : Pv 0 σ H)
    (hs : ∀ (i c : Nat) (σ : L2.St) (H : Hp), (sl z)[i]? = some c → Pv i σ H → g (.str (sg c)) σ H fun σ2 H2 => tb { D with nx := Pv (i + 1), ct := Pv (i + 1), bk := D.nx } σ2 H2) (hd : ∀ σ H, Pv (sl z).length σ H → D.nx σ H) :
    ∃ W : Nat → Nat → L2.St → Hp → Prop, (∃ m, W 0 m σ H) ∧ ∀ i m σ H, W i m σ H → ((Its z).stop i H ∧ D.nx σ H) ∨ ((Its z).go i H ∧ ∃ N : L2.St → Hp → Prop, (∀ σ' H', N σ' H' → ∃ m', m' < m ∧ W (i + 1) m' σ' H') ∧
      ∀ v H', (Its z).yld i H v H' → g v σ H' fun σ2 H2 => tb { D with nx := N, ct := N, bk := D.nx } σ2 H2) := by
  have hsz : z.cps.size = (sl z).length := by simp
  refine ⟨fun i m σ H => m = (sl z).length - i ∧ i ≤ (sl z).length ∧ Pv i σ H, ⟨(sl z).length, rfl, Nat.zero_le _, h0⟩, ?_⟩
  rintro i m σ H ⟨rfl, hi, p⟩
  by_cases lt : i < (sl z).length
  · refine .inr ⟨by show i < z.cps.size; omega, Pv (i + 1), fun σ' H' q => ⟨(sl z).length - (i + 1), by omega, rfl, lt, q⟩, ?_⟩
    rintro x H' ⟨rfl, c, hc, rfl⟩
    exact hs i c σ _ (by rw [Array.getElem?_toList]; exact hc) p
  · have e : i = (sl z).length := by omega
    subst e
    exact .inl ⟨by show z.cps.size ≤ (sl z).length; omega, hd σ H p⟩
/-! ### what is drawn -/
def GoodN (o : Option Str) (z : Str) (e : Nat) : Prop := ∀ t, o = some t → sl t ≠ [] ∧ (sl t).Nodup ∧ (∀ c ∈ sl t, c ∈ sl z ∨ c = e) ∧ t.length ≤ 1001
def GoodX (x z : Str) (m : Int) : Prop := 1 ≤ x.length ∧ (x.length : Int) ≤ m ∧ ∀ c ∈ sl x, c ∈ sl z
structure GoodR (r : RD) (z : Str) (n : Int) : Prop where
  mode : 0 ≤ r.mode ∧ r.mode < n
  text : GoodX r.text z 4
  cells : 1 ≤ r.cells.length ∧ r.cells.length ≤ 4 ∧ ∀ c ∈ r.cells, 0 ≤ c ∧ c ≤ 63
  to : 0 ≤ r.to ∧ r.to < n
  ahead : GoodN r.ahead z 94
  behind : GoodN r.behind z 36
def RowT (H : Hp) (v : V) (r : RD) : Prop := ∃ u l, v = .ref u ∧ H u = some (.tup [.int r.mode, .str r.text, .ref l, .int r.to, oV r.ahead, oV r.behind]) ∧ H l = some (.lst (r.cells.map V.int))
theorem RowT.same {H H' : Hp} {v : V} {r : RD} (h : RowT H v r) (s : Same H H') : RowT H' v r := by
  obtain ⟨u, l, e, h1, h2⟩ := h
  exact ⟨u, l, e, s _ _ h1, s _ _ h2⟩
def spPart : Sp := fun vs H Q _ => ∃ (a L : Addr) (z : Str) (m : Int), vs = [.ref a, .str z, .int m] ∧ St H a L ∧ 1 ≤ z.length ∧ z.length ≤ 1000 ∧ 0 < m ∧ m ≤ 1000 ∧ ∀ x H', GoodX x z m → St H' a L → But a H H' → Q (.str x) H'
def spNearL : Sp := fun vs H Q _ => ∃ (a L : Addr) (z : Str) (e : Nat), vs = [.ref a, .str z, .str (sg e)] ∧ St H a L ∧ z.length ≤ 1000 ∧ (sl z).Nodup ∧ e ∉ sl z ∧ ∀ o H', GoodN o z e → St H' a L → But a H H' → Q (oV o) H'
theorem RZat {l : List Nat} {u : Int} (h : u.toNat < l.length) (h0 : 0 ≤ u) : atI l u = some l[u.toNat] := by
  have h2 := atI_nat (xs := l) (j := u.toNat) (List.getElem?_eq_getElem h)
  have e : ((u.toNat : Nat) : Int) = u := by omega
  rw [e] at h2
  exact h2
section
variable {P : Program} {w : World} {K : PySem.W.Frag} {mg : Str → Option Value} {base : Heap}
abbrev nsPart : List Str := ["state", "signs", "most", "text", "_law_turn"]
theorem map_snoc {α β : Type} (f : α → β) (l : List α) (x : α) : (l ++ [x]).map f = l.map f ++ [f x] := by simp
abbrev nsNear : List Str := ["state", "signs", "mark", "text", "sign"]
end
end Sx

set_option Elab.async false
set_option linter.all false
set_option maxRecDepth 100000
set_option maxHeartbeats 1000000
namespace Sx
open PySem PySem.Spec PyProof.Rows L2 SxA
theorem But.none {a b : Addr} {H H' : Hp} {o : HO} (s : But a H H') (h : H' a = some o) (hb : H' b = Option.none) : H b = Option.none := by
  cases e : H b with
  | none => rfl
  | some u =>
    have n : b ≠ a := fun q => by rw [q, h] at hb; cases hb
    rw [s b u e n] at hb
    cases hb
theorem ix_listK {X : Cx} {K : PySem.W.Frag} (h : X.K = K) : IxR X (rIxL K) := by
  subst h
  exact ix_list
theorem ix_tupK {X : Cx} {K : PySem.W.Frag} (h : X.K = K) : IxR X (rIxT K) := by
  subst h
  exact ix_tup
structure GoodZ (z : Str) : Prop where
  l1 : 1 ≤ z.length
  l2 : z.length ≤ 1000
  nd : (sl z).Nodup
  n94 : 94 ∉ sl z
  n36 : 36 ∉ sl z
def spRowL : Sp := fun vs H Q _ => ∃ (a L : Addr) (z : Str) (n : Int), vs = [.ref a, .str z, .int n] ∧ St H a L ∧ GoodZ z ∧ 0 < n ∧ n ≤ 1000 ∧ ∀ v r H', GoodR r z n → RowT (fresh H H') v r → St H' a L → But a H H' → Q v H'
section
variable {P : Program} {w : World} {K : PySem.W.Frag} {mg : Str → Option Value} {base : Heap}
abbrev nsRow : List Str := ["state", "signs", "modes", "cells", "ahead", "behind", "_law_turn"]
theorem at4 (x y : Int) {u : Int} (h0 : 0 ≤ u) (h1 : u < 4) (hx : 0 ≤ x ∧ x ≤ 63) (hy : 0 ≤ y ∧ y ≤ 63) : ∃ c : Int, atI [V.int x, .int 0, .int 63, .int y] u = some (.int c) ∧ 0 ≤ c ∧ c ≤ 63 := by
  have : u = 0 ∨ u = 1 ∨ u = 2 ∨ u = 3 := by omega
  rcases this with rfl | rfl | rfl | rfl
  · exact ⟨x, rfl, hx⟩
  · exact ⟨0, rfl, by decide, by decide⟩
  · exact ⟨63, rfl, by decide, by decide⟩
  · exact ⟨y, rfl, hy⟩
end
end Sx

set_option Elab.async false
set_option linter.all false
set_option maxRecDepth 100000
set_option maxHeartbeats 1000000
namespace Sx
open PySem PySem.Spec PyProof.Rows L2 SxA
def everyL : List Nat := [97, 98, 32, 99, 34, 92, 61, 126, 48, 45]
structure GoodT (d : TD) : Prop where
  nt : sl d.signs ≠ []
  nd : (sl d.signs).Nodup
  all : ∀ c ∈ sl d.signs, c ∈ everyL
  modes : 1 ≤ d.modes ∧ d.modes ≤ 4
  few : d.rules.length ≤ 5
  rules : ∀ r ∈ d.rules, GoodR r d.signs d.modes
theorem nodup_len : ∀ {l m : List Nat}, l.Nodup → (∀ c ∈ l, c ∈ m) → l.length ≤ m.length
  | [], _, _, _ => Nat.zero_le _
  | c :: r, m, h, s => by
    rw [List.nodup_cons] at h
    have hc : c ∈ m := s c (.head _)
    have ih := nodup_len (l := r) (m := m.erase c) h.2 fun d hd => (List.mem_erase_of_ne fun q => h.1 (by rw [← q]; exact hd)).mpr (s d (.tail _ hd))
    have e := List.length_erase_of_mem hc
    have := List.length_pos_of_mem hc
    rw [List.length_cons]
    omega
theorem GoodT.z {d : TD} (g : GoodT d) : GoodZ d.signs := by
  have h := nodup_len g.nd g.all
  have e : everyL.length = 10 := rfl
  refine ⟨?_, by rw [sl_len]; omega, g.nd, fun q => absurd (g.all _ q) (by decide), fun q => absurd (g.all _ q) (by decide)⟩
  rw [sl_len]
  have := g.nt
  cases q : sl d.signs with
  | nil => exact absurd q this
  | cons a r => simp
def RowsL (H : Hp) (l : Addr) (rs : List RD) : Prop := ∃ vs, H l = some (.lst vs) ∧ vs.length = rs.length ∧ ∀ (i : Nat) v r, vs[i]? = some v → rs[i]? = some r → RowT H v r
theorem RowsL.same {H H' : Hp} {l : Addr} {rs : List RD} (h : RowsL H l rs) (s : Same H H') : RowsL H' l rs := by
  obtain ⟨vs, h1, h2, h3⟩ := h
  exact ⟨vs, s _ _ h1, h2, fun i v r a b => (h3 i v r a b).same s⟩
def PartsT (H : Hp) (v : V) (d : TD) : Prop := ∃ u l, v = .ref u ∧ H u = some (.tup [.str d.signs, .int d.modes, .ref l]) ∧ RowsL H l d.rules
theorem PartsT.same {H H' : Hp} {v : V} {d : TD} (h : PartsT H v d) (s : Same H H') : PartsT H' v d := by
  obtain ⟨u, l, e, h1, h2⟩ := h
  exact ⟨u, l, e, s _ _ h1, h2.same s⟩
def spParts : Sp := fun vs H Q _ => ∃ (a L : Addr), vs = [.ref a] ∧ St H a L ∧ ∀ v d H', GoodT d → PartsT (fresh H H') v d → St H' a L → But a H H' → Q v H'
def spTab (K : PySem.W.Frag) : Sp := fun vs H Q _ => ∃ (v : V) (d : TD), vs = [v] ∧ PartsT H v d ∧ d.rules.length ≤ 4000 ∧ ∀ v' H', Same H H' → TableO K (fresh H H') v' d → Q v' H'
def spRows (K : PySem.W.Frag) : Sp := fun vs H Q _ => ∃ (u : Addr) (xs : List V) (j : Nat) (x : V), vs = [.ref u, .int (j : Int), x] ∧ H u = some (.tup xs) ∧ j < xs.length ∧ ∀ p H', H p = none → Same H H' → H' p = some (.tup (xs.set j x)) → Q (.ref p) H'
section
variable {P : Program} {w : World} {K : PySem.W.Frag} {mg : Str → Option Value} {base : Heap}
abbrev nsParts : List Str := ["state", "every", "signs", "sign", "modes", "_law_turn"]
end
end Sx

set_option Elab.async false
set_option linter.all false
set_option maxRecDepth 100000
set_option maxHeartbeats 1000000
namespace Sx
open PySem PySem.Spec PyProof.Rows L2 SxA
section
variable {P : Program} {w : World} {K : PySem.W.Frag} {mg : Str → Option Value} {base : Heap}
theorem ixN_nat {n j : Nat} (h : j < n) : ixN n (j : Int) = some j := by
  unfold ixN
  rw [if_pos (by omega), if_pos (by omega)]
  rfl
end
end Sx

set_option Elab.async false
set_option linter.all false
set_option maxRecDepth 100000
set_option maxHeartbeats 2000000
/-! sep.join(reversed(x)), x a list of texts -/
namespace SxA
open PySem PySem.Spec PyProof.Rows L2
section
variable {prog : Program} {w : World} {A : Around} {E : Value → Shared → Prop} {s : Shared}
theorem call_join_rev {it l : Addr} {items : Array Value} {x : Str} {t : Tok} {ys : List Str} {Q : Value → Shared → Prop} (hh : A.handled = none) (hit : s.heap.IsRevIter it l ((items.size : Int) - 1)) (hl : s.heap.IsList l items) (hne : l ≠ it) (hn : items.size ≤ sizeLine)
    (hs : ∀ acc : Array Value, ItemsOf (fun i v => items[items.size - 1 - i]? = some v) acc items.size → StrsAre acc.toList ys) (hok : (ys.map (·.length)).sum + ys.length * x.length ≤ 16777216)
    (hQ : ∀ (h' : Heap) (tk : Nat) (u : Tok), (∀ b o, b ≠ it → s.heap.get? b = some o → h'.get? b = some o) → Q (.str (Txt.join x ys) u) { s with heap := h', toks := tk }) :
    wpAny (model prog w) A (call (.builtin "str.join") [.str x t, .ref it]) Q E s := by
  have hT : s.TypeIs (.ref it) "list_reverseiterator" := hit.typeIs
  have hh1 : A.in1.in1.handled = none := hh
  refine wpAny_call (codeAny_call_builtin F.slot_str_join.plain F.entry_str_join (F.slot_str_join.check _ _ _ _ _ _ _ _ (typeIs_str _ _ _) (F.args_str_join_2 _ _) ?_))
  rw [join_tree_other]
  refine wpAny_bind (wpAny_typeOf hT ?_)
  show wpAny _ A.in1 ((pyIter (.ref it)).tryCatch _ >>= fun i2 => collect i2 >>= fun found => joinTail x found) _ _ s
  refine wpAny_bind (wpAny_tryCatch (wpAny_pyIter_revIter hit ?_))
  refine wpAny_bind (RT.collect_rev (A := A.in1) hh hit hl hne hn fun h' tk acc hk hacc => ?_)
  obtain ⟨lv, e1, e2⟩ := strsAre_values (hs acc hacc)
  rw [e1]
  have j1 : JoinOk x (lv.map (·.1)) = true := by rw [e2]; exact joinOk_of hok
  have j2 := j1
  unfold JoinOk at j2
  rw [Bool.not_eq_true'] at j2
  have g : Gives (joinTail x (strValues lv)) (joinMade x lv) := by
    have g1 := gives_joinTail x lv j2
    cases lv with
    | nil => exact g1
    | cons p r => cases r with
      | nil => exact g1
      | cons p2 r2 => exact g1
  exact g prog w A (wants Q E) _ (post_join lv ⟨joinFit_length j2, fun u k => by rw [e2]; exact hQ h' k u hk⟩)
end
def tJoinRev (K : PySem.W.Frag) (to te : TE) : TE := fun σ H Q => to σ H fun x H1 => (∃ a, x = .str a) ∧ te σ H1 fun v H2 => ∃ (a : Str) (l : Addr) (ys : List Str), x = .str a ∧ v = .ref l ∧ SqL K H2 l (ys.map V.str) ∧ (ys.map (·.length)).sum + ys.length * a.length ≤ 16777216 ∧ Q (.str (Txt.join a ys.reverse)) H2
theorem pe_joinRev {X : Cx} {o e : Expr} {to te : TE} {apos pos p2 pos2 : Pos} (hg2 : Gl X "reversed") (hm2 : X.mg "reversed" = none) (ho : PE X o to) (he : PE X e te) (hc : X.calm = true := by rfl)
    (hs : starEach [.Call (.Name "reversed" p2) [e] [] pos2] X.env = [(false, eval (.Call (.Name "reversed" p2) [e] [] pos2) X.env)] := by rfl)
    (hs2 : starEach [e] X.env = (false, eval e X.env) :: starEach [] X.env := by rfl)
    (hbase : attributeBase o "join" X.env (eval o X.env) = eval o X.env := by rfl) (hline : (apos.endLine == pos.line) = true := by rfl) :
    PE X (.Call (.Attribute o "join" apos) [.Call (.Name "reversed" p2) [e] [] pos2] [] pos) (tJoinRev X.K to te) := by
  refine ⟨fun pins s σ H Q I h => ?_⟩
  refine PySem.Call_method1 hbase hs hline (thn (ho.run pins s σ H _ I h) fun v s1 ⟨x, H1, I1, r1, q1⟩ => ?_)
  obtain ⟨⟨a, rfl⟩, q1⟩ := q1
  obtain ⟨t, rfl⟩ := _root_.id r1
  refine ⟨"str", _, F.plainAttrs_str, F.slot_str_join, F.type_str_join, typeIs_str _ _ _, (fun _ e => nomatch e), Calls.callWith_builtin rfl (Calls.evalArgs_plain (Calls.spliced_cons ?_))⟩
  refine Call_ (ld_blt I1 hg2 hm2 PyProof.Rows.boot_reversed (PyProof.Rows.callWith_type1 (args_cons (thn (he.run pins s1 σ H1 _ I1 q1) fun u s2 ⟨y, H2, I2, r2, q2⟩ => args_nil ?_) hs2) hs2 rfl))
  obtain ⟨a', l, ys, ex, rfl, hq, hz, q⟩ := q2
  cases ex
  obtain rfl : u = Value.ref l := r2
  obtain ⟨its, rv, p', hlen⟩ := I2.list hq
  refine call_reversed_list p'.isList (Calls.spliced_nil ?_)
  have k0 : ∀ b o, s2.heap.get? b = some o → (s2.heap.push (revObj l ((its.toArray.size : Int) - 1))).get? b = some o := fun b o e => Heap.get?_push_of_some _ e
  have I3 : Inv X pins σ H2 { s2 with heap := s2.heap.push (revObj l ((its.toArray.size : Int) - 1)) } := I2.kept (t' := s2.toks) k0
  obtain ⟨f0, f1, f2, f3, f4, f5⟩ := I2.fpOk (H' := H2) (b := s2.heap.objs.size) (Nat.le_refl _) (I2.hok.fresh (Nat.le_refl _))
  have hl := p'.isList
  obtain ⟨ol, hol, _⟩ := id hl
  have hne : l ≠ s2.heap.objs.size := Nat.ne_of_lt (Heap.lt_size hol)
  have hn : its.toArray.size ≤ sizeLine := by rw [List.size_toArray, ← rv.length]; exact hlen
  refine call_join_rev (ys := ys.reverse) (s := { s2 with heap := s2.heap.push (revObj l ((its.toArray.size : Int) - 1)) }) (I2.ok.hd hc) ⟨_, Heap.get?_push_size _ rfl, rfl, rfl⟩ (hl.push _) hne hn (fun acc ha => ?_) (by rw [List.map_reverse, List.sum_reverse, List.length_reverse]; exact hz) fun h' tk u hk => ?_
  · have r2 := RT.vals_rev rv ha
    rw [← List.map_reverse] at r2
    exact strs_of_vals r2
  · have I4 : Inv X pins σ H2 { s2 with heap := h', toks := tk } := I3.turned (t' := tk) (fun b o hb e => hk b o hb e) f0 f1 f3 f4 f5
    exact ⟨.str _, H2, I4, ⟨u, rfl⟩, q⟩
end SxA

set_option Elab.async false
set_option linter.all false
set_option maxRecDepth 100000
set_option maxHeartbeats 2000000
namespace Sx
open PySem PySem.Spec PyProof.Rows L2 SxA SxK
/-! ### the digits of a number of at most ten -/
def spNumberWord : Sp := fun vs H Q _ => ∃ (n : Int), vs = [.int n] ∧ (0 ≤ n ∧ n < 10 ^ 10) ∧ ∀ H', Same H H' → Q (.str (Str.ofString (toString n))) H'
theorem nw_log {l : Int} (h0 : 0 ≤ l) (h : l < 10 ^ 10) : l.natAbs.log2 < 1920 := by
  by_cases n : l.natAbs = 0
  · rw [n]; decide
  · exact (Nat.log2_lt n).mpr (Nat.lt_of_lt_of_le (show l.natAbs < 10 ^ 10 by omega) (by decide))
section
variable {P : Program} {w : World} {K : PySem.W.Frag} {mg : Str → Option Value} {base : Heap}
abbrev nsNumberWord : List Str := ["number", "parts", "rest", "part"]
theorem scNumberWord : FnScope nsNumberWord ["number"] (defScope sNumberWord) := ⟨rfl, rfl, rfl, by decide +kernel, rfl, by decide +kernel, by decide +kernel⟩
theorem ok_number_word (t : T K mg) : Ok P w K mg base 1 "number_word" ["number"] spNumberWord := by
  refine mkOk t.d_number_word t.g_number_word scNumberWord (fun vs H Q E h => ?_) (fun _ _ _ _ _ _ us hl => match us, hl with | [_], _ => rfl) fun cdv A outer s H vs Q E hr h => ?_
  · obtain ⟨n, rfl, _⟩ := h; rfl
  obtain ⟨n, rfl, hn, k⟩ := h
  obtain ⟨kP, iP⟩ := t.i_PART
  obtain ⟨kD, iD⟩ := t.i_PART_DIGITS
  refine ⟨_, pss_cons (ps_set (i := 1) scNumberWord.nd rfl (Or.inl rfl) (pe_lst pa_nil))
    (pss_cons (ps_set (i := 2) scNumberWord.nd rfl (Or.inl rfl) (pe_callB call_abs rfl t.f_abs (by decide +kernel) (pa_cons (pv 0) pa_nil)))
    (pss_cons (ps_while PassesOwn.never (pt_cmpR op_ge (pv 2) (pgi rfl iP) (nomark _))
      (pss_cons (ps_asg (pe_callB call_divmod rfl t.f_divmod (by decide +kernel) (pa_cons (pv 2) (pa_cons (pgi rfl iP) pa_nil))) (pg_tup rfl (pgs_cons (pg_name (i := 2) scNumberWord.nd rfl (Or.inl rfl)) (pgs_cons (pg_name (i := 3) scNumberWord.nd rfl (Or.inl rfl)) pgs_nil))))
    (pss_one (ps_expr (pe_bm PySem.F.plainAttrs_list PySem.F.slot_list_append PySem.F.type_list_append mt_append (pv 1) (pa_cons (pe_bm PySem.F.plainAttrs_str PySem.F.slot_str_zfill PySem.F.type_str_zfill mt_zfill (pe_callTy call_str_int rfl t.f_str (by decide +kernel) (pa_cons (pv 3) pa_nil)) (pa_cons (pgi rfl iD) pa_nil)) pa_nil))))))
    (pss_cons (ps_expr (pe_bm PySem.F.plainAttrs_list PySem.F.slot_list_append PySem.F.type_list_append mt_append (pv 1) (pa_cons (pe_callTy call_str_int rfl t.f_str (by decide +kernel) (pa_cons (pv 2) pa_nil)) pa_nil)))
    (pss_cons (ps_if (pt_cmpR op_lt (pv 0) pe_int (nomark _))
      (pss_one (ps_expr (pe_bm PySem.F.plainAttrs_list PySem.F.slot_list_append PySem.F.type_list_append mt_append (pv 1) (pa_cons pe_str pa_nil))))
      pss_nil)
    (pss_one (ps_ret (pe_joinRev rfl t.f_reversed pe_str (pv 1)))))))), ?_⟩
  have l10 : n.natAbs.log2 < 1920 := nw_log hn.1 hn.2
  have tl : (Str.ofString (toString n)).length ≤ 10 := toString_length_le hn.1 (by decide) hn.2
  refine ⟨(by show 0 ≤ sizeLine; decide), fun D hD => ?_⟩
  refine ⟨_, rfl, n, rfl, ?_⟩
  rw [if_neg (show ¬ n < 0 by omega)]
  refine ⟨fun μ σ' H' => σ' = [some (.int n), some (.ref D), some (.int n), none] ∧ H' = upd H D (.lst []), ⟨0, rfl, rfl⟩, ?_⟩
  rintro μ σ' H' ⟨rfl, rfl⟩
  refine ⟨_, rfl, _, _, rfl, rfl, _, rfl, ite2 (fun h1 => ?_) (fun h1 => ?_)⟩
  · exfalso
    have h2 : (10000000000000000000000000000000000000000000000000000000000000000 : Int) ≤ n := of_decide_eq_true h1
    omega
  refine ⟨_, rfl, .inl ⟨rfl, _, SqL.of upd_same⟩, _, rfl, n, rfl, l10, D, _, _, rfl, rfl, upd_same, (by show 0 < sizeLine; decide), ?_⟩
  refine ⟨_, rfl, _, _, rfl, rfl, _, rfl, ite2 (fun h2 => ?_) (fun h2 => ?_)⟩
  · exfalso
    have h3 : n < 0 := of_decide_eq_true h2
    omega
  have ej : Txt.join (Str.ofString "") [Str.ofString (toString n)] = Str.ofString (toString n) := by first | rfl | simp [Txt.join]
  refine ⟨⟨_, rfl⟩, _, rfl, _, D, [Str.ofString (toString n)], rfl, rfl, SqL.of upd_same, ?_, ?_⟩
  · show ([Str.ofString (toString n)].map (·.length)).sum + 1 * (Str.ofString "").length ≤ 16777216
    have e0 : (Str.ofString "").length = 0 := rfl
    rw [e0, List.map_cons, List.map_nil, List.sum_cons, List.sum_nil]
    omega
  · show Q (.str (Txt.join (Str.ofString "") [Str.ofString (toString n)])) _
    rw [ej]
    exact k _ (Same.put (Same.new hD) hD)
end
end Sx

set_option Elab.async false
set_option linter.all false
set_option maxRecDepth 100000
set_option maxHeartbeats 2000000
namespace Sx
open PySem PySem.Spec PyProof.Rows L2 SxA SxK
/-! ### TextError(line, column, reason) -/
/-- made: a new dict with the three -/
def erD (l c : Int) (r : Str) : List (Str × V) := [("reason", .str r), ("column", .int c), ("line", .int l)]
def spInit (K : PySem.W.Frag) : Sp := fun vs H Q _ => ∃ (a : Addr) (l c : Int) (r : Str), vs = [.ref a, .int l, .int c, .str r] ∧ H a = some (exo a (He.ga K "TextError") none) ∧ (0 ≤ l ∧ l < 10 ^ 10) ∧ (0 ≤ c ∧ c < 10 ^ 10) ∧ r.length ≤ 100 ∧
  ∀ H1 d, Same H H1 → H1 d = none → d ≠ a → Q .non (upd (upd H1 a (exo a (He.ga K "TextError") (some d))) d (exd d (erD l c r)))
theorem zText : ScSup (defScope sTextErrorInit) ["self", "line", "column", "reason"] := ⟨rfl, rfl, rfl, by decide +kernel, by decide +kernel, by decide +kernel, by decide +kernel, by decide +kernel, by decide +kernel⟩
theorem lg10 {l : Int} (h0 : 0 ≤ l) (h : l < 10 ^ 10) : l.natAbs.log2 < 1920 := by
  by_cases n : l.natAbs = 0
  · rw [n]; decide
  · exact (Nat.log2_lt n).mpr (Nat.lt_of_lt_of_le (show l.natAbs < 10 ^ 10 by omega) (by decide))
theorem app_len (a b : Str) : (a ++ b).length = a.length + b.length := by
  show (a.cps ++ b.cps).size = _
  rw [Array.size_append]
  rfl
section
variable {P : Program} {w : World} {K : PySem.W.Frag} {mg : Str → Option Value} {base : Heap}
theorem ok_init (t : T K mg) (er : ErrC P K mg xTextError) : ∃ fd, FnOk P w K mg base (L2.CX P w) 2 (xTextError.I K) fd ["self", "line", "column", "reason"] (spInit K) ∧ Binds K fd ["self", "line", "column", "reason"] [] := by
  obtain ⟨cc, cda, fd, S⟩ := er.sup
  refine ⟨fd, ?_, ?_⟩
  · refine fn_sup (k := 1) (CX := L2.CX P w) S zText rfl rfl (fun vs H Q E h => ?_) (fun A outer s H vs Q E hr h => ?_) (fun _ => rfl) (fun _ => rfl) (fun _ => rfl) (fun _ => rfl)
    · obtain ⟨a, l, c, r, rfl, _⟩ := h
      rfl
    · obtain ⟨a, l, c, r, rfl, ha, hl, hc, hr1, hq⟩ := h
      refine ⟨_, _, a, _, pa_cons (pe_joined (.cons pe_str (.cons (pe_fmt (pe_ok (ok_number_word t) hr rfl (pa_cons (pv 1) pa_nil))) (.cons pe_str (.cons (pe_fmt (pe_ok (ok_number_word t) hr rfl (pa_cons (pv 2) pa_nil))) (.cons pe_str (.cons (pe_fmt (pv 3)) .nil))))))) pa_nil,
        pss_cons (ps_ost (pv 0) (pv 1)) (pss_cons (ps_ost (pv 0) (pv 2)) (pss_one (ps_ost (pv 0) (pv 3)))), rfl, ha, ?_⟩
      have tl : (Str.ofString (toString l)).length ≤ 10 := toString_length_le hl.1 (by decide) hl.2
      have tc : (Str.ofString (toString c)).length ≤ 10 := toString_length_le hc.1 (by decide) hc.2
      have e0 : Str.empty.length = 0 := rfl
      have e1 : (Str.ofString "line ").length = 5 := by decide +kernel
      have e2 : (Str.ofString ", column ").length = 9 := by decide +kernel
      have e3 : (Str.ofString ": ").length = 2 := by decide +kernel
      refine ⟨_, rfl, (by rw [app_len, e0, e1, sizeLine_eq]; omega), ?_⟩
      refine ⟨_, rfl, l, rfl, hl, fun H1 s1 => .inl ⟨_, rfl, (by rw [sizeLine_eq]; omega), _, rfl, (by rw [app_len, app_len, e0, e1, sizeLine_eq]; omega), ?_⟩⟩
      refine ⟨_, rfl, (by rw [app_len, app_len, app_len, e0, e1, e2, sizeLine_eq]; omega), ?_⟩
      refine ⟨_, rfl, c, rfl, hc, fun H2 s2 => .inl ⟨_, rfl, (by rw [sizeLine_eq]; omega), _, rfl, (by rw [app_len, app_len, app_len, app_len, e0, e1, e2, sizeLine_eq]; omega), ?_⟩⟩
      have s12 : Same H H2 := s1.trans s2
      have ha2 := s12 _ _ ha
      refine ⟨_, rfl, (by rw [app_len, app_len, app_len, app_len, app_len, e0, e1, e2, e3, sizeLine_eq]; omega), ?_⟩
      refine ⟨_, rfl, .inl ⟨r, rfl, (by rw [sizeLine_eq]; omega), _, rfl, (by rw [app_len, app_len, app_len, app_len, app_len, app_len, e0, e1, e2, e3, sizeLine_eq]; omega), ?_⟩⟩
      refine ⟨(by show 1 ≤ 1000; decide), ha2, ?_⟩
      have hn : ∀ f ∈ xTextError.ats, PySem.W.findIn K (.ref (He.ga K "TextError")) f = some none := er.ats
      refine ⟨_, rfl, _, rfl, a, _, rfl, S.ex, hn "line" (by decide), .inl ⟨ha2, fun dx hdx ne => ?_⟩⟩
      refine ⟨_, rfl, _, rfl, a, _, rfl, S.ex, hn "column" (by decide), .inr ⟨dx, _, upd_same, (by rw [upd_ne ne]; exact upd_same), (by show 1 ≤ 900; decide), ?_⟩⟩
      refine ⟨_, rfl, _, rfl, a, _, rfl, S.ex, hn "reason" (by decide), .inr ⟨dx, _, (by rw [upd_ne ne.symm]; exact upd_same), upd_same, (by show 2 ≤ 900; decide), ?_⟩⟩
      have q := hq H2 dx s12 hdx ne
      have eH : ∀ (o1 o2 o3 o4 : HO), upd (upd (upd (upd H2 dx o1) a o4) dx o2) dx o3 = upd (upd H2 a o4) dx o3 := fun o1 o2 o3 o4 => funext fun b => by
        by_cases hb : b = dx
        · subst hb
          rw [upd_same, upd_same]
        · rw [upd_ne hb, upd_ne hb, upd_ne hb]
          by_cases hb2 : b = a
          · subst hb2
            rw [upd_same, upd_same]
          · rw [upd_ne hb2, upd_ne hb2, upd_ne hb]
      show Q .non _
      rw [eH]
      exact q
  · obtain ⟨oc, od, kV, doc, pm, an, ct, osl, efd, hf⟩ := S.fn
    subst efd
    intro s us _ hl
    rw [List.append_nil] at hl ⊢
    match us, hl with
    | [_, _, _, _], _ => exact .of_eq rfl
end
end Sx

set_option Elab.async false
set_option linter.all false
set_option maxRecDepth 100000
set_option maxHeartbeats 1000000
namespace Sx
open PySem PySem.Spec PyProof.Rows L2 SxA SxK
/-! ### a def that may raise -/
def OkX (P : Program) (w : World) (K : PySem.W.Frag) (mg : Str → Option Value) (base : Heap) (k : Nat) (x : Str) (ps : List Str) (sp : Sp) : Prop :=
  ∃ fd, FnOk P w K mg base (L2.CX P w) k (He.ga K x) fd ps sp ∧ Binds K fd ps [] ∧ PySem.W.keepIn K (.ref (He.ga K x)) = true ∧ mg x = some (.ref (He.ga K x))
section
variable {P : Program} {w : World} {K : PySem.W.Frag} {mg : Str → Option Value} {base : Heap}
theorem mkOkX {x : Str} {st : Stmt} {N ps : List Str} {k : Nat} {sp : Sp} (d : Fd K x st) (hx : mg x = some (.ref (He.ga K x))) (S : FnScope N ps (defScope st)) (len : ∀ vs H Q E, sp vs H Q E → vs.length = ps.length)
    (bnd : ∀ (kV doc pm : Value) (an : Option Addr) (cdv ct : Value) (us : List Value), us.length = ps.length → bindArgs (PySem.W.fnOf x x (defArgs st) (defBody st) (defScope st) .none kV doc pm an cdv ct) ⟨us, []⟩ = pure (ps.zip us))
    (body : ∀ (cdv : Value) (A : Around) (outer : List Env) (s : Shared) (H0 : Hp) (vs : List V) (Q : VK) (E : XK), Room k (A.deeper (envOfC x (defScope st) s.heap.objs.size (He.ga K x) cdv)) → sp vs H0 Q E →
      ∃ t, PSs (cxOf (L2.CX P w) P w K mg base N x (defScope st) (He.ga K x) cdv A outer s H0 E) (defBody st) t ∧ t { nx := fun _ H' => Q .non H', rt := Q } (start N vs) H0) : OkX P w K mg base (k + 1) x ps sp := by
  obtain ⟨fd, F⟩ := d
  exact ⟨fd, F.ok S len body, F.bindsN bnd, F.kp, hx⟩
theorem pe_okX {X : Cx} {W : WX} {k : Nat} {x : Str} {ps : List Str} {sp : Sp} {p pos : Pos} {e : Expr} {es : List Expr} {t : TA} (o : OkX X.prog X.w X.K X.mg X.base k x ps sp) (hr : Room k X.A) (hg : Gl X x) (tk : Takes X W) (ha : PA X (e :: es) t)
    (hdb : (x == ("__debug__" : Str)) = false := by decide) (hs : starEach (e :: es) X.env = (false, eval e X.env) :: starEach es X.env := by rfl) (hpl : ((backTo pos (starEach es X.env)).any (·.1)) = false := by rfl) :
    PE X (.Call (.Name x p) (e :: es) [] pos) (tCallS sp (WE W) t) := by
  obtain ⟨fd, F, b, kp, hm⟩ := o
  exact pe_callS F hr hg hm kp b (fun σ => passAt tk σ) ha hdb hs hpl
/-- what a TextError lets be known -/
def Er (K : PySem.W.Frag) (E : XK) (H : Hp) (l c : Int) (r : Str) : Prop := ∀ d H', Same H H' → H' d = some (.xd (erD l c r)) → E (.ref (He.ga K "TextError")) (some d) H'
theorem Er.same {E : XK} {H H2 : Hp} {l c : Int} {r : Str} (e : Er K E H l c r) (s : Same H H2) : Er K E H2 l c r := fun d H' s2 h => e d H' (s.trans s2) h
theorem pmk_text {X : Cx} {k : Nat} {p pos : Pos} {a : Expr} {as : List Expr} {ta : TA} (t : T X.K X.mg) (er : ErrC X.prog X.K X.mg xTextError) (hr : Room (k + 3) X.A) (hg : Gl X "TextError") (ha : PA X (a :: as) ta)
    (he : starEach (a :: as) X.env = (false, eval a X.env) :: starEach as X.env := by rfl) (hpl : (backTo pos (starEach as X.env)).any (·.1) = false := by rfl) :
    PMk X (.Call (.Name "TextError" p) (a :: as) [] pos) (tMkO (He.ga X.K "TextError") (spInit X.K) [] ta) := by
  obtain ⟨fd, F, b⟩ := ok_init (w := X.w) (base := X.base) t er
  obtain ⟨cc, cda, fd2, S⟩ := er.sup
  exact pmk_oex (k := 2) S.ex S.iC S.tI F (hr.mono (by omega)) b .nil (fun pins σ H s e s' I c => by
    obtain ⟨_, _, _, _, _, _, _, _, _, _, _, _, z⟩ := c
    exact z.elim) hg er.glob ha (by decide) he hpl
/-- the reading behind its arguments -/
theorem mk_err {H : Hp} {l c : Int} {r : Str} {Q : XK} (hl : 0 ≤ l ∧ l < 10 ^ 10) (hc : 0 ≤ c ∧ c < 10 ^ 10) (hr : r.length ≤ 100) (q : Er K Q H l c r) :
    [V.int l, V.int c, V.str r].length ≤ 1000 ∧ ∀ a, H a = none → spInit K (.ref a :: ([V.int l, V.int c, V.str r] ++ [])) (upd H a (exo a (He.ga K "TextError") none))
      (fun v H2 => v = .non ∧ ∃ (d : Addr) (fs : List (Str × V)), H2 a = some (exo a (He.ga K "TextError") (some d)) ∧ H2 d = some (exd d fs) ∧ H d = none ∧ Q (.ref (He.ga K "TextError")) (some d) (upd (del H2 a) d (.xd fs))) (fun _ _ _ => False) := by
  refine ⟨(by show 3 ≤ 1000; decide), fun a ha => ⟨a, l, c, r, rfl, upd_same, hl, hc, hr, fun H1 d s1 hd ne => ?_⟩⟩
  have hd0 : H d = none := by
    have e := s1.free hd
    rw [upd_ne ne] at e
    exact e
  refine ⟨rfl, d, erD l c r, by rw [upd_ne ne.symm]; exact upd_same, upd_same, hd0, ?_⟩
  refine q d _ (fun b o hb => ?_) upd_same
  have b1 : b ≠ d := ne_of_none hb hd0
  have b2 : b ≠ a := ne_of_none hb ha
  rw [upd_ne b1, del_ne b2, upd_ne b1, upd_ne b2]
  exact s1 b o (by rw [upd_ne b2]; exact hb)
/-! ### check_signs -/
def spCheck (K : PySem.W.Frag) : Sp := fun vs H Q E => ∃ (z : Str) (n : Int), vs = [.str z, .int n] ∧ (0 ≤ n ∧ n < 10 ^ 10) ∧ z.length ≤ 1000000 ∧ ((∀ c ∈ sl z, signB c = true) → ∀ H', Same H H' → Q .non H') ∧
  ∀ (i c : Nat), (sl z)[i]? = some c → signB c = false → (∀ j b : Nat, j < i → (sl z)[j]? = some b → signB b = true) → Er K E H n ((i : Int) + 1) "sign"
abbrev nsCheck : List Str := ["line", "number", "at", "character"]
theorem scCheck : FnScope nsCheck ["line", "number"] (defScope sCheckSigns) := ⟨rfl, rfl, rfl, by decide +kernel, rfl, by decide +kernel, by decide +kernel⟩
theorem ok_check (t : T K mg) (er : ErrC P K mg xTextError) : OkX P w K mg base 4 "check_signs" ["line", "number"] (spCheck K) := by
  refine mkOkX t.d_check_signs t.g_check_signs scCheck (fun vs H Q E h => ?_) (fun _ _ _ _ _ _ us hl => match us, hl with | [_, _], _ => rfl) fun cdv A outer s H vs Q E hr h => ?_
  · obtain ⟨z, n, rfl, _⟩ := h; rfl
  obtain ⟨z, n, rfl, hn, hz, kq, ke⟩ := h
  refine ⟨_, pss_one (ps_for (passes_of rfl) rfl (pi_enumT rfl t.f_enumerate (pa_cons (pv 0) pa_nil)) (pg_tup rfl (pgs_cons (pg_name (i := 2) scCheck.nd rfl (Or.inl rfl)) (pgs_cons (pg_name (i := 3) scCheck.nd rfl (Or.inl rfl)) pgs_nil)))
    (pss_one (ps_if (pt_not (pt_truthK (K := K) rfl (pe_ok (ok_sign t) (hr.mono (by decide)) rfl (pa_cons (pv 3) pa_nil))))
      (pss_one (ps_raise rfl (takes_of rfl rfl rfl rfl) (pmk_text (k := 0) t er hr rfl (pa_cons (pv 1) (pa_cons (pe_op op_add (pv 2) pe_int) (pa_cons pe_str pa_nil)))))) pss_nil))), ?_⟩
  refine ⟨_, rfl, z, rfl, ?_⟩
  refine for_enumT (z := z) (fun i σ' H' => (∃ x y, σ' = [some (V.str z), some (V.int n), x, y]) ∧ Same H H' ∧ ∀ j b : Nat, j < i → (sl z)[j]? = some b → signB b = true) ⟨⟨none, none, rfl⟩, Same.refl _, fun j b hj => absurd hj (Nat.not_lt_zero _)⟩ ?_ ?_
  · rintro i c T σ' H' hc ⟨⟨x, y, rfl⟩, sm, good⟩ hT
    have s1 : Same H (upd H' T (.tup [.int (i : Nat), .str (sgn c)])) := Same.put sm (sm.free hT)
    refine ⟨T, _, rfl, SqT.of upd_same, rfl, ?_⟩
    refine ⟨_, _, rfl, ?_⟩
    refine ⟨_, _, rfl, rfl, ?_⟩
    refine ⟨_, rfl, c, rfl, signB c, rfl, ?_⟩
    refine ite2 (fun hb => ?_) (fun hb => ?_)
    · have hb' : signB c = false := by
        cases q : signB c with
        | false => rfl
        | true => rw [q] at hb; exact absurd hb (by decide)
      have ilt : i < z.length := by
        rw [sl_len]
        exact (List.getElem?_eq_some_iff.mp hc).1
      refine ⟨_, rfl, _, rfl, _, _, rfl, rfl, mk_err hn (by constructor <;> omega) (by decide) ((ke i c hc hb' good).same s1)⟩
    · have hb' : signB c = true := by
        cases q : signB c with
        | true => rfl
        | false => rw [q] at hb; exact absurd rfl hb
      refine ⟨⟨_, _, rfl⟩, s1, fun j b hj hjb => ?_⟩
      rcases Nat.lt_succ_iff_lt_or_eq.mp hj with h1 | h1
      · exact good j b h1 hjb
      · subst h1
        have e : (sl z)[j]? = some c := hc
        rw [e] at hjb
        cases hjb
        exact hb'
  · rintro σ' H' ⟨_, sm, good⟩
    exact kq (fun c hc => by
      obtain ⟨j, hj, rfl⟩ := List.mem_iff_getElem.mp hc
      exact good j _ hj (List.getElem?_eq_getElem hj)) H' sm
end
end Sx

set_option Elab.async false
set_option linter.all false
set_option maxRecDepth 100000
set_option maxHeartbeats 1000000
namespace Sx
open PySem PySem.Spec PyProof.Rows L2 SxA SxK
theorem sgEq {a b : Nat} (h : sg a = sg b) : a = b := by
  have e : (#[a] : Array Nat) = #[b] := congrArg Str.cps h
  simpa using e
theorem beq_sg (a b : Nat) : (V.str (sg a) = V.str (sg b)) ↔ a = b := ⟨fun h => sgEq (V.str.inj h), fun h => by rw [h]⟩
theorem big6 {n : Nat} (h : n ≤ 1000000) : n ≤ sizeLine := Nat.le_trans h (by decide)
theorem inVg (c a b : Nat) (k1 k2 : Str) (h1 : k1 = sg a) (h2 : k2 = sg b) : inV (.str (sg c)) [.str k1, .str k2] = (decide (c = a) || decide (c = b)) := by
  subst h1 h2
  have e : ∀ d : Nat, eqV (.str (sg d)) (.str (sg c)) = decide (c = d) := fun d => by
    show (sg d == sg c) = decide (c = d)
    by_cases h : c = d
    · subst h; simp
    · rw [decide_eq_false h]
      exact beq_eq_false_iff_ne.mpr fun q => h (sgEq q).symm
  unfold inV
  rw [List.any_cons, List.any_cons, List.any_nil, e, e, Bool.or_false]
theorem at_sl {z : Str} {i c : Nat} (h : (sl z)[i]? = some c) : atI (sl z) (i : Int) = some c := atI_nat (j := i) h
/-! ### what a line's pieces are -/
/-- the place behind a plain piece -/
structure EndP (l : List Nat) (i j : Nat) : Prop where
  le : i ≤ j
  top : j ≤ l.length
  mid : ∀ k c : Nat, i ≤ k → k < j → l[k]? = some c → c ≠ 32 ∧ c ≠ 34
  stop : ∀ c : Nat, l[j]? = some c → c = 32 ∨ c = 34
inductive QR where
  | close (e : Nat)
  | over
  | bad (col : Nat)
/-- within a quoted string, from the place at -/
inductive Quo (l : List Nat) : Nat → List Nat → QR → Prop where
  | close {at_ : Nat} : l[at_]? = some 34 → Quo l at_ [] (.close at_)
  | over : Quo l l.length [] .over
  | esc {at_ c : Nat} {t : List Nat} {r : QR} : l[at_]? = some 92 → l[at_ + 1]? = some c → c = 34 ∨ c = 92 → Quo l (at_ + 2) t r → Quo l at_ (c :: t) r
  | bad {at_ c : Nat} : l[at_]? = some 92 → l[at_ + 1]? = some c → c ≠ 34 → c ≠ 92 → Quo l at_ [] (.bad (at_ + 1))
  | last {at_ : Nat} {t : List Nat} {r : QR} : l[at_]? = some 92 → at_ + 1 = l.length → Quo l (at_ + 1) t r → Quo l at_ (92 :: t) r
  | sign {at_ c : Nat} {t : List Nat} {r : QR} : l[at_]? = some c → c ≠ 34 → c ≠ 92 → Quo l (at_ + 1) t r → Quo l at_ (c :: t) r
/-- the column that an error of quoted_from names -/
def QR.col (start : Nat) : QR → Option Nat
  | .close _ => none
  | .over => some (start + 1)
  | .bad c => some c
/-- a piece: quoted?, its signs, its column -/
structure Pc where
  quo : Bool
  txt : List Nat
  col : Nat
inductive Lex (l : List Nat) : Nat → List Pc → Option Nat → Prop where
  | done : Lex l l.length [] none
  | space {at_ : Nat} {ps : List Pc} {e : Option Nat} : l[at_]? = some 32 → Lex l (at_ + 1) ps e → Lex l at_ ps e
  | quoted {at_ en : Nat} {t : List Nat} {ps : List Pc} {e : Option Nat} : l[at_]? = some 34 → Quo l (at_ + 1) t (.close en) → Lex l (en + 1) ps e → Lex l at_ (⟨true, t, at_ + 1⟩ :: ps) e
  | err {at_ col : Nat} {t : List Nat} {r : QR} : l[at_]? = some 34 → Quo l (at_ + 1) t r → r.col at_ = some col → Lex l at_ [] (some col)
  | plain {at_ j c : Nat} {ps : List Pc} {e : Option Nat} : l[at_]? = some c → c ≠ 32 → c ≠ 34 → EndP l at_ j → Lex l j ps e → Lex l at_ (⟨false, (l.drop at_).take (j - at_), at_ + 1⟩ :: ps) e
/-! ### end_of_plain -/
section
variable {P : Program} {w : World} {K : PySem.W.Frag} {mg : Str → Option Value} {base : Heap}
def spEnd : Sp := fun vs H Q _ => ∃ (z : Str) (i j : Nat), vs = [.str z, .int i] ∧ z.length ≤ 1000000 ∧ EndP (sl z) i j ∧ ∀ H', Same H H' → Q (.int (j : Nat)) H'
abbrev nsEnd : List Str := ["line", "start", "end"]
/-- while, by a word and a measure -/
theorem while_me {c : TT} {tb : TS} {D : Ends} {σ : L2.St} {H : Hp} (Pv : L2.St → Hp → Prop) (μ : L2.St → Hp → Nat) (h0 : Pv σ H)
    (hs : ∀ (m : Nat) (σ : L2.St) (H : Hp), Pv σ H → m = μ σ H → ∀ N : L2.St → Hp → Prop, (∀ σ' H', Pv σ' H' → μ σ' H' < m → N σ' H') →
      c σ H fun b H1 => if b = true then ∃ N2 : L2.St → Hp → Prop, (∀ σ' H', N2 σ' H' → N σ' H') ∧ tb { D with nx := N2, ct := N2, bk := D.nx } σ H1 else D.nx σ H1)
    (mono : ∀ σ H Q Q', (∀ b H1, Q b H1 → Q' b H1) → c σ H Q → c σ H Q') : tWhile c tb D σ H := by
  refine ⟨fun m σ H => m = μ σ H ∧ Pv σ H, ⟨_, rfl, h0⟩, ?_⟩
  rintro m σ H ⟨e, p⟩
  refine mono σ H _ _ (fun b H1 q => ?_) (hs m σ H p e (fun σ' H' => ∃ m', m' < m ∧ m' = μ σ' H' ∧ Pv σ' H') fun σ' H' p' l => ⟨_, l, rfl, p'⟩)
  cases b with
  | true =>
    obtain ⟨N2, h1, h2⟩ := q
    exact ⟨N2, fun σ' H' n => h1 σ' H' n, h2⟩
  | false => exact q
end
end Sx

set_option Elab.async false
set_option linter.all false
set_option maxRecDepth 100000
set_option maxHeartbeats 1000000
namespace Sx
open PySem PySem.Spec PyProof.Rows L2 SxA SxK
section
variable {P : Program} {w : World} {K : PySem.W.Frag} {mg : Str → Option Value} {base : Heap}
/-! ### quoted_from -/
def spQuo (K : PySem.W.Frag) : Sp := fun vs H Q E => ∃ (z : Str) (n : Int) (i : Nat) (t : List Nat) (r : QR), vs = [.str z, .int n, .int i] ∧ (0 ≤ n ∧ n < 10 ^ 10) ∧ z.length ≤ 1000000 ∧ i < z.length ∧ Quo (sl z) (i + 1) t r ∧
  (∀ e, r = .close e → ∀ (H' : Hp) (T : Addr) (x : Str), Same H H' → H' T = some (.tup [.str x, .int ((e : Int) + 1)]) → sl x = t → Q (.ref T) H') ∧ ∀ col : Nat, r.col i = some col → Er K E H n col "quoted"
abbrev nsQuo : List Str := ["line", "number", "start", "signs", "at"]
theorem quo_le {l : List Nat} {i : Nat} {t : List Nat} {r : QR} (h : Quo l i t r) : i ≤ l.length ∧ t.length ≤ l.length - i := by
  have lt : ∀ {j c : Nat}, l[j]? = some c → j < l.length := fun h => (List.getElem?_eq_some_iff.mp h).1
  induction h with
  | close h => exact ⟨Nat.le_of_lt (lt h), Nat.zero_le _⟩
  | over => exact ⟨Nat.le_refl _, Nat.zero_le _⟩
  | esc h1 h2 _ _ ih => have := lt h1; have := lt h2; rw [List.length_cons]; omega
  | bad h1 h2 _ _ => exact ⟨Nat.le_of_lt (lt h1), Nat.zero_le _⟩
  | last h1 h2 _ ih => have := lt h1; rw [List.length_cons]; omega
  | sign h1 _ _ _ ih => have := lt h1; rw [List.length_cons]; omega
theorem quo_step {l : List Nat} {q c : Nat} {rest : List Nat} {r : QR} (h : Quo l q rest r) (hq : l[q]? = some c) (c34 : c ≠ 34) :
    (c = 92 ∧ ∃ d, l[q + 1]? = some d ∧ (d = 34 ∨ d = 92) ∧ ∃ rest', rest = d :: rest' ∧ Quo l (q + 2) rest' r) ∨ (c = 92 ∧ ∃ d, l[q + 1]? = some d ∧ d ≠ 34 ∧ d ≠ 92 ∧ r = .bad (q + 1)) ∨
    (c = 92 ∧ q + 1 = l.length ∧ ∃ rest', rest = 92 :: rest' ∧ Quo l (q + 1) rest' r) ∨ (c ≠ 92 ∧ ∃ rest', rest = c :: rest' ∧ Quo l (q + 1) rest' r) := by
  cases h with
  | close h => rw [h] at hq; exact absurd (Option.some.inj hq).symm c34
  | over => rw [List.getElem?_eq_none (Nat.le_refl _)] at hq; cases hq
  | esc h1 h2 h3 h4 => rw [h1] at hq; exact .inl ⟨(Option.some.inj hq).symm, _, h2, h3, _, rfl, h4⟩
  | bad h1 h2 h3 h4 => rw [h1] at hq; exact .inr (.inl ⟨(Option.some.inj hq).symm, _, h2, h3, h4, rfl⟩)
  | last h1 h2 h3 => rw [h1] at hq; exact .inr (.inr (.inl ⟨(Option.some.inj hq).symm, h2, _, rfl, h3⟩))
  | sign h1 h2 h3 h4 => rw [h1] at hq; cases hq; exact .inr (.inr (.inr ⟨h3, _, rfl, h4⟩))
theorem quo_end {l : List Nat} {q : Nat} {rest : List Nat} {r : QR} (h : Quo l q rest r) (he : q = l.length ∨ l[q]? = some 34) : rest = [] ∧ ((q = l.length ∧ r = .over) ∨ (l[q]? = some 34 ∧ r = .close q)) := by
  have no : ∀ {c : Nat}, l[q]? = some c → c ≠ 34 → False := fun {c} h1 h2 => by
    rcases he with e | e
    · rw [List.getElem?_eq_none (by omega)] at h1; cases h1
    · rw [e] at h1; exact h2 (Option.some.inj h1).symm
  cases h with
  | close h => exact ⟨rfl, .inr ⟨h, rfl⟩⟩
  | over => exact ⟨rfl, .inl ⟨rfl, rfl⟩⟩
  | esc h1 h2 h3 h4 => exact (no h1 (by decide)).elim
  | bad h1 h2 h3 h4 => exact (no h1 (by decide)).elim
  | last h1 h2 h3 => exact (no h1 (by decide)).elim
  | sign h1 h2 h3 h4 => exact (no h1 h2).elim
theorem len_join (acc : List Nat) : ((acc.map sg).map (·.length)).sum = acc.length := by
  induction acc with
  | nil => rfl
  | cons c r ih => rw [List.map_cons, List.map_cons, List.sum_cons, ih, List.length_cons]; show 1 + _ = _; omega
end
end Sx

set_option Elab.async false
set_option linter.all false
set_option maxRecDepth 100000
set_option maxHeartbeats 1000000
namespace Sx
open PySem PySem.Spec PyProof.Rows L2 SxA SxK
/-! ### pieces -/
def kindS (b : Bool) : Str := if b = true then "quoted" else "plain"
def pcS (l : List Nat) : Str := ⟨l.toArray⟩
theorem sl_pcS (l : List Nat) : sl (pcS l) = l := by simp [pcS]
theorem pcS_of {x : Str} {l : List Nat} (h : sl x = l) : x = pcS l := sl_ext (by rw [sl_pcS]; exact h)
def PcV (H : Hp) (v : V) (pc : Pc) : Prop := ∃ T, v = .ref T ∧ H T = some (.tup [.str (kindS pc.quo), .str (pcS pc.txt), .int (pc.col : Nat)])
inductive PcsV (H : Hp) : List V → List Pc → Prop where
  | nil : PcsV H [] []
  | cons {v : V} {vs : List V} {p : Pc} {ps : List Pc} : PcV H v p → PcsV H vs ps → PcsV H (v :: vs) (p :: ps)
theorem PcsV.map {H H' : Hp} {vs : List V} {ps : List Pc} (h : PcsV H vs ps) (k : ∀ T xs, H T = some (.tup xs) → H' T = some (.tup xs)) : PcsV H' vs ps := by
  induction h with
  | nil => exact .nil
  | cons a _ ih =>
    obtain ⟨T, e, hT⟩ := a
    exact .cons ⟨T, e, k _ _ hT⟩ ih
theorem PcsV.snoc {H : Hp} {vs : List V} {ps : List Pc} {v : V} {p : Pc} (h : PcsV H vs ps) (hv : PcV H v p) : PcsV H (vs ++ [v]) (ps ++ [p]) := by
  induction h with
  | nil => exact .cons hv .nil
  | cons a _ ih => exact .cons a ih
theorem PcsV.len {H : Hp} {vs : List V} {ps : List Pc} (h : PcsV H vs ps) : vs.length = ps.length := by
  induction h with
  | nil => rfl
  | cons a _ ih => rw [List.length_cons, List.length_cons, ih]
def PcsAt (H : Hp) (p : Addr) (ps : List Pc) : Prop := ∃ vs, H p = some (.lst vs) ∧ PcsV H vs ps
theorem PcsAt.same {H H' : Hp} {p : Addr} {ps : List Pc} (h : PcsAt H p ps) (s : Same H H') : PcsAt H' p ps := by
  obtain ⟨vs, h1, h2⟩ := h
  exact ⟨vs, s _ _ h1, h2.map fun T xs => s T _⟩
theorem PcsAt.add {H : Hp} {p T : Addr} {vs : List V} {ps : List Pc} {pc : Pc} (h : PcsV H vs ps) (hp : H p = some (.lst vs)) (hT : H T = some (.tup [.str (kindS pc.quo), .str (pcS pc.txt), .int (pc.col : Nat)])) : PcsAt (upd H p (.lst (vs ++ [.ref T]))) p (ps ++ [pc]) := by
  have off : ∀ (U : Addr) (xs : List V), H U = some (.tup xs) → upd H p (.lst (vs ++ [.ref T])) U = some (.tup xs) := fun U xs hU => by
    have ne : U ≠ p := fun z => by rw [z, hp] at hU; cases hU
    rw [upd_ne ne]
    exact hU
  exact ⟨_, upd_same, (h.map off).snoc ⟨T, rfl, off _ _ hT⟩⟩
theorem quo_close {l : List Nat} {i e : Nat} {t : List Nat} {r : QR} (h : Quo l i t r) (hr : r = .close e) : i ≤ e ∧ e < l.length := by
  induction h with
  | close h => cases hr; exact ⟨Nat.le_refl _, (List.getElem?_eq_some_iff.mp h).1⟩
  | over => cases hr
  | esc _ _ _ _ ih => have := ih hr; exact ⟨by omega, this.2⟩
  | bad => cases hr
  | last _ _ _ ih => have := ih hr; exact ⟨by omega, this.2⟩
  | sign _ _ _ _ ih => have := ih hr; exact ⟨by omega, this.2⟩
theorem lex_le {l : List Nat} {i : Nat} {ps : List Pc} {e : Option Nat} (h : Lex l i ps e) : i ≤ l.length ∧ ps.length ≤ l.length - i := by
  have lt : ∀ {j c : Nat}, l[j]? = some c → j < l.length := fun h => (List.getElem?_eq_some_iff.mp h).1
  induction h with
  | done => exact ⟨Nat.le_refl _, Nat.zero_le _⟩
  | space h _ ih => have := lt h; omega
  | quoted h hq _ ih => have := lt h; have := quo_close hq rfl; rw [List.length_cons]; omega
  | err h _ _ => exact ⟨Nat.le_of_lt (lt h), Nat.zero_le _⟩
  | @plain a j c ps e h n1 n2 hE _ ih =>
    have := lt h
    have := hE.le
    have ne : j ≠ a := fun z => by
      subst z
      rcases hE.stop _ h with x | x
      · exact n1 x
      · exact n2 x
    rw [List.length_cons]
    omega
theorem lex_step {l : List Nat} {q c : Nat} {ps : List Pc} {e : Option Nat} (h : Lex l q ps e) (hq : l[q]? = some c) :
    (c = 32 ∧ Lex l (q + 1) ps e) ∨ (c = 34 ∧ ∃ t en ps', ps = ⟨true, t, q + 1⟩ :: ps' ∧ Quo l (q + 1) t (.close en) ∧ Lex l (en + 1) ps' e) ∨ (c = 34 ∧ ∃ t r col, ps = [] ∧ e = some col ∧ Quo l (q + 1) t r ∧ r.col q = some col) ∨
    (c ≠ 32 ∧ c ≠ 34 ∧ ∃ j ps', ps = ⟨false, (l.drop q).take (j - q), q + 1⟩ :: ps' ∧ EndP l q j ∧ Lex l j ps' e) := by
  cases h with
  | done => rw [List.getElem?_eq_none (Nat.le_refl _)] at hq; cases hq
  | space h1 h2 => rw [h1] at hq; exact .inl ⟨(Option.some.inj hq).symm, h2⟩
  | quoted h1 h2 h3 => rw [h1] at hq; exact .inr (.inl ⟨(Option.some.inj hq).symm, _, _, _, rfl, h2, h3⟩)
  | err h1 h2 h3 => rw [h1] at hq; exact .inr (.inr (.inl ⟨(Option.some.inj hq).symm, _, _, _, rfl, rfl, h2, h3⟩))
  | plain h1 h2 h3 h4 h5 => rw [h1] at hq; cases hq; exact .inr (.inr (.inr ⟨h2, h3, _, _, rfl, h4, h5⟩))
theorem lex_end {l : List Nat} {ps : List Pc} {e : Option Nat} {q : Nat} (h : Lex l q ps e) (he : q = l.length) : ps = [] ∧ e = none := by
  have no : ∀ {c : Nat}, l[q]? = some c → False := fun {c} h1 => by rw [List.getElem?_eq_none (by omega)] at h1; cases h1
  cases h with
  | done => exact ⟨rfl, rfl⟩
  | space h1 _ => exact (no h1).elim
  | quoted h1 _ _ => exact (no h1).elim
  | err h1 _ _ => exact (no h1).elim
  | plain h1 _ _ _ _ => exact (no h1).elim
theorem cut_at (z : Str) (i j : Nat) (hi : i ≤ z.length) (hj : j ≤ z.length) : cutS z (some (i : Int)) (some (j : Int)) = pcS (((sl z).drop i).take (j - i)) := by
  have e : ∀ (k d : Nat), k ≤ z.length → HT.sIx z.length d (some (k : Int)) = k := fun k d hk => by
    unfold HT.sIx
    have n0 : ¬ ((k : Int) < 0) := by omega
    simp only [n0, if_false, Int.toNat_natCast]
    omega
  unfold cutS pcS
  rw [e i 0 hi, e j z.length hj]
section
variable {P : Program} {w : World} {K : PySem.W.Frag} {mg : Str → Option Value} {base : Heap}
def spPcs (K : PySem.W.Frag) : Sp := fun vs H Q E => ∃ (z : Str) (n : Int), vs = [.str z, .int n] ∧ (0 ≤ n ∧ n < 10 ^ 10) ∧ z.length ≤ 1000000 ∧
  ((∃ i c : Nat, (sl z)[i]? = some c ∧ signB c = false ∧ (∀ j b : Nat, j < i → (sl z)[j]? = some b → signB b = true) ∧ Er K E H n ((i : Int) + 1) "sign") ∨
   ((∀ c ∈ sl z, signB c = true) ∧ ∃ ps eo, Lex (sl z) 0 ps eo ∧ (eo = none → ∀ H' p, Same H H' → PcsAt H' p ps → Q (.ref p) H') ∧ ∀ col : Nat, eo = some col → Er K E H n col "quoted"))
abbrev nsPcs : List Str := ["line", "number", "found", "at", "text", "end"]
end
end Sx

set_option Elab.async false
set_option linter.all false
set_option maxRecDepth 100000
set_option maxHeartbeats 1000000
namespace Sx
open PySem PySem.Spec PyProof.Rows L2 SxA SxK
theorem mulSp (n : Int) (h0 : 0 ≤ n) (h2 : n ≤ 2) : MulOk (sg 32) n ∧ sl (Txt.mul (sg 32) n) = List.replicate n.toNat 32 := by
  have c : n = 0 ∨ n = 1 ∨ n = 2 := by omega
  rcases c with rfl | rfl | rfl
  · exact ⟨⟨rfl, fun h => absurd (by decide) h, fun h => absurd (by decide) h⟩, rfl⟩
  · exact ⟨⟨rfl, fun _ _ => by show ¬ ((1 : Nat) : Int) > (2 ^ 63 - 1) / 1; decide, fun _ _ => rfl⟩, rfl⟩
  · exact ⟨⟨rfl, fun _ _ => by show ¬ ((1 : Nat) : Int) > (2 ^ 63 - 1) / 2; decide, fun _ _ => rfl⟩, rfl⟩
/-! ### data compared -/
def pyPc (p : Pc) : PyData := .tuple [.str (kindS p.quo), .str (pcS p.txt), .int (p.col : Nat)]
def pyPcs (ps : List Pc) : PyData := .list (ps.map pyPc)
theorem dp_all {K : PySem.W.Frag} {H : Hp} {vs : List V} {ps : List Pc} (h : PcsV H vs ps) : DpAll K H vs (ps.map pyPc) := by
  induction h with
  | nil => exact .nil
  | cons a _ ih =>
    obtain ⟨T, rfl, hT⟩ := a
    exact .cons (.tup (SqT.of hT) (.cons (.str _) (.cons (.str _) (.cons (.int _) .nil)))) ih
theorem dp_pcs {K : PySem.W.Frag} {H : Hp} {p : Addr} {ps : List Pc} (h : PcsAt H p ps) : Dp K H (.ref p) (pyPcs ps) := by
  obtain ⟨vs, h1, h2⟩ := h
  exact .lst (SqL.of h1) (dp_all h2)
theorem eqv_pc (p : Pc) : PyData.eqv (pyPc p) (pyPc p) = true := by
  unfold pyPc
  simp [PyData.eqv, PyData.eqvAll]
theorem eqv_all : ∀ ps : List Pc, PyData.eqvAll (ps.map pyPc) (ps.map pyPc) = true
  | [] => rfl
  | p :: ps => by rw [List.map_cons, PyData.eqvAll, eqv_pc, eqv_all ps]; rfl
theorem eqv_pcs (ps : List Pc) : PyData.eqv (pyPcs ps) (pyPcs ps) = true := by
  unfold pyPcs
  rw [PyData.eqv]
  exact eqv_all ps
def FineP (p : Pc) : Prop := ∀ c ∈ p.txt, c < 0x110000
theorem str_pcS {l : List Nat} (h : ∀ c ∈ l, c < 0x110000) : PyData.strOk (pcS l) = true := by
  unfold PyData.strOk pcS
  rw [List.all_toArray, List.all_eq_true]
  exact fun c hc => decide_eq_true (h c hc)
theorem str_kind (b : Bool) : PyData.strOk (kindS b) = true := by
  cases b
  · decide +kernel
  · decide +kernel
theorem lay_pc {p : Pc} (h : FineP p) : PyData.canLay0 (pyPc p) = true := by
  unfold pyPc
  rw [PyData.canLay0, PyData.canLayAll0, PyData.canLayAll0, PyData.canLayAll0, PyData.canLayAll0, PyData.canLay0, PyData.canLay0, PyData.canLay0, str_kind, str_pcS h]
  rfl
theorem lay_pcs : ∀ ps : List Pc, (∀ p ∈ ps, FineP p) → PyData.canLayAll0 (ps.map pyPc) = true
  | [], _ => rfl
  | p :: ps, h => by
    rw [List.map_cons, PyData.canLayAll0, lay_pc (h p List.mem_cons_self), lay_pcs ps fun q hq => h q (List.mem_cons_of_mem _ hq)]
    rfl
theorem dep_pc (p : Pc) : PyData.depth (pyPc p) ≤ 3 := by
  unfold pyPc
  simp [PyData.depth, PyData.depthAll]
theorem dep_pcs : ∀ ps : List Pc, PyData.depthAll (ps.map pyPc) ≤ 3
  | [] => Nat.zero_le _
  | p :: ps => by
    rw [List.map_cons, PyData.depthAll]
    exact Nat.max_le.mpr ⟨dep_pc p, dep_pcs ps⟩
theorem shaped_pcs {ps : List Pc} (h : ∀ p ∈ ps, FineP p) : SeqAt.shaped (pyPcs ps) = true := by
  unfold SeqAt.shaped pyPcs
  rw [PyData.canLay0, lay_pcs ps h, PyData.depth]
  have := dep_pcs ps
  simp
  omega
def pyEr (n c : Int) (r : Str) : PyData := .tuple [.int n, .int c, .str r]
def ErT (H : Hp) (T : Addr) (n c : Int) (r : Str) : Prop := H T = some (.tup [.int n, .int c, .str r])
theorem dp_er {K : PySem.W.Frag} {H : Hp} {T : Addr} {n c : Int} {r : Str} (h : ErT H T n c r) : Dp K H (.ref T) (pyEr n c r) := .tup (SqT.of h) (.cons (.int _) (.cons (.int _) (.cons (.str _) .nil)))
theorem eqv_er (n c : Int) (r : Str) : PyData.eqv (pyEr n c r) (pyEr n c r) = true := by
  unfold pyEr
  simp [PyData.eqv, PyData.eqvAll]
theorem shaped_er (n c : Int) {r : Str} (h : PyData.strOk r = true) : SeqAt.shaped (pyEr n c r) = true := by
  unfold SeqAt.shaped pyEr
  simp [PyData.canLay0, PyData.canLayAll0, PyData.depth, PyData.depthAll, h]
theorem quo_fine {l : List Nat} {i : Nat} {t : List Nat} {r : QR} (h : Quo l i t r) : ∀ c ∈ t, c ∈ l := by
  induction h with
  | close => intro c hc; cases hc
  | over => intro c hc; cases hc
  | esc h1 h2 _ _ ih =>
    intro c hc
    rcases List.mem_cons.mp hc with e | hc
    · rw [e]; exact List.mem_of_getElem? h2
    · exact ih c hc
  | bad => intro c hc; cases hc
  | last h1 _ _ ih =>
    intro c hc
    rcases List.mem_cons.mp hc with e | hc
    · rw [e]; exact List.mem_of_getElem? h1
    · exact ih c hc
  | sign h1 _ _ _ ih =>
    intro c hc
    rcases List.mem_cons.mp hc with e | hc
    · rw [e]; exact List.mem_of_getElem? h1
    · exact ih c hc
theorem lex_fine {l : List Nat} {i : Nat} {ps : List Pc} {e : Option Nat} (h : Lex l i ps e) : ∀ p ∈ ps, (∀ c ∈ p.txt, c ∈ l) ∧ p.col ≤ l.length := by
  have lt : ∀ {j c : Nat}, l[j]? = some c → j < l.length := fun h => (List.getElem?_eq_some_iff.mp h).1
  induction h with
  | done => intro p hp; cases hp
  | space _ _ ih => exact ih
  | quoted h1 h2 _ ih =>
    intro p hp
    rcases List.mem_cons.mp hp with e | hp
    · rw [e]; exact ⟨quo_fine h2, lt h1⟩
    · exact ih p hp
  | err => intro p hp; cases hp
  | plain h1 _ _ _ _ ih =>
    intro p hp
    rcases List.mem_cons.mp hp with e | hp
    · rw [e]; exact ⟨fun c hc => List.mem_of_mem_drop (List.mem_of_mem_take hc), lt h1⟩
    · exact ih p hp
theorem eqv_nil (ps : List Pc) : PyData.eqv (pyPcs ps) (pyPcs []) = decide (ps = []) := by
  cases ps with
  | nil => rfl
  | cons p ps => simp [pyPcs, PyData.eqv, PyData.eqvAll]
end Sx

set_option Elab.async false
set_option linter.all false
set_option maxRecDepth 100000
set_option maxHeartbeats 1000000
namespace Sx
open PySem PySem.Spec PyProof.Rows L2 SxA SxK
/-! ### the reader of a line -/
abbrev LR (K : PySem.W.Frag) : Addr := He.ga K "LineReader"
def rdF (p : Addr) (n e k : Int) : List (Str × V) := [("parts", .ref p), ("number", .int n), ("end", .int e), ("at", .int k)]
theorem lk_parts (p : Addr) (n e k : Int) : (rdF p n e k).lookup ("parts" : Str) = some (.ref p) := rfl
theorem lk_number (p : Addr) (n e k : Int) : (rdF p n e k).lookup ("number" : Str) = some (.int n) := rfl
theorem lk_end (p : Addr) (n e k : Int) : (rdF p n e k).lookup ("end" : Str) = some (.int e) := rfl
theorem lk_at (p : Addr) (n e k : Int) : (rdF p n e k).lookup ("at" : Str) = some (.int k) := rfl
theorem put_at (p : Addr) (n e k : Int) (v : Int) : putF "at" (.int v) (rdF p n e k) = rdF p n e v := by
  unfold rdF
  show (if ("parts" : Str) = "at" then _ else _) = _
  rw [if_neg (by decide +kernel)]
  show _ :: (if ("number" : Str) = "at" then _ else _) = _
  rw [if_neg (by decide +kernel)]
  show _ :: _ :: (if ("end" : Str) = "at" then _ else _) = _
  rw [if_neg (by decide +kernel)]
  show _ :: _ :: _ :: (if ("at" : Str) = "at" then _ else _) = _
  rw [if_pos rfl]
structure RdAt (K : PySem.W.Frag) (H : Hp) (r p dx : Addr) (n e : Int) (ps : List Pc) (k : Nat) : Prop where
  ins : H r = some (.ins (LR K) dx (rdF p n e (k : Int)))
  parts : PcsAt H p ps
  n0 : 0 ≤ n ∧ n < 10 ^ 10
  e0 : 0 ≤ e ∧ e < 10 ^ 10
  cols : ∀ pc ∈ ps, pc.col < 10 ^ 9
  few : ps.length ≤ 1000000
  top : k ≤ ps.length
  fine : ∀ pc ∈ ps, FineP pc
theorem RdAt.same {K : PySem.W.Frag} {H H' : Hp} {r p dx : Addr} {n e : Int} {ps : List Pc} {k : Nat} (h : RdAt K H r p dx n e ps k) (s : Same H H') : RdAt K H' r p dx n e ps k :=
  ⟨s _ _ h.ins, h.parts.same s, h.n0, h.e0, h.cols, h.few, h.top, h.fine⟩
theorem RdAt.move {K : PySem.W.Frag} {H : Hp} {r p dx : Addr} {n e : Int} {ps : List Pc} {k j : Nat} (h : RdAt K H r p dx n e ps k) (hj : j ≤ ps.length) : RdAt K (upd H r (.ins (LR K) dx (rdF p n e (j : Int)))) r p dx n e ps j := by
  refine ⟨upd_same, ?_, h.n0, h.e0, h.cols, h.few, hj, h.fine⟩
  obtain ⟨vs, h1, h2⟩ := h.parts
  have off : ∀ (b : Addr) (o : HO), H b = some o → (∀ C dx fs, o ≠ .ins C dx fs) → upd H r (.ins (LR K) dx (rdF p n e (j : Int))) b = some o := fun b o hb ho => by
    have ne : b ≠ r := fun z => by
      rw [z, h.ins] at hb
      exact ho _ _ _ (Option.some.inj hb).symm
    rw [upd_ne ne]
    exact hb
  exact ⟨vs, off _ _ h1 (fun _ _ _ z => by cases z), h2.map fun T xs hT => off _ _ hT (fun _ _ _ z => by cases z)⟩
theorem PcsV.get {H : Hp} {vs : List V} {ps : List Pc} (h : PcsV H vs ps) : ∀ {k : Nat} {pc : Pc}, ps[k]? = some pc → ∃ T, vs[k]? = some (.ref T) ∧ H T = some (.tup [.str (kindS pc.quo), .str (pcS pc.txt), .int (pc.col : Nat)]) := by
  induction h with
  | nil => intro k pc hk; cases hk
  | cons a _ ih =>
    intro k pc hk
    cases k with
    | zero =>
      cases hk
      obtain ⟨T, rfl, hT⟩ := a
      exact ⟨T, rfl, hT⟩
    | succ k => exact ih hk
def seesB (ps : List Pc) (k : Nat) (kd wd : Str) : Bool := match ps[k]? with
  | none => false
  | some pc => decide (V.str (kindS pc.quo) = V.str kd) && (decide (V.str kd = V.str "quoted") || decide (V.str (pcS pc.txt) = V.str wd))
def plainW (ps : List Pc) (k : Nat) : Str := match ps[k]? with
  | none => ""
  | some pc => if pc.quo = true then "" else pcS pc.txt
def refCol (ps : List Pc) (e : Int) (k : Nat) : Int := match ps[k]? with
  | none => e
  | some pc => (pc.col : Int)
section
variable {P : Program} {w : World} {K : PySem.W.Frag} {mg : Str → Option Value} {base : Heap}
/-- a method that may raise -/
def MetX (P : Program) (w : World) (K : PySem.W.Frag) (mg : Str → Option Value) (base : Heap) (k : Nat) (m : Str) (ps : List Str) (sp : Sp) : Prop :=
  ∃ fd, FnOk P w K mg base (L2.CX P w) k (He.ma K (LR K) m) fd ps sp ∧ Binds K fd ps []
theorem mkMetX {m qual : Str} {st : Stmt} {N ps : List Str} {k : Nat} {sp : Sp} (d : ∃ fd, FunD K m qual (defArgs st) (defBody st) (defScope st) [] [] (He.ma K (LR K) m) fd) (S : FnScope N ps (defScope st)) (len : ∀ vs H Q E, sp vs H Q E → vs.length = ps.length)
    (bnd : ∀ (kV doc pm : Value) (an : Option Addr) (cdv ct : Value) (us : List Value), us.length = ps.length → bindArgs (PySem.W.fnOf m qual (defArgs st) (defBody st) (defScope st) .none kV doc pm an cdv ct) ⟨us, []⟩ = pure (ps.zip us))
    (body : ∀ (cdv : Value) (A : Around) (outer : List Env) (s : Shared) (H0 : Hp) (vs : List V) (Q : VK) (E : XK), Room k (A.deeper (envOfC qual (defScope st) s.heap.objs.size (He.ma K (LR K) m) cdv)) → sp vs H0 Q E →
      ∃ t, PSs (cxOf (L2.CX P w) P w K mg base N qual (defScope st) (He.ma K (LR K) m) cdv A outer s H0 E) (defBody st) t ∧ t { nx := fun _ H' => Q .non H', rt := Q } (start N vs) H0) : MetX P w K mg base (k + 1) m ps sp := by
  obtain ⟨fd, F⟩ := d
  exact ⟨fd, F.ok S len body, F.bindsN bnd⟩
theorem pe_metX {X : Cx} {E : XK} {k : Nat} {m : Str} {ps : List Str} {sp : Sp} {apos pos : Pos} {o e : Expr} {es : List Expr} {ta : TE} {t : TA} {pl : Sem Bool} (M : MetX X.prog X.w X.K X.mg X.base k m ps sp) (c : Cls X.K (LR X.K)) (hm : Meth X.K (LR X.K) m (He.ma X.K (LR X.K) m))
    (hr : Room k X.A) (hx : Passes (L2.CX X.prog X.w) X E) (he : PE X o ta) (ha : PA X (e :: es) t)
    (hst : starEach (e :: es) X.env = (false, eval e X.env) :: starEach es X.env := by rfl) (hpl : (backTo pos (starEach es X.env)).any (·.1) = false := by rfl)
    (ht : eval (.Call (.Attribute o m apos) (e :: es) [] pos) X.env = (do
      let ov ← eval o X.env
      standAt apos.atName
      let (f, first) ← holding [ov] (getMethod ov m pl)
      callWith pos f first (backTo pos (starEach (e :: es) X.env)) (backToKw pos (keywordEach [] X.env))) := by rfl) :
    PE X (.Call (.Attribute o m apos) (e :: es) [] pos) (tMeth (LR X.K) m sp [] E ta t) := by
  obtain ⟨fd, F, b⟩ := M
  exact pe_meth he c hm F hr b .nil hx ha hst hpl ht
theorem pe_metX0 {X : Cx} {E : XK} {k : Nat} {m : Str} {ps : List Str} {sp : Sp} {apos pos : Pos} {o : Expr} {ta : TE} {pl : Sem Bool} (M : MetX X.prog X.w X.K X.mg X.base k m ps sp) (c : Cls X.K (LR X.K)) (hm : Meth X.K (LR X.K) m (He.ma X.K (LR X.K) m))
    (hr : Room k X.A) (hx : Passes (L2.CX X.prog X.w) X E) (he : PE X o ta)
    (ht : eval (.Call (.Attribute o m apos) [] [] pos) X.env = (do
      let ov ← eval o X.env
      standAt apos.atName
      let (f, first) ← holding [ov] (getMethod ov m pl)
      callWith pos f first (backTo pos (starEach [] X.env)) (backToKw pos (keywordEach [] X.env))) := by rfl) :
    PE X (.Call (.Attribute o m apos) [] [] pos) (tMeth (LR X.K) m sp [] E ta tNil) := by
  obtain ⟨fd, F, b⟩ := M
  exact pe_meth0 he c hm F hr b .nil hx ht
/-! ### sees, plain_word -/
def spSees (K : PySem.W.Frag) : Sp := fun vs H Q _ => ∃ (r p dx : Addr) (n e : Int) (ps : List Pc) (k : Nat) (kd wd : Str), vs = [.ref r, .str kd, .str wd] ∧ RdAt K H r p dx n e ps k ∧ Q (.bl (seesB ps k kd wd)) H
abbrev nsSees : List Str := ["self", "kind", "word", "found", "text", "_"]
end
end Sx

set_option Elab.async false
set_option linter.all false
set_option maxRecDepth 100000
set_option maxHeartbeats 1000000
namespace Sx
open PySem PySem.Spec PyProof.Rows L2 SxA SxK
section
variable {P : Program} {w : World} {K : PySem.W.Frag} {mg : Str → Option Value} {base : Heap}
/-! ### plain_word -/
def spPlain (K : PySem.W.Frag) : Sp := fun vs H Q _ => ∃ (r p dx : Addr) (n e : Int) (ps : List Pc) (k : Nat), vs = [.ref r] ∧ RdAt K H r p dx n e ps k ∧ Q (.str (plainW ps k)) H
abbrev nsPlain : List Str := ["self", "kind", "text", "_"]
/-! ### refuse, take -/
def spRefuse (K : PySem.W.Frag) : Sp := fun vs H Q E => ∃ (r p dx : Addr) (n e : Int) (ps : List Pc) (k : Nat), vs = [.ref r] ∧ RdAt K H r p dx n e ps k ∧ Er K E H n (refCol ps e k) "expected"
abbrev nsRefuse : List Str := ["self", "column"]
def spTake (K : PySem.W.Frag) : Sp := fun vs H Q E => ∃ (r p dx : Addr) (n e : Int) (ps : List Pc) (k : Nat) (b : Bool), vs = [.ref r, .bl b] ∧ RdAt K H r p dx n e ps k ∧ (b = true → k < ps.length) ∧
  (b = true → ∀ pc, ps[k]? = some pc → ∀ H', RdAt K H' r p dx n e ps (k + 1) → But r H H' → Q (.str (pcS pc.txt)) H') ∧ (b = false → Er K E H n (refCol ps e k) "expected")
abbrev nsTake : List Str := ["self", "due", "text"]
end
end Sx

set_option Elab.async false
set_option linter.all false
set_option maxRecDepth 100000
set_option maxHeartbeats 1000000
namespace Sx
open PySem PySem.Spec PyProof.Rows L2 SxA SxK
/-! ### number_of -/
def digB (c : Nat) : Bool := decide (48 ≤ c) && decide (c ≤ 57)
def numW (l : List Nat) (d : Int) : Option Nat :=
  if (l.length : Int) > d then none else if l ≠ [] ∧ l.all digB = true then (if l.head? = some 48 ∧ l ≠ [48] then none else some (NumText.digitsVal l)) else none
def oI : Option Nat → V
  | none => .non
  | some n => .int (n : Nat)
theorem dig_uni : ∀ c : Nat, c < 128 → Unicode.isDigit c = digB c := by decide +kernel
theorem asc_dig (x : Str) : (Txt.isascii x && Txt.isdigit x) = (decide (sl x ≠ []) && (sl x).all digB) := by
  have e1 : Txt.isascii x = (sl x).all (fun c => decide (c < 128)) := by
    unfold Txt.isascii
    rw [← Array.all_toList]
  have e2 : Txt.isdigit x = (decide (sl x ≠ []) && (sl x).all Unicode.isDigit) := by
    unfold Txt.isdigit
    rw [← Array.all_toList]
    congr 1
    rw [sl_len, decide_eq_decide]
    exact ⟨fun h z => by rw [z] at h; exact absurd h (by decide), fun h => List.length_pos_iff.mpr h⟩
  rw [e1, e2]
  cases h1 : (sl x).all digB with
  | true =>
    have h2 : ∀ c ∈ sl x, c < 128 ∧ Unicode.isDigit c = true := fun c hc => by
      have h3 := List.all_eq_true.mp h1 c hc
      have h4 : c < 128 := by
        unfold digB at h3
        simp at h3
        omega
      exact ⟨h4, by rw [dig_uni c h4]; exact h3⟩
    have h5 : (sl x).all (fun c => decide (c < 128)) = true := List.all_eq_true.mpr fun c hc => decide_eq_true (h2 c hc).1
    have h6 : (sl x).all Unicode.isDigit = true := List.all_eq_true.mpr fun c hc => (h2 c hc).2
    rw [h5, h6, Bool.true_and]
  | false =>
    cases h7 : (sl x).all (fun c => decide (c < 128)) with
    | false => simp
    | true =>
      have h8 : (sl x).all Unicode.isDigit = (sl x).all digB := by
        have h9 := List.all_eq_true.mp h7
        have : ∀ l : List Nat, (∀ c ∈ l, c < 128) → l.all Unicode.isDigit = l.all digB := by
          intro l
          induction l with
          | nil => intro _; rfl
          | cons c r ih =>
            intro h
            rw [List.all_cons, List.all_cons, dig_uni c (h c List.mem_cons_self), ih fun d hd => h d (List.mem_cons_of_mem _ hd)]
        exact this _ fun c hc => of_decide_eq_true (h9 c hc)
      rw [h8, h1, Bool.true_and]
section
variable {P : Program} {w : World} {K : PySem.W.Frag} {mg : Str → Option Value} {base : Heap}
def spNum : Sp := fun vs H Q _ => ∃ (x : Str) (d : Int), vs = [.str x, .int d] ∧ x.length ≤ 1000000 ∧ 0 ≤ d ∧ d ≤ 600 ∧ Q (oI (numW (sl x) d)) H
theorem scNum : FnScope ["word", "digits"] ["word", "digits"] (defScope sNumberOf) := ⟨rfl, rfl, rfl, by decide +kernel, rfl, by decide +kernel, by decide +kernel⟩
theorem ok_num (t : T K mg) : Ok P w K mg base 1 "number_of" ["word", "digits"] spNum := by
  refine mkOk t.d_number_of t.g_number_of scNum (fun vs H Q E h => ?_) (fun _ _ _ _ _ _ us hl => match us, hl with | [_, _], _ => rfl) fun cdv A outer s H vs Q E hr h => ?_
  · obtain ⟨x, d, rfl, _⟩ := h; rfl
  obtain ⟨x, d, rfl, hx, d0, d1, q⟩ := h
  refine ⟨_, pss_cons (ps_if (PW.pt (pw_or (pt_cmpR op_gt (pe_callB call_len_str rfl t.f_len boot_len (pa_cons (pv 0) pa_nil)) (pv 1) (nomark _))
        (pw_or1 (pt_not (PW.pt (pw_and (pt_truthK (K := K) rfl (pe_m0 F.slot_str_isascii F.type_str_isascii mt_isascii (pv 0))) (pw_and1 (pt_truthK (K := K) rfl (pe_m0 F.slot_str_isdigit F.type_str_isdigit mt_isdigit (pv 0))))))))))
      (pss_one (ps_ret pe_non)) pss_nil)
    (pss_cons (ps_if (PW.pt (pw_and (pt_cmpR op_eq (pe_ix ix_str (pv 0) pe_int (fun _ _ => rfl)) pe_str (nomark _)) (pw_and1 (pt_cmpR op_ne (pv 0) pe_str (nomark _))))) (pss_one (ps_ret pe_non)) pss_nil)
    (pss_one (ps_ret (pe_callTy call_int_str rfl t.f_int (by decide +kernel) (pa_cons (pv 0) pa_nil))))), ?_⟩
  have hxl : x.length = (sl x).length := sl_len x
  unfold numW at q
  refine ⟨_, rfl, x, rfl, big6 hx, _, rfl, _, _, rfl, rfl, _, rfl, ?_⟩
  refine ite2 (fun h1 => ?_) (fun h1 => ?_)
  · have h2 : ((sl x).length : Int) > d := by
      have := of_decide_eq_true h1
      omega
    rw [if_pos h2] at q
    exact q
  have h2 : ¬ ((sl x).length : Int) > d := fun z => h1 (decide_eq_true (by omega))
  rw [if_neg h2] at q
  have key := asc_dig x
  refine ⟨_, rfl, ⟨_, rfl⟩, x, rfl, rfl, trivial, _, rfl, ?_⟩
  have bad : (Txt.isascii x && Txt.isdigit x) = false → Q .non H := fun z => by
    rw [key] at z
    have h5 : ¬ (sl x ≠ [] ∧ (sl x).all digB = true) := fun y => by
      rw [decide_eq_true y.1, y.2] at z
      cases z
    rw [if_neg h5] at q
    exact q
  refine ite2 (fun h3 => ?_) (fun h3 => ?_)
  · refine ⟨_, rfl, ⟨_, rfl⟩, x, rfl, rfl, trivial, _, rfl, ?_⟩
    refine ite2 (fun h4 => ?_) (fun h4 => ?_)
    · refine bad ?_
      rw [h3, Bool.true_and]
      simpa using h4
    · have h5 : Txt.isdigit x = true := by simpa using h4
      rw [h3, h5] at key
      have h6 : sl x ≠ [] ∧ (sl x).all digB = true := by
        obtain ⟨a1, a2⟩ := Bool.and_eq_true_iff.mp (show (decide (sl x ≠ []) && (sl x).all digB) = true from key.symm)
        exact ⟨of_decide_eq_true a1, a2⟩
      rw [if_pos h6] at q
      cases hz : sl x with
      | nil => exact absurd hz h6.1
      | cons c0 r0 =>
        have ec : atI (sl x) 0 = some c0 := by
          have := atI_nat (xs := sl x) (j := 0) (v := c0) (by rw [hz]; rfl)
          exact this
        refine ⟨_, rfl, x, 0, c0, rfl, rfl, big6 hx, ec, rfl, _, rfl, ?_⟩
        have e0 : Str.ofString "0" = sg 48 := by decide +kernel
        have num : ¬ ((sl x).head? = some 48 ∧ sl x ≠ [48]) → ∃ m, PySem.intText? x = some m ∧ Q (.int m) H := fun h7 => by
          rw [if_neg h7] at q
          exact ⟨_, PySem.intText_digits (fun c hc => by
            have := List.all_eq_true.mp h6.2 c hc
            unfold digB at this
            simp at this
            exact this) h6.1 (by omega), q⟩
        refine ite2 (fun h7 => ?_) (fun h7 => ?_)
        · have c48 : c0 = 48 := by
            rw [e0] at h7
            simp at h7
            exact h7
          refine ⟨_, rfl, rfl, _, rfl, ?_⟩
          refine ite2 (fun h8 => ?_) (fun h8 => ?_)
          · have n48 : sl x ≠ [48] := fun z => by
              have : x = sg 48 := sl_ext z
              rw [this, e0] at h8
              simp at h8
            rw [if_pos ⟨by rw [hz, c48]; rfl, n48⟩] at q
            exact q
          · have e48 : sl x = [48] := by
              rw [e0] at h8
              simp at h8
              rw [h8]
            obtain ⟨m, i1, i2⟩ := num fun z => z.2 e48
            exact ⟨_, rfl, x, m, rfl, i1, by omega, i2⟩
        · have n48 : c0 ≠ 48 := fun z => by
            subst z
            rw [e0] at h7
            simp at h7
          obtain ⟨m, i1, i2⟩ := num fun z => by
            rw [hz] at z
            exact n48 (Option.some.inj z.1)
          exact ⟨_, rfl, x, m, rfl, i1, by omega, i2⟩
  · refine bad ?_
    rw [Bool.not_eq_true] at h3
    rw [h3, Bool.false_and]
end
end Sx

set_option Elab.async false
set_option linter.all false
set_option maxRecDepth 100000
set_option maxHeartbeats 1000000
namespace Sx
open PySem PySem.Spec PyProof.Rows L2 SxA SxK
theorem sees_at {ps : List Pc} {k : Nat} {kd wd : Str} (h : seesB ps k kd wd = true) : ∃ pc, ps[k]? = some pc ∧ k < ps.length := by
  unfold seesB at h
  cases z : ps[k]? with
  | none => rw [z] at h; cases h
  | some pc => exact ⟨pc, rfl, (List.getElem?_eq_some_iff.mp z).1⟩
theorem sees_lt {ps : List Pc} {k : Nat} {kd wd : Str} (h : seesB ps k kd wd = true) : k < ps.length := by
  obtain ⟨_, _, z⟩ := sees_at h
  exact z
section
variable {P : Program} {w : World} {K : PySem.W.Frag} {mg : Str → Option Value} {base : Heap}
theorem passX {N : List Str} {q : Str} {sc : Scope} {f : Addr} {cdv : Value} {A : Around} {outer : List Env} {s : Shared} {H : Hp} {E : XK} : Passes (L2.CX P w) (cxOf (L2.CX P w) P w K mg base N q sc f cdv A outer s H E) E :=
  passes_call (takes_of rfl rfl rfl rfl) fun _ _ _ _ h => h
/-! ### begin -/
def headCol (ps : List Pc) : Int := match ps with
  | [] => 0
  | pc :: _ => (pc.col : Int)
def spBegin (K : PySem.W.Frag) : Sp := fun vs H Q E => ∃ (r p dx : Addr) (n e : Int) (ps : List Pc) (k : Nat) (wd : Str) (b : Bool), vs = [.ref r, .str wd, .bl b] ∧ RdAt K H r p dx n e ps k ∧ ps ≠ [] ∧
  ((b && seesB ps k "plain" wd) = true → ∀ H', RdAt K H' r p dx n e ps (k + 1) → But r H H' → Q .non H') ∧ ((b && seesB ps k "plain" wd) = false → Er K E H n (headCol ps) "line")
abbrev nsBegin : List Str := ["self", "word", "more"]
/-! ### take_word, take_quoted -/
def spTakeW (K : PySem.W.Frag) : Sp := fun vs H Q E => ∃ (r p dx : Addr) (n e : Int) (ps : List Pc) (k : Nat) (wd : Str), vs = [.ref r, .str wd] ∧ RdAt K H r p dx n e ps k ∧
  (seesB ps k "plain" wd = true → ∀ H', RdAt K H' r p dx n e ps (k + 1) → But r H H' → Q .non H') ∧ (seesB ps k "plain" wd = false → Er K E H n (refCol ps e k) "expected")
def spTakeQ (K : PySem.W.Frag) : Sp := fun vs H Q E => ∃ (r p dx : Addr) (n e : Int) (ps : List Pc) (k : Nat), vs = [.ref r] ∧ RdAt K H r p dx n e ps k ∧
  (seesB ps k "quoted" "" = true → ∀ pc, ps[k]? = some pc → ∀ H', RdAt K H' r p dx n e ps (k + 1) → But r H H' → Q (.str (pcS pc.txt)) H') ∧ (seesB ps k "quoted" "" = false → Er K E H n (refCol ps e k) "expected")
/-! ### check_range, finish -/
def rangeCol (ps : List Pc) (k : Nat) : Int := match ps[k - 1]? with
  | none => 0
  | some pc => (pc.col : Int)
def spRange (K : PySem.W.Frag) : Sp := fun vs H Q E => ∃ (r p dx : Addr) (n e : Int) (ps : List Pc) (k : Nat) (b : Bool), vs = [.ref r, .bl b] ∧ RdAt K H r p dx n e ps k ∧ 1 ≤ k ∧ (b = true → Q .non H) ∧ (b = false → Er K E H n (rangeCol ps k) "range")
def spFinish (K : PySem.W.Frag) : Sp := fun vs H Q E => ∃ (r p dx : Addr) (n e : Int) (ps : List Pc) (k : Nat), vs = [.ref r] ∧ RdAt K H r p dx n e ps k ∧ (k = ps.length → Q .non H) ∧ (k < ps.length → Er K E H n (refCol ps e k) "expected")
/-! ### take_number -/
def spTakeN (K : PySem.W.Frag) : Sp := fun vs H Q E => ∃ (r p dx : Addr) (n e : Int) (ps : List Pc) (k : Nat), vs = [.ref r] ∧ RdAt K H r p dx n e ps k ∧ (plainW ps k).length ≤ 1000000 ∧
  (∀ m, numW (sl (plainW ps k)) 3 = some m → ∀ H', RdAt K H' r p dx n e ps (k + 1) → But r H H' → Q (.int (m : Nat)) H') ∧ (numW (sl (plainW ps k)) 3 = none → Er K E H n (refCol ps e k) "expected")
theorem plain_in {ps : List Pc} {k : Nat} (h : plainW ps k ≠ "") : k < ps.length := by
  unfold plainW at h
  cases z : ps[k]? with
  | none => rw [z] at h; exact absurd rfl h
  | some pc => exact (List.getElem?_eq_some_iff.mp z).1
theorem num_ne {l : List Nat} {d : Int} {m : Nat} (h : numW l d = some m) : l ≠ [] := by
  unfold numW at h
  split at h
  · cases h
  · split at h
    · rename_i h2
      exact h2.1
    · cases h
end
end Sx

set_option Elab.async false
set_option linter.all false
set_option maxRecDepth 100000
set_option maxHeartbeats 1000000
namespace Sx
open PySem PySem.Spec PyProof.Rows L2 SxA SxK
/-! ### cell_of_word -/
def six : List Nat := [49, 50, 51, 52, 53, 54]
def cellW (l : List Nat) : Option Int := if l = [45] then some 0 else if l = [] ∨ l ≠ six.filter (fun c => decide (c ∈ l)) then none else some (cellL (l.map fun c : Nat => (c : Int) - 48))
def oC : Option Int → V
  | none => .non
  | some c => .int c
theorem six_int : ∀ c ∈ six, PySem.intText? (sg c) = some ((c : Int) - 48) := by decide +kernel
section
variable {P : Program} {w : World} {K : PySem.W.Frag} {mg : Str → Option Value} {base : Heap}
def spCellW : Sp := fun vs H Q _ => ∃ x : Str, vs = [.str x] ∧ x.length ≤ 1000000 ∧ ∀ H', Same H H' → Q (oC (cellW (sl x))) H'
end
end Sx

set_option Elab.async false
set_option linter.all false
set_option maxRecDepth 100000
set_option maxHeartbeats 1000000
namespace Sx
open PySem PySem.Spec PyProof.Rows L2 SxA SxK
theorem cell_ne {l : List Nat} {c : Int} (h : cellW l = some c) : l ≠ [] := by
  intro z
  subst z
  unfold cellW at h
  rw [if_neg (by decide), if_pos (.inl rfl)] at h
  cases h
theorem plain_at {ps : List Pc} {k : Nat} (h : plainW ps k ≠ "") : ∃ pc, ps[k]? = some pc ∧ plainW ps k = pcS pc.txt := by
  unfold plainW at h ⊢
  cases z : ps[k]? with
  | none => rw [z] at h; exact absurd rfl h
  | some pc =>
    rw [z] at h
    have h2 : (if pc.quo = true then ("" : Str) else pcS pc.txt) ≠ "" := h
    refine ⟨pc, rfl, ?_⟩
    show (if pc.quo = true then ("" : Str) else pcS pc.txt) = _
    split
    · rename_i q
      rw [if_pos q] at h2
      exact absurd rfl h2
    · rfl
section
variable {P : Program} {w : World} {K : PySem.W.Frag} {mg : Str → Option Value} {base : Heap}
/-! ### cells of a line -/
def spSeesC (K : PySem.W.Frag) : Sp := fun vs H Q _ => ∃ (r p dx : Addr) (n e : Int) (ps : List Pc) (k : Nat), vs = [.ref r] ∧ RdAt K H r p dx n e ps k ∧ (plainW ps k).length ≤ 1000000 ∧ ∀ H', Same H H' → Q (.bl (cellW (sl (plainW ps k))).isSome) H'
def spTakeC (K : PySem.W.Frag) : Sp := fun vs H Q E => ∃ (r p dx : Addr) (n e : Int) (ps : List Pc) (k : Nat), vs = [.ref r] ∧ RdAt K H r p dx n e ps k ∧ (plainW ps k).length ≤ 1000000 ∧
  (∀ c, cellW (sl (plainW ps k)) = some c → ∀ H', RdAt K H' r p dx n e ps (k + 1) → But r H H' → Q (.int c) H') ∧ (cellW (sl (plainW ps k)) = none → Er K E H n (refCol ps e k) "expected")
/-! ### is_empty -/
def spEmpty (K : PySem.W.Frag) : Sp := fun vs H Q _ => ∃ (r p dx : Addr) (n e : Int) (ps : List Pc) (k : Nat), vs = [.ref r] ∧ RdAt K H r p dx n e ps k ∧ ∀ H', Same H H' → Q (.bl (decide (ps = []))) H'
/-! ### LineReader(line, number) -/
def spLR (K : PySem.W.Frag) : Sp := fun vs H Q E => ∃ (r dx : Addr) (z : Str) (n : Int), vs = [.ref r, .str z, .int n] ∧ H r = some (.ins (LR K) dx []) ∧ (0 ≤ n ∧ n < 10 ^ 10) ∧ z.length ≤ 1000000 ∧
  ((∃ i c : Nat, (sl z)[i]? = some c ∧ signB c = false ∧ (∀ j b : Nat, j < i → (sl z)[j]? = some b → signB b = true) ∧ Er K E H n ((i : Int) + 1) "sign") ∨
   ((∀ c ∈ sl z, signB c = true) ∧ ∃ ps eo, Lex (sl z) 0 ps eo ∧ (eo = none → ∀ H' p, RdAt K H' r p dx n ((z.length : Int) + 1) ps 0 → (∀ b o, H b = some o → b ≠ r → H' b = some o) → Q .non H') ∧ ∀ col : Nat, eo = some col → Er K E H n col "quoted"))
theorem rdF_put (p : Addr) (n e k : Int) : putF "at" (.int k) (putF "end" (.int e) (putF "number" (.int n) (putF "parts" (.ref p) []))) = rdF p n e k := by
  rw [put_new "parts" _ [] (by simp), put_new "number" _ _ (by simp only [List.nil_append, List.mem_cons, List.not_mem_nil, or_false, forall_eq]; decide +kernel)]
  rw [put_new "end" _ _ (by simp only [List.nil_append, List.cons_append, List.mem_cons, List.not_mem_nil, or_false, forall_eq_or_imp, forall_eq]; decide +kernel)]
  rw [put_new "at" _ _ (by simp only [List.nil_append, List.cons_append, List.mem_cons, List.not_mem_nil, or_false, forall_eq_or_imp, forall_eq]; decide +kernel)]
  rfl
theorem sign_lt {c : Nat} (h : signB c = true) : c < 0x110000 := by
  unfold signB at h
  simp at h
  omega
end
end Sx

set_option Elab.async false
set_option linter.all false
set_option maxRecDepth 100000
set_option maxHeartbeats 1000000
namespace Sx
open PySem PySem.Spec PyProof.Rows L2 SxA SxK
/-! ### what a reader's def tells: a value and the place behind, or an error -/
inductive Res (α : Type) where
  | ok (a : α) (k : Nat)
  | err (c : Int) (w : Str)
def Res.bind {α β : Type} : Res α → (α → Nat → Res β) → Res β
  | .ok a k, f => f a k
  | .err c w, _ => .err c w
def ErB (K : PySem.W.Frag) (E : XK) (r : Addr) (H : Hp) (l c : Int) (w : Str) : Prop := ∀ d H', But r H H' → H' d = some (.xd (erD l c w)) → E (.ref (He.ga K "TextError")) (some d) H'
theorem ErB.er {K : PySem.W.Frag} {E : XK} {r : Addr} {H H1 : Hp} {l c : Int} {w : Str} (h : ErB K E r H l c w) (b : But r H H1) : Er K E H1 l c w := fun d H' s hd => h d H' (b.trans (But.of s)) hd
theorem ErB.step {K : PySem.W.Frag} {E : XK} {r : Addr} {H H1 : Hp} {l c : Int} {w : Str} (h : ErB K E r H l c w) (b : But r H H1) : ErB K E r H1 l c w := fun d H' b2 hd => h d H' (b.trans b2) hd
/-- where a reader stands -/
structure Rd where
  r : Addr
  p : Addr
  dx : Addr
  n : Int
  e : Int
  ps : List Pc
def Rd.At (K : PySem.W.Frag) (H : Hp) (x : Rd) (k : Nat) : Prop := RdAt K H x.r x.p x.dx x.n x.e x.ps k
def Out {α : Type} (K : PySem.W.Frag) (Q : VK) (E : XK) (H : Hp) (x : Rd) (val : α → V) : Res α → Prop
  | .ok a k => ∀ H', x.At K H' k → But x.r H H' → Q (val a) H'
  | .err c w => ErB K E x.r H x.n c w
theorem Out.step {α : Type} {K : PySem.W.Frag} {Q : VK} {E : XK} {H H1 : Hp} {x : Rd} {val : α → V} {s : Res α} (h : Out K Q E H x val s) (b : But x.r H H1) : Out K Q E H1 x val s := by
  cases s with
  | ok a k => exact fun H' hA b2 => h H' hA (b.trans b2)
  | err c w => exact ErB.step h b
theorem Out.bind {α β : Type} {K : PySem.W.Frag} {Q Q1 : VK} {E : XK} {H : Hp} {x : Rd} {val : β → V} {val1 : α → V} {s : Res α} {f : α → Nat → Res β} (h : Out K Q E H x val (s.bind f))
    (next : ∀ a k H', s = .ok a k → x.At K H' k → But x.r H H' → Out K Q E H' x val (f a k) → Q1 (val1 a) H') : Out K Q1 E H x val1 s := by
  cases s with
  | ok a k => exact fun H' hA b => next a k H' rfl hA b (Out.step h b)
  | err c w => exact h
def mBegin (x : Rd) (k : Nat) (wd : Str) (b : Bool) : Res Unit := if (b && seesB x.ps k "plain" wd) = true then .ok () (k + 1) else .err (headCol x.ps) "line"
def mTakeW (x : Rd) (k : Nat) (wd : Str) : Res Unit := if seesB x.ps k "plain" wd = true then .ok () (k + 1) else .err (refCol x.ps x.e k) "expected"
def mTakeQ (x : Rd) (k : Nat) : Res Str := if seesB x.ps k "quoted" "" = true then (match x.ps[k]? with
  | some pc => .ok (pcS pc.txt) (k + 1)
  | none => .err (refCol x.ps x.e k) "expected") else .err (refCol x.ps x.e k) "expected"
def mTakeN (x : Rd) (k : Nat) : Res Nat := match numW (sl (plainW x.ps k)) 3 with
  | some m => .ok m (k + 1)
  | none => .err (refCol x.ps x.e k) "expected"
def mTakeC (x : Rd) (k : Nat) : Res Int := match cellW (sl (plainW x.ps k)) with
  | some c => .ok c (k + 1)
  | none => .err (refCol x.ps x.e k) "expected"
def mRange (x : Rd) (k : Nat) (b : Bool) : Res Unit := if b = true then .ok () k else .err (rangeCol x.ps k) "range"
def mFinish (x : Rd) (k : Nat) : Res Unit := if k < x.ps.length then .err (refCol x.ps x.e k) "expected" else .ok () k
section
variable {K : PySem.W.Frag} {Q : VK} {E : XK} {H : Hp} {x : Rd} {k : Nat}
theorem o_begin {wd : Str} {b : Bool} (hA : x.At K H k) (hne : x.ps ≠ []) (h : Out K Q E H x (fun _ => .non) (mBegin x k wd b)) : spBegin K [.ref x.r, .str wd, .bl b] H Q E := by
  refine ⟨x.r, x.p, x.dx, x.n, x.e, x.ps, k, wd, b, rfl, hA, hne, fun z H' hR bt => ?_, fun z => ?_⟩
  · unfold mBegin at h
    rw [if_pos z] at h
    exact h H' hR bt
  · unfold mBegin at h
    rw [if_neg (by rw [z]; exact Bool.false_ne_true)] at h
    exact ErB.er h (But.refl _ _)
theorem o_takeW {wd : Str} (hA : x.At K H k) (h : Out K Q E H x (fun _ => .non) (mTakeW x k wd)) : spTakeW K [.ref x.r, .str wd] H Q E := by
  refine ⟨x.r, x.p, x.dx, x.n, x.e, x.ps, k, wd, rfl, hA, fun z H' hR bt => ?_, fun z => ?_⟩
  · unfold mTakeW at h
    rw [if_pos z] at h
    exact h H' hR bt
  · unfold mTakeW at h
    rw [if_neg (by rw [z]; exact Bool.false_ne_true)] at h
    exact ErB.er h (But.refl _ _)
theorem o_takeQ (hA : x.At K H k) (h : Out K Q E H x V.str (mTakeQ x k)) : spTakeQ K [.ref x.r] H Q E := by
  refine ⟨x.r, x.p, x.dx, x.n, x.e, x.ps, k, rfl, hA, fun z pc hk H' hR bt => ?_, fun z => ?_⟩
  · unfold mTakeQ at h
    rw [if_pos z, hk] at h
    exact h H' hR bt
  · unfold mTakeQ at h
    rw [if_neg (by rw [z]; exact Bool.false_ne_true)] at h
    exact ErB.er h (But.refl _ _)
theorem o_takeN (hA : x.At K H k) (hl : (plainW x.ps k).length ≤ 1000000) (h : Out K Q E H x (fun m : Nat => .int m) (mTakeN x k)) : spTakeN K [.ref x.r] H Q E := by
  refine ⟨x.r, x.p, x.dx, x.n, x.e, x.ps, k, rfl, hA, hl, fun m z H' hR bt => ?_, fun z => ?_⟩
  · unfold mTakeN at h
    rw [z] at h
    exact h H' hR bt
  · unfold mTakeN at h
    rw [z] at h
    exact ErB.er h (But.refl _ _)
theorem o_takeC (hA : x.At K H k) (hl : (plainW x.ps k).length ≤ 1000000) (h : Out K Q E H x V.int (mTakeC x k)) : spTakeC K [.ref x.r] H Q E := by
  refine ⟨x.r, x.p, x.dx, x.n, x.e, x.ps, k, rfl, hA, hl, fun m z H' hR bt => ?_, fun z => ?_⟩
  · unfold mTakeC at h
    rw [z] at h
    exact h H' hR bt
  · unfold mTakeC at h
    rw [z] at h
    exact ErB.er h (But.refl _ _)
theorem o_range {b : Bool} (hA : x.At K H k) (k1 : 1 ≤ k) (h : Out K Q E H x (fun _ => .non) (mRange x k b)) : spRange K [.ref x.r, .bl b] H Q E := by
  refine ⟨x.r, x.p, x.dx, x.n, x.e, x.ps, k, b, rfl, hA, k1, fun z => ?_, fun z => ?_⟩
  · unfold mRange at h
    rw [if_pos z] at h
    exact h H hA (But.refl _ _)
  · unfold mRange at h
    rw [if_neg (by rw [z]; exact Bool.false_ne_true)] at h
    exact ErB.er h (But.refl _ _)
theorem o_finish (hA : x.At K H k) (h : Out K Q E H x (fun _ => .non) (mFinish x k)) : spFinish K [.ref x.r] H Q E := by
  refine ⟨x.r, x.p, x.dx, x.n, x.e, x.ps, k, rfl, hA, fun z => ?_, fun z => ?_⟩
  · unfold mFinish at h
    rw [if_neg (by omega)] at h
    exact h H hA (But.refl _ _)
  · unfold mFinish at h
    rw [if_pos z] at h
    exact ErB.er h (But.refl _ _)
theorem mBegin_k {wd : Str} {b : Bool} {a : Unit} {j : Nat} (h : mBegin x k wd b = .ok a j) : j = k + 1 := by
  unfold mBegin at h
  split at h
  · cases h; rfl
  · cases h
theorem mTakeQ_k {z : Str} {j : Nat} (h : mTakeQ x k = .ok z j) : j = k + 1 ∧ ∃ pc, x.ps[k]? = some pc ∧ z = pcS pc.txt := by
  unfold mTakeQ at h
  split at h
  · cases q : x.ps[k]? with
    | none => rw [q] at h; cases h
    | some pc => rw [q] at h; cases h; exact ⟨rfl, pc, rfl, rfl⟩
  · cases h
theorem mTakeN_k {m : Nat} {j : Nat} (h : mTakeN x k = .ok m j) : j = k + 1 := by
  unfold mTakeN at h
  split at h
  · cases h; rfl
  · cases h
theorem mTakeC_k {m : Int} {j : Nat} (h : mTakeC x k = .ok m j) : j = k + 1 := by
  unfold mTakeC at h
  split at h
  · cases h; rfl
  · cases h
theorem mRange_k {b : Bool} {a : Unit} {j : Nat} (h : mRange x k b = .ok a j) : j = k := by
  unfold mRange at h
  split at h
  · cases h; rfl
  · cases h
end
/-- all tokens are short (for now) -/
def Short (x : Rd) : Prop := ∀ pc ∈ x.ps, pc.txt.length ≤ 4000
theorem Short.plain {x : Rd} (h : Short x) (k : Nat) : (plainW x.ps k).length ≤ 1000000 := by
  unfold plainW
  cases z : x.ps[k]? with
  | none => show (0 : Nat) ≤ _; exact Nat.zero_le _
  | some pc =>
    show (if pc.quo = true then ("" : Str) else pcS pc.txt).length ≤ _
    have := h pc (List.mem_of_getElem? z)
    split
    · show (0 : Nat) ≤ _; exact Nat.zero_le _
    · rw [sl_len, sl_pcS]; omega
theorem Short.text {x : Rd} (h : Short x) {k : Nat} {pc : Pc} (z : x.ps[k]? = some pc) : (pcS pc.txt).length ≤ 4000 := by
  rw [sl_len, sl_pcS]
  exact h pc (List.mem_of_getElem? z)
def mSigns (x : Rd) (k : Nat) : Res Str := (mBegin x k "signs" true).bind fun _ k => (mTakeQ x k).bind fun z k => (mRange x k (signsB z)).bind fun _ k => (mFinish x k).bind fun _ k => .ok z k
def mModes (x : Rd) (k : Nat) : Res Nat := (mBegin x k "modes" true).bind fun _ k => (mTakeN x k).bind fun m k => (mRange x k (manyB m)).bind fun _ k => (mFinish x k).bind fun _ k => .ok m k
def mMode (x : Rd) (k : Nat) (modes : Int) : Res Nat := (mTakeN x k).bind fun m k => (mRange x k (modeB m modes)).bind fun _ k => .ok m k
section
variable {P : Program} {w : World} {K : PySem.W.Frag} {mg : Str → Option Value} {base : Heap}
theorem c2 {sp : Sp} {r a b : V} {Q : VK} {E : XK} {σ : L2.St} {H : Hp} (h : sp [r, a, b] H Q E) : (tCons (tC a) (tCons (tC b) tNil) : TA) σ H fun vs H2 => sp (r :: (vs ++ [])) H2 Q E := h
theorem c0 {sp : Sp} {r : V} {Q : VK} {E : XK} {σ : L2.St} {H : Hp} (h : sp [r] H Q E) : (tNil : TA) σ H fun vs H2 => sp (r :: (vs ++ [])) H2 Q E := h
theorem c1 {sp : Sp} {r a : V} {Q : VK} {E : XK} {σ : L2.St} {H : Hp} (h : sp [r, a] H Q E) : (tNil : TA) σ H fun vs H2 => sp (r :: (a :: vs ++ [])) H2 Q E := h
def spRSigns (K : PySem.W.Frag) : Sp := fun vs H Q E => ∃ (x : Rd) (k : Nat), vs = [.ref x.r] ∧ x.At K H k ∧ x.ps ≠ [] ∧ Short x ∧ Out K Q E H x V.str (mSigns x k)
def spRModes (K : PySem.W.Frag) : Sp := fun vs H Q E => ∃ (x : Rd) (k : Nat), vs = [.ref x.r] ∧ x.At K H k ∧ x.ps ≠ [] ∧ Short x ∧ Out K Q E H x (fun m : Nat => .int m) (mModes x k)
def spRMode (K : PySem.W.Frag) : Sp := fun vs H Q E => ∃ (x : Rd) (k : Nat) (m : Int), vs = [.ref x.r, .int m] ∧ x.At K H k ∧ Short x ∧ Out K Q E H x (fun m : Nat => .int m) (mMode x k m)
end
end Sx

set_option Elab.async false
set_option linter.all false
set_option maxRecDepth 100000
set_option maxHeartbeats 1000000
namespace Sx
open PySem PySem.Spec PyProof.Rows L2 SxA SxK
/-- .. where the value is told by the heap -/
def OutR {α : Type} (K : PySem.W.Frag) (Q : VK) (E : XK) (H : Hp) (x : Rd) (rel : α → V → Hp → Prop) : Res α → Prop
  | .ok a k => ∀ v H', x.At K H' k → But x.r H H' → rel a v H' → Q v H'
  | .err c w => ErB K E x.r H x.n c w
theorem OutR.step {α : Type} {K : PySem.W.Frag} {Q : VK} {E : XK} {H H1 : Hp} {x : Rd} {rel : α → V → Hp → Prop} {s : Res α} (h : OutR K Q E H x rel s) (b : But x.r H H1) : OutR K Q E H1 x rel s := by
  cases s with
  | ok a k => exact fun v H' hA b2 hr => h v H' hA (b.trans b2) hr
  | err c w => exact ErB.step h b
theorem OutR.bind {α β : Type} {K : PySem.W.Frag} {Q Q1 : VK} {E : XK} {H : Hp} {x : Rd} {rel : β → V → Hp → Prop} {val1 : α → V} {s : Res α} {f : α → Nat → Res β} (h : OutR K Q E H x rel (s.bind f))
    (next : ∀ a k H', s = .ok a k → x.At K H' k → But x.r H H' → OutR K Q E H' x rel (f a k) → Q1 (val1 a) H') : Out K Q1 E H x val1 s := by
  cases s with
  | ok a k => exact fun H' hA b => next a k H' rfl hA b (OutR.step h b)
  | err c w => exact h
theorem OutR.bindR {α β : Type} {K : PySem.W.Frag} {Q Q1 : VK} {E : XK} {H : Hp} {x : Rd} {rel : β → V → Hp → Prop} {rel1 : α → V → Hp → Prop} {s : Res α} {f : α → Nat → Res β} (h : OutR K Q E H x rel (s.bind f))
    (next : ∀ a k v H', s = .ok a k → x.At K H' k → But x.r H H' → rel1 a v H' → OutR K Q E H' x rel (f a k) → Q1 v H') : OutR K Q1 E H x rel1 s := by
  cases s with
  | ok a k => exact fun v H' hA b hr => next a k v H' rfl hA b hr (OutR.step h b)
  | err c w => exact h
def mMore (x : Rd) : Nat → Nat → List Int → Res (List Int)
  | 0, k, acc => .ok acc k
  | f + 1, k, acc => match cellW (sl (plainW x.ps k)) with
    | none => .ok acc k
    | some c => if acc.length + 1 ≤ 4 then mMore x f (k + 1) (acc ++ [c]) else .err (rangeCol x.ps (k + 1)) "range"
def mCells (x : Rd) (k : Nat) : Res (List Int) := (mTakeC x k).bind fun c k => mMore x (x.ps.length + 1 - k) k [c]
def mNear (x : Rd) (k : Nat) (wd z : Str) (e : Nat) : Res (Option Str) := if seesB x.ps k "plain" wd = true then (mTakeW x k wd).bind fun _ k => (mTakeQ x k).bind fun t k => (mRange x k (nearB (some t) z e)).bind fun _ k => .ok (some t) k else .ok none k
def relC (cs : List Int) (v : V) (H : Hp) : Prop := ∃ l, v = .ref l ∧ H l = some (.lst (cs.map V.int))
theorem mTakeW_k {x : Rd} {k : Nat} {wd : Str} {a : Unit} {j : Nat} (h : mTakeW x k wd = .ok a j) : j = k + 1 := by
  unfold mTakeW at h
  split at h
  · cases h; rfl
  · cases h
theorem plain_end {ps : List Pc} {k : Nat} (h : ps.length ≤ k) : plainW ps k = "" := by
  unfold plainW
  rw [List.getElem?_eq_none h]
theorem RdAt.list {K : PySem.W.Frag} {H : Hp} {r p dx l : Addr} {n e : Int} {ps : List Pc} {k : Nat} {o : HO} {xs : List V} (h : RdAt K H r p dx n e ps k) (hl : H l = some (.lst xs)) (ne : l ≠ p) : RdAt K (upd H l o) r p dx n e ps k := by
  have lr : r ≠ l := fun z => by
    rw [← z, h.ins] at hl
    cases hl
  refine ⟨by rw [upd_ne lr]; exact h.ins, ?_, h.n0, h.e0, h.cols, h.few, h.top, h.fine⟩
  obtain ⟨vs, h1, h2⟩ := h.parts
  refine ⟨vs, by rw [upd_ne ne.symm]; exact h1, h2.map fun T ys hT => ?_⟩
  have tl : T ≠ l := fun z => by
    rw [z, hl] at hT
    cases hT
  rw [upd_ne tl]
  exact hT
theorem But.putN {a l : Addr} {H H' : Hp} {o : HO} (b : But a H H') (hl : H l = Option.none) : But a H (upd H' l o) := fun c u e hc => by
  rw [upd_ne (ne_of_none e hl)]
  exact b c u e hc
section
variable {P : Program} {w : World} {K : PySem.W.Frag} {mg : Str → Option Value} {base : Heap}
def spRCells (K : PySem.W.Frag) : Sp := fun vs H Q E => ∃ (x : Rd) (k : Nat), vs = [.ref x.r] ∧ x.At K H k ∧ Short x ∧ OutR K Q E H x relC (mCells x k)
end
end Sx

set_option Elab.async false
set_option linter.all false
set_option maxRecDepth 100000
set_option maxHeartbeats 1000000
namespace Sx
open PySem PySem.Spec PyProof.Rows L2 SxA SxK
theorem cCV {sp : Sp} {r a b : V} {i : Nat} {Q : VK} {E : XK} {σ : L2.St} {H : Hp} (hb : σ[i]? = some (some b)) (h : sp [r, a, b] H Q E) : (tCons (tC a) (tCons (tVar i) tNil) : TA) σ H fun vs H2 => sp (r :: (vs ++ [])) H2 Q E := ⟨b, hb, h⟩
theorem c1c {sp : Sp} {r a : V} {Q : VK} {E : XK} {σ : L2.St} {H : Hp} (h : sp [r, a] H Q E) : (tCons (tC a) tNil : TA) σ H fun vs H2 => sp (r :: (vs ++ [])) H2 Q E := h
section
variable {P : Program} {w : World} {K : PySem.W.Frag} {mg : Str → Option Value} {base : Heap}
def spRNear (K : PySem.W.Frag) : Sp := fun vs H Q E => ∃ (x : Rd) (k : Nat) (wd z : Str) (e : Nat), vs = [.ref x.r, .str wd, .str z, .str (sg e)] ∧ x.At K H k ∧ Short x ∧ Out K Q E H x oV (mNear x k wd z e)
abbrev nsRNear : List Str := ["reader", "word", "signs", "edge", "text"]
/-! ### read_rule -/
def mRule (x : Rd) (k : Nat) (z : Str) (modes : Int) (more : Bool) : Res RD :=
  (mBegin x k "rule" more).bind fun _ k => (mMode x k modes).bind fun m k => (mTakeQ x k).bind fun t k => (mRange x k (textB t z)).bind fun _ k => (mTakeW x k "=").bind fun _ k => (mCells x k).bind fun cs k =>
  (mTakeW x k "to").bind fun _ k => (mMode x k modes).bind fun to k => (mNear x k "ahead" z 94).bind fun a k => (mNear x k "behind" z 36).bind fun b k => (mFinish x k).bind fun _ k => .ok ⟨m, t, cs, to, a, b⟩ k
def spRRule (K : PySem.W.Frag) : Sp := fun vs H Q E => ∃ (x : Rd) (k : Nat) (z : Str) (modes : Int) (b : Bool), vs = [.ref x.r, .str z, .int modes, .bl b] ∧ x.At K H k ∧ x.ps ≠ [] ∧ Short x ∧ OutR K Q E H x (fun r v H' => RuleO K H' v r) (mRule x k z modes b)
abbrev nsRRule : List Str := ["reader", "signs", "modes", "more", "mode", "text", "cells", "to", "ahead", "behind"]
end
end Sx

set_option Elab.async false
set_option linter.all false
set_option maxRecDepth 100000
set_option maxHeartbeats 1000000
namespace Sx
open PySem PySem.Spec PyProof.Rows L2 SxA SxK
/-! ### lines_of -/
def nlS : Str := "\n"
def cutL (ls : List Str) : List Str := if ls.getLast? = some ("" : Str) then ls.dropLast else ls
def linesL (z : Str) : List Str := cutL (Txt.split z nlS)
theorem spl_ne (S : List Nat) : ∀ (t : List Nat) (k : Nat) (acc : List Nat), TL.spl S k acc t ≠ [] := by
  intro t
  induction t with
  | nil => intro k acc; unfold TL.spl; exact List.cons_ne_nil _ _
  | cons c r ih =>
    intro k acc
    cases k with
    | zero =>
      unfold TL.spl
      by_cases h : TL.pre S (c :: r) = true
      · rw [if_pos h]; exact List.cons_ne_nil _ _
      · rw [if_neg h]; exact ih _ _
    | succ k => unfold TL.spl; exact ih _ _
theorem split_ne (z : Str) : Txt.split z nlS ≠ [] := by
  intro h
  have e := TL.split_spl z nlS (by decide +kernel) (TL.kind_ok (by decide +kernel))
  rw [h] at e
  exact spl_ne _ _ _ _ e.symm
section
variable {P : Program} {w : World} {K : PySem.W.Frag} {mg : Str → Option Value} {base : Heap}
def spLines : Sp := fun vs H Q _ => ∃ z : Str, vs = [.str z] ∧ z.length + 2 ≤ sizeLine ∧ ∀ H' p, Same H H' → H p = none → H' p = some (.lst ((linesL z).map V.str)) → Q (.ref p) H'
abbrev nsLinesOf : List Str := ["text", "lines"]
theorem scLinesOf : FnScope nsLinesOf ["text"] (defScope sLinesOf) := ⟨rfl, rfl, rfl, by decide +kernel, rfl, by decide +kernel, by decide +kernel⟩
theorem ok_linesOf (t : T K mg) : Ok P w K mg base 1 "lines_of" ["text"] spLines := by
  refine mkOk t.d_lines_of t.g_lines_of scLinesOf (fun vs H Q E h => ?_) (fun _ _ _ _ _ _ us hl => match us, hl with | [_], _ => rfl) fun cdv A outer s H vs Q E hr h => ?_
  · obtain ⟨z, rfl, _⟩ := h; rfl
  obtain ⟨z, rfl, hz, k⟩ := h
  refine ⟨_, pss_cons (ps_set (i := 1) scLinesOf.nd rfl (Or.inl rfl) (pe_split (pv 0) pe_str))
    (pss_cons (ps_if (pt_cmpR op_eq (pe_ix ix_list (pv 1) (pe_un un_neg pe_int) (fun _ _ => rfl)) pe_str (nomark _)) (pss_one (ps_expr (pe_bm0 PySem.F.plainAttrs_list PySem.F.slot_list_pop PySem.F.type_list_pop mt_pop (pv 1)))) pss_nil)
    (pss_one (ps_ret (pv 1)))), ?_⟩
  refine ⟨_, rfl, ⟨_, rfl⟩, _, _, rfl, rfl, by decide +kernel, hz, fun p hp => ?_⟩
  have en : (Str.ofString "\n") = nlS := rfl
  rw [en]
  unfold linesL at k
  have hne := split_ne z
  generalize Txt.split z nlS = ls at k hne
  obtain ⟨ds, l, rfl⟩ : ∃ ds l, ls = ds ++ [l] := ⟨ls.dropLast, ls.getLast hne, (List.dropLast_concat_getLast hne).symm⟩
  have em : (ds ++ [l]).map V.str = ds.map V.str ++ [V.str l] := by rw [List.map_append]; rfl
  refine ⟨_, rfl, _, rfl, p, (ds ++ [l]).map V.str, -1, .str l, rfl, rfl, SqL.of upd_same, by rw [em]; exact atI_last _ _, rfl, _, rfl, ?_⟩
  have sm : Same H (upd H p (.lst ((ds ++ [l]).map V.str))) := Same.new hp
  unfold cutL at k
  rw [List.getLast?_concat, List.dropLast_concat] at k
  refine ite2 (fun h1 => ?_) (fun h1 => ?_)
  · have e1 := V.str.inj (of_decide_eq_true h1)
    rw [if_pos (by rw [e1])] at k
    refine ⟨_, rfl, .inl ⟨rfl, _, SqL.of upd_same⟩, p, _, .str l, rfl, rfl, upd_same, ?_, ?_⟩
    · rw [em]; simp
    · refine ⟨_, rfl, k _ p (fun b o e => ?_) hp ?_⟩
      · rw [upd_ne (ne_of_none e hp)]; exact sm b o e
      · rw [upd_same, em, List.dropLast_concat]
  · have e1 : ¬ some l = some ("" : Str) := fun y => h1 (decide_eq_true (by rw [Option.some.inj y]))
    rw [if_neg e1] at k
    exact ⟨_, rfl, k _ p sm hp upd_same⟩
/-! ### write_cell -/
def dgS (i : Int) : Str := toString i
def dotsT (c : Int) : Str := Txt.join (Str.ofString "") ((dotsL c).map dgS)
def cellS (c : Int) : Str := if (dotsT c).length = 0 then "-" else dotsT c
theorem dotsL_mem {c d : Int} (h : d ∈ dotsL c) : 1 ≤ d ∧ d ≤ 6 := by
  unfold dotsL at h
  obtain ⟨i, hi, rfl⟩ := List.mem_map.mp h
  have := List.mem_range.mp (List.mem_filter.mp hi).1
  omega
theorem dotsL_len (c : Int) : (dotsL c).length ≤ 6 := by
  unfold dotsL
  rw [List.length_map]
  exact Nat.le_trans (List.length_filter_le _ _) (by rw [List.length_range]; exact Nat.le_refl 6)
theorem dg_one {d : Int} (h : 1 ≤ d ∧ d ≤ 6) : (dgS d).length = 1 := by
  have : d = 1 ∨ d = 2 ∨ d = 3 ∨ d = 4 ∨ d = 5 ∨ d = 6 := by omega
  rcases this with rfl | rfl | rfl | rfl | rfl | rfl <;> decide +kernel
theorem dg_sum : ∀ ds : List Int, (∀ d ∈ ds, 1 ≤ d ∧ d ≤ 6) → ((ds.map dgS).map (·.length)).sum = ds.length
  | [], _ => rfl
  | d :: r, h => by
    rw [List.map_cons, List.map_cons, List.sum_cons, dg_sum r fun x hx => h x (List.mem_cons_of_mem _ hx), dg_one (h d List.mem_cons_self), List.length_cons]
    omega
theorem dg_join : ∀ ds : List Int, (∀ d ∈ ds, 1 ≤ d ∧ d ≤ 6) → sl (Txt.join (Str.ofString "") (ds.map dgS)) = ds.map fun d => 48 + d.toNat := by
  intro ds h
  have e : ds.map dgS = (ds.map fun d : Int => 48 + d.toNat).map sg := by
    rw [List.map_map]
    refine List.map_congr_left fun d hd => ?_
    have : d = 1 ∨ d = 2 ∨ d = 3 ∨ d = 4 ∨ d = 5 ∨ d = 6 := by have := h d hd; omega
    rcases this with rfl | rfl | rfl | rfl | rfl | rfl <;> decide +kernel
  rw [e, join_sg]
def spWCell : Sp := fun vs H Q _ => ∃ c : Int, vs = [.int c] ∧ ∀ H', Same H H' → Q (.str (cellS c)) H'
abbrev nsWCell : List Str := ["cell", "dot"]
end
end Sx

set_option Elab.async false
set_option linter.all false
set_option maxRecDepth 100000
set_option maxHeartbeats 1000000
namespace Sx
open PySem PySem.Spec PyProof.Rows L2 SxA SxK
/-! ### replacing one sign -/
def repC (c : Nat) (z : Str) (k : Nat) : List Nat := if k = c then sl z else [k]
theorem rep_free (c : Nat) (z : Str) : ∀ l : List Nat, c ∉ l → l.flatMap (repC c z) = l
  | [], _ => rfl
  | k :: r, h => by
    have h1 : ¬ k = c := fun e => h (e ▸ List.mem_cons_self ..)
    rw [List.flatMap_cons, rep_free c z r fun m => h (List.mem_cons_of_mem _ m)]
    unfold repC
    rw [if_neg h1]
    rfl
theorem rep_join (c : Nat) (z : Str) : ∀ parts : List Str, (∀ p ∈ parts, c ∉ p.cps.toList) → (sl (Str.join ⟨#[c]⟩ parts)).flatMap (repC c z) = sl (Str.join z parts)
  | [], _ => rfl
  | [p], h => rep_free c z _ (h p (List.mem_singleton.mpr rfl))
  | p :: q :: r, h => by
    have ih := rep_join c z (q :: r) fun a ha => h a (List.mem_cons_of_mem _ ha)
    show (sl (p ++ ⟨#[c]⟩ ++ Str.join ⟨#[c]⟩ (q :: r))).flatMap _ = sl (p ++ z ++ Str.join z (q :: r))
    rw [sl_app, sl_app, sl_app, sl_app, List.flatMap_append, List.flatMap_append, ih, rep_free c z _ (h p (List.mem_cons_self ..))]
    have e : ([c] : List Nat).flatMap (repC c z) = sl z := by simp [repC]
    show sl p ++ ([c] : List Nat).flatMap (repC c z) ++ _ = _
    rw [e]
theorem sl_repl (x z : Str) (c : Nat) : sl (Txt.replace x ⟨#[c]⟩ z) = (sl x).flatMap (repC c z) := by
  rw [StrLaws.replace_one, ← rep_join c z _ (StrLaws.split_free x c), StrLaws.join_split]
def escC (c : Nat) : List Nat := if c = 34 ∨ c = 92 then [92, c] else [c]
def escL (l : List Nat) : List Nat := l.flatMap escC
theorem escC_len (c : Nat) : (escC c).length ≤ 2 := by
  unfold escC
  split
  · exact Nat.le_refl _
  · exact Nat.le_succ _
theorem escL_len (l : List Nat) : (escL l).length ≤ 2 * l.length := by
  induction l with
  | nil => exact Nat.le_refl _
  | cons c r ih =>
    have := escC_len c
    unfold escL at ih ⊢
    rw [List.flatMap_cons, List.length_append, List.length_cons]
    omega
theorem escL_snoc (l : List Nat) (c : Nat) : escL (l ++ [c]) = escL l ++ escC c := by
  unfold escL
  rw [List.flatMap_append]
  simp
theorem esc_two (l : List Nat) : (l.flatMap (repC 92 "\\\\")).flatMap (repC 34 "\\\"") = escL l := by
  have e1 : sl ("\\\\" : Str) = [92, 92] := by decide +kernel
  have e2 : sl ("\\\"" : Str) = [92, 34] := by decide +kernel
  induction l with
  | nil => rfl
  | cons c r ih =>
    rw [List.flatMap_cons, List.flatMap_append, ih]
    show _ = escC c ++ escL r
    congr 1
    unfold repC escC
    rw [e1, e2]
    by_cases h1 : c = 92
    · subst h1; decide
    · rw [if_neg h1]
      by_cases h2 : c = 34
      · subst h2; decide
      · rw [if_neg (by omega)]
        simp [h2]
theorem rep_len (c : Nat) (z : Str) (l : List Nat) (hz : (sl z).length ≤ 2) : (l.flatMap (repC c z)).length ≤ 2 * l.length := by
  induction l with
  | nil => exact Nat.le_refl _
  | cons k r ih =>
    rw [List.flatMap_cons, List.length_append, List.length_cons]
    have : (repC c z k).length ≤ 2 := by
      unfold repC
      split
      · exact hz
      · exact Nat.le_succ _
    omega
def quoS (x : Str) : Str := ⟨(34 :: (escL (sl x) ++ [34])).toArray⟩
theorem sl_quoS (x : Str) : sl (quoS x) = 34 :: (escL (sl x) ++ [34]) := by unfold quoS; simp
/-! ### a def whose body wants a token -/
section
variable {P : Program} {w : World} {K : PySem.W.Frag} {mg : Str → Option Value} {base : Heap}
theorem mkOkT {x : Str} {st : Stmt} {N ps : List Str} {k : Nat} {sp : Sp} (d : Fd K x st) (hx : mg x = some (.ref (He.ga K x))) (S : FnScope N ps (defScope st)) (hnc : ∀ y ∈ (defScope st).names, y.2 ≠ .cell) (hps : 1 ≤ ps.length) (len : ∀ vs H Q E, sp vs H Q E → vs.length = ps.length)
    (bnd : ∀ (kV doc pm : Value) (an : Option Addr) (cdv ct : Value) (us : List Value), us.length = ps.length → bindArgs (PySem.W.fnOf x x (defArgs st) (defBody st) (defScope st) .none kV doc pm an cdv ct) ⟨us, []⟩ = pure (ps.zip us))
    (body : ∀ (cdv : Value) (A : Around) (outer : List Env) (s : Shared) (H0 : Hp) (vs : List V) (Q : VK) (E : XK), Room k (A.deeper (envOfC x (defScope st) s.heap.objs.size (He.ga K x) cdv)) → sp vs H0 Q E →
      ∃ t, PSsT (cxOf CX0 P w K mg base N x (defScope st) (He.ga K x) cdv A outer s H0 E) (defBody st) t ∧ t { nx := fun _ H' => Q .non H', rt := Q } (start N vs) H0) : Ok P w K mg base (k + 1) x ps sp := by
  obtain ⟨fd, F⟩ := d
  obtain ⟨oc, od, dV, kV, doc, pm, an, cdv, ct, osl, rfl, lk, hcd, _, _⟩ := F.ex
  exact ⟨_, L2.fn_ofT lk hcd S hnc hps len fun A outer s H vs Q E hr h => body cdv A outer s H vs Q E hr h, F.bindsN bnd, F.kp, hx⟩
theorem pst_set {X : Cx} {i : Nat} {x : Str} {e : Expr} {te : TE} {pos pos' : Pos} (hN : X.N.Nodup) (hi : X.N[i]? = some x) (hx : Loc X.env.scope x) (he : PET X e te) (hs : swapsWith e (some (.Name x pos')) pos.line X.env = pure false := by rfl)
    (hf : X.fn x = true ∨ X.env.scope.names.lookup x = some .local := by first | exact .inl rfl | exact .inr rfl | assumption) : PST X (.Assign [.Name x pos'] e pos) (tAsg te (gName i)) := by
  intro pins s σ H D h0 I h
  refine wpAny_Assign_Name (thn (he pins s σ H _ h0 I h) fun v s1 ⟨y, H1, I1, r1, q1⟩ => ?_) hs
  exact store_ok I1 hN hi hx r1 (fun s2 I2 => ⟨_, H1, I2, q1⟩) hf
def spWQ : Sp := fun vs H Q _ => ∃ x : Str, vs = [.str x] ∧ x.length ≤ 1000000 ∧ Q (.str (quoS x)) H
abbrev nsWQ : List Str := ["text", "inside"]
end
end Sx

set_option Elab.async false
set_option linter.all false
set_option maxRecDepth 100000
set_option maxHeartbeats 1000000
namespace Sx
open PySem PySem.Spec PyProof.Rows L2 SxA SxK
/-! ### ended -/
def endS (ls : List Str) : Str := Txt.join (Str.ofString "") (ls.map fun l => l ++ Str.ofString "\n")
def lenSum (ls : List Str) : Nat := (ls.map (·.length)).sum
theorem lenSum_le {B : Nat} : ∀ {ls : List Str}, (∀ l ∈ ls, l.length ≤ B) → lenSum ls ≤ ls.length * B
  | [], _ => Nat.zero_le _
  | l :: r, h => by
    have h1 := h l List.mem_cons_self
    have h2 := lenSum_le (B := B) (ls := r) fun x hx => h x (List.mem_cons_of_mem _ hx)
    unfold lenSum at h2 ⊢
    rw [List.map_cons, List.sum_cons, List.length_cons, Nat.add_mul]
    omega
section
variable {P : Program} {w : World} {K : PySem.W.Frag} {mg : Str → Option Value} {base : Heap}
def spEnded (K : PySem.W.Frag) : Sp := fun vs H Q _ => ∃ (a : Addr) (ls : List Str), vs = [.ref a] ∧ SqL K H a (ls.map V.str) ∧ ls.length ≤ 4002 ∧ (∀ l ∈ ls, l.length ≤ 4000) ∧ ∀ H', Same H H' → Q (.str (endS ls)) H'
abbrev nsEnded : List Str := ["lines", "line"]
/-! ### write_rule -/
def nearW (word : Str) : Option Str → List Str
  | none => []
  | some x => [word, quoS x]
def ruleWs (r : RD) : List Str := ([("rule" : Str), dgS r.mode, quoS r.text, ("=" : Str)] ++ r.cells.map cellS) ++ [("to" : Str), dgS r.to] ++ nearW "ahead" r.ahead ++ nearW "behind" r.behind
def ruleS (r : RD) : Str := Txt.join (Str.ofString " ") (ruleWs r)
structure WFine (r : RD) : Prop where
  mode : 0 ≤ r.mode ∧ r.mode ≤ 9
  to : 0 ≤ r.to ∧ r.to ≤ 9
  text : r.text.length ≤ 4000
  cells : r.cells.length ≤ 1000
  ahead : ∀ x, r.ahead = some x → x.length ≤ 4000
  behind : ∀ x, r.behind = some x → x.length ≤ 4000
theorem quoS_len (x : Str) : (quoS x).length ≤ 2 * x.length + 2 := by
  rw [sl_len, sl_quoS, List.length_cons, List.length_append, sl_len x]
  have := escL_len (sl x)
  simp
  omega
theorem cellS_len (c : Int) : (cellS c).length ≤ 6 := by
  have h1 : (dotsT c).length ≤ 6 := by
    unfold dotsT
    rw [sl_len, dg_join _ fun d => dotsL_mem, List.length_map]
    exact dotsL_len c
  unfold cellS
  split
  · exact (by decide +kernel : ("-" : Str).length ≤ 6)
  · exact h1
theorem dg_small {d : Int} (h : 0 ≤ d ∧ d ≤ 9) : (dgS d).length = 1 ∧ d.natAbs.log2 < 1920 := by
  have : d = 0 ∨ d = 1 ∨ d = 2 ∨ d = 3 ∨ d = 4 ∨ d = 5 ∨ d = 6 ∨ d = 7 ∨ d = 8 ∨ d = 9 := by omega
  rcases this with rfl | rfl | rfl | rfl | rfl | rfl | rfl | rfl | rfl | rfl <;> decide +kernel
theorem near_len {o : Option Str} {word : Str} (hw : word.length ≤ 10) (h : ∀ x, o = some x → x.length ≤ 4000) : (nearW word o).length ≤ 2 ∧ ∀ y ∈ nearW word o, y.length ≤ 8002 := by
  cases o with
  | none => exact ⟨Nat.zero_le _, fun y hy => by cases hy⟩
  | some x =>
    refine ⟨Nat.le_refl _, fun y hy => ?_⟩
    have := quoS_len x
    have := h x rfl
    rcases List.mem_cons.mp hy with rfl | hy
    · omega
    · rw [List.mem_singleton.mp hy]; omega
theorem ruleWs_fits {r : RD} (f : WFine r) : ((ruleWs r).map (·.length)).sum + (ruleWs r).length * 1 ≤ 16777216 ∧ (ruleWs r).length ≤ 1010 := by
  obtain ⟨a1, a2⟩ := near_len (word := "ahead") (by decide +kernel) f.ahead
  obtain ⟨b1, b2⟩ := near_len (word := "behind") (by decide +kernel) f.behind
  have hc := f.cells
  have hl : (ruleWs r).length ≤ 1010 := by
    unfold ruleWs
    simp only [List.length_append, List.length_map, List.length_cons, List.length_nil]
    omega
  have hs := lenSum_le (B := 8002) (ls := ruleWs r) fun y hy => by
    unfold ruleWs at hy
    simp only [List.mem_append, List.mem_cons, List.not_mem_nil, or_false, List.mem_map] at hy
    have q := quoS_len r.text
    have ft := f.text
    have m1 := (dg_small f.mode).1
    have m2 := (dg_small f.to).1
    have w1 : ("rule" : Str).length ≤ 10 := by decide +kernel
    have w2 : ("=" : Str).length ≤ 10 := by decide +kernel
    have w3 : ("to" : Str).length ≤ 10 := by decide +kernel
    rcases hy with (((h | h) | h) | h) | h
    · rcases h with rfl | rfl | rfl | rfl <;> omega
    · obtain ⟨c, _, rfl⟩ := h
      have := cellS_len c
      omega
    · rcases h with rfl | rfl <;> omega
    · exact a2 _ h
    · exact b2 _ h
  unfold lenSum at hs
  have : (ruleWs r).length * 8002 ≤ 1010 * 8002 := Nat.mul_le_mul_right _ hl
  omega
def spWRule (K : PySem.W.Frag) : Sp := fun vs H Q _ => ∃ (v : V) (r : RD), vs = [v] ∧ RuleO K H v r ∧ WFine r ∧ ∀ H', Same H H' → Q (.str (ruleS r)) H'
abbrev nsWRule : List Str := ["rule", "words", "cell"]
end
end Sx

set_option Elab.async false
set_option linter.all false
set_option maxRecDepth 100000
set_option maxHeartbeats 1000000
namespace Sx
open PySem PySem.Spec PyProof.Rows L2 SxA SxK
/-! ### write_table -/
def sgL (z : Str) : Str := Str.empty ++ Str.ofString "signs " ++ quoS z
def mdL (m : Int) : Str := Str.empty ++ Str.ofString "modes " ++ dgS m
def tableLs (d : TD) : List Str := [sgL d.signs, mdL d.modes] ++ d.rules.map ruleS
def tableS (d : TD) : Str := endS (tableLs d)
structure TFine (d : TD) : Prop where
  signs : d.signs.length ≤ 1000
  modes : 0 ≤ d.modes ∧ d.modes ≤ 9
  few : d.rules.length ≤ 4000
  rules : ∀ r ∈ d.rules, WFine r ∧ (ruleS r).length ≤ 4000
section
variable {P : Program} {w : World} {K : PySem.W.Frag} {mg : Str → Option Value} {base : Heap}
def spWTable (K : PySem.W.Frag) : Sp := fun vs H Q _ => ∃ (v : V) (d : TD), vs = [v] ∧ TableO K H v d ∧ TFine d ∧ ∀ H', Same H H' → Q (.str (tableS d)) H'
abbrev nsWTable : List Str := ["table", "first", "rule"]
end
end Sx

set_option Elab.async false
set_option linter.all false
set_option maxRecDepth 100000
set_option maxHeartbeats 1000000
namespace Sx
open PySem PySem.Spec PyProof.Rows L2 SxA SxK
section
variable {P : Program} {w : World} {K : PySem.W.Frag} {mg : Str → Option Value} {base : Heap}
/-! ### _law_quoted -/
def spLQ : Sp := fun vs H Q _ => ∃ x : Str, vs = [.str x] ∧ x.length ≤ 1000 ∧ ∀ y : Str, sl y = 34 :: (escL (sl x) ++ [34]) → Q (.str y) H
abbrev nsLQ : List Str := ["text", "inner", "char"]
end
end Sx

set_option Elab.async false
set_option linter.all false
set_option maxRecDepth 100000
set_option maxHeartbeats 1000000
namespace Sx
open PySem PySem.Spec PyProof.Rows L2 SxA SxK
/-! ### _law_cell -/
def p2 : List Int := [1, 2, 4, 8, 16, 32]
def onB (c : Int) (i : Nat) : Bool := decide (c / (p2[i]?.getD 1) % 2 = 1)
def onL (c : Int) (n : Nat) : List Nat := ((List.range n).filter (onB c)).map fun i => 49 + i
theorem onL_succ (c : Int) (n : Nat) : onL c (n + 1) = onL c n ++ if onB c n = true then [49 + n] else [] := by
  unfold onL
  rw [List.range_succ, List.filter_append, List.map_append]
  by_cases h : onB c n = true
  · rw [if_pos h]; simp [List.filter_cons, h]
  · rw [if_neg h]; simp [List.filter_cons, h]
theorem onL_len (c : Int) (n : Nat) : (onL c n).length ≤ n := by
  unfold onL
  rw [List.length_map]
  have := List.length_filter_le (onB c) (List.range n)
  rw [List.length_range] at this
  exact this
theorem onL_dots {c : Int} (h : 0 ≤ c ∧ c ≤ 63) : (dotsL c).map (fun d => 48 + d.toNat) = onL c 6 := by
  have k : ∀ n : Fin 64, (dotsL ((n.val : Nat) : Int)).map (fun d => 48 + d.toNat) = onL ((n.val : Nat) : Int) 6 := by decide +kernel
  obtain ⟨n, rfl⟩ : ∃ n : Nat, c = (n : Int) := ⟨c.toNat, by omega⟩
  exact k ⟨n, by omega⟩
section
variable {P : Program} {w : World} {K : PySem.W.Frag} {mg : Str → Option Value} {base : Heap}
def spLCell : Sp := fun vs H Q _ => ∃ c : Int, vs = [.int c] ∧ 0 ≤ c ∧ c ≤ 63 ∧ ∀ H', Same H H' → Q (.str (cellS c)) H'
abbrev nsLCell : List Str := ["cell", "text", "dot"]
end
end Sx

set_option Elab.async false
set_option linter.all false
set_option maxRecDepth 100000
set_option maxHeartbeats 4000000
namespace SxK
open PySem PySem.Spec PyProof.Rows L2
/-! ### for i, x in enumerate(list, start=1) -/
def Iso (K : PySem.W.Frag) (a : Addr) : It :=
  ⟨fun i H => ∃ (xs : List V) (x : V), SqL K H a xs ∧ xs[i]? = some x, fun i H v H' => ∃ T x, v = .ref T ∧ H T = none ∧ H' = upd H T (.tup [.int ((i + 1 : Nat) : Int), x]) ∧ ∀ xs, SqL K H a xs → xs[i]? = some x, fun i H => ∃ xs : List V, SqL K H a xs ∧ xs.length ≤ i⟩
theorem drawsS {P : Program} {w : World} {A : Around} (hh : A.handled = none) (it l : Addr) (hne : l ≠ it) (items : Array Value) :
    Draws P w A it [it, l] (items.size + 1) (fun j v => 1 ≤ j ∧ items[j - 1]? = some v) (fun j h => 1 ≤ j ∧ h.IsListIter it l (j - 1) ∧ h.IsList l items) where
  live := fun j h st => (Draws.list (prog := P) (w := w) hh it l hne items).live (j - 1) h st.2
  frame := fun j h h' st k => ⟨st.1, (Draws.list (prog := P) (w := w) hh it l hne items).frame (j - 1) h h' st.2 k⟩
  item := fun j s Q E hj st hQ => (Draws.list (prog := P) (w := w) hh it l hne items).item (j - 1) s Q E (by have := st.1; omega) st.2 fun x h' tk hx st' sb => by
    have e : j - 1 + 1 = j + 1 - 1 := by have := st.1; omega
    rw [e] at st'
    exact hQ x h' tk ⟨st.1, hx⟩ ⟨Nat.le_add_left 1 j, st'⟩ sb
  done := fun s Q E st hE => (Draws.list (prog := P) (w := w) hh it l hne items).done s Q E st.2 hE
theorem enum_endS {P : Program} {w : World} {A : Around} {E : Value → Shared → Prop} {s : Shared} {e it l : Addr} {j : Int} {i : Nat} {items : Array Value} {old : Value} {Q : Option Value → Shared → Prop} (hh : A.handled = none) (he : IsEnum s.heap e it j old)
    (hit : s.heap.IsListIter it l i) (hl : s.heap.IsList l items) (hx : items[i]? = none) (hQ : ∀ h', Heap.ExtBut it s.heap h' → Q none { s with heap := h' }) : wpAny (model P w) A (pyNext (.ref e)) Q E s := by
  have tyE : s.TypeIs (.ref e) "enumerate" := ⟨_, he, rfl⟩
  unfold pyNext; refine wpAny_bind (wpAny_attempt (wpAny_callSpecial?_slot (name := Str.ofString "__next__") tyE F.slot_enumerate_next (wpAny_call_entry F.slot_enumerate_next tyE F.entry_enumerate_next ?_ (F.args_enumerate_next_1 _))))
  show wpAny _ _ (field (.ref e) 2 >>= _) _ _ _; refine wpAny_bind (wpAny_field he rfl (x := .ref it) rfl (wpAny_bind (wpAny_nextOf_list_end hh hit hl hx fun h' x eb hx' => ?_)))
  rcases hx' with ⟨o, ho, hcl⟩
  exact wpAny_bind (wpAny_isInstance (T := "StopIteration") (b := true) ⟨o, ho, hcl⟩ isSubtype_stop (wpAny_pure (hQ _ eb)))
theorem turn_enumS {P : Program} {w : World} {K : PySem.W.Frag} {elts : List Expr} {kk : Nat} {tpos : Pos} (a e it : Addr) :
    Turn P w K (.Tuple elts kk tpos) (Iso K a) [e, it] e (fun i h => (∃ old, IsEnum h e it ((i + 1 : Nat) : Int) old) ∧ h.IsListIter it a i ∧ e ≠ it ∧ e ≠ a ∧ a ≠ it) where
  mem := List.mem_cons_self
  obj := fun i h st b hb => by
    obtain ⟨⟨old, he⟩, ⟨o, ho, hcl, hdt⟩, _⟩ := st
    rcases List.mem_cons.mp hb with q | q
    · subst q; exact ⟨_, he, fun v n => nomatch n⟩
    · rw [List.mem_singleton.mp q]; exact ⟨o, ho, fun v n => by rw [hdt] at n; cases n⟩
  keep := fun i h h' st k => by
    obtain ⟨⟨old, he⟩, ⟨o, ho, r⟩, hne⟩ := st
    exact ⟨⟨old, k e List.mem_cons_self _ he⟩, ⟨o, k it (List.mem_cons_of_mem _ List.mem_cons_self) o ho, r⟩, hne⟩
  item := by
    intro X hP hw hK hc i pins s σ H E I hf st hg
    subst hP hw hK
    obtain ⟨⟨old, he⟩, hit, hne, hea, hai⟩ := st
    obtain ⟨xs, x, hq, hx⟩ := hg
    obtain ⟨its, rv, p, hz⟩ := I.list hq
    obtain ⟨u, hu, ru⟩ := rv.get hx
    have el : e < s.heap.objs.size := Heap.lt_size he
    have il : it < s.heap.objs.size := by
      obtain ⟨_, q, _⟩ := id hit
      exact Heap.lt_size q
    have D : Draws X.prog X.w X.A.in1 it [it, a] (its.toArray.size + 1) (fun j v => 1 ≤ j ∧ its.toArray[j - 1]? = some v) (fun j h => 1 ≤ j ∧ h.IsListIter it a (j - 1) ∧ h.IsList a its.toArray) := drawsS (A := X.A.in1) (show X.A.in1.handled = none from I.ok.hd hc) it a hai its.toArray
    have ilt : i < its.length := (List.getElem?_eq_some_iff.mp hu).1
    refine wpAny_pyNext_enum_itemD D (i := i + 1) he ⟨Nat.le_add_left 1 i, hit, p.isList⟩ (by simp; exact ilt) hne (fun q => by
      rcases List.mem_cons.mp q with q | q
      · exact hne q
      · exact hea (List.mem_singleton.mp q)) fun y h' tk hy ho hit' hT hsz hk => ?_
    have ey : y = u := by
      have h1 := hy.2
      have h2 : its.toArray[i]? = some y := h1
      rw [show its.toArray[i]? = its[i]? by simp, hu] at h2
      exact (Option.some.inj h2).symm
    subst ey
    refine ⟨_, rfl, wpAny_letOwnedTupleGo_enum (s := { s with heap := h', toks := tk + 1 }) ho fun h2 he2 sb => ?_⟩
    have hT2 : h2.get? s.heap.objs.size = some { cls := .type "tuple", data := .seq #[.int ((i + 1 : Nat) : Int) tk, y] } := (sb.2 _ (Nat.ne_of_gt el)).trans hT
    have nw : ObjOk X.prog X.w (upd H s.heap.objs.size (.tup [.int ((i + 1 : Nat) : Int), x])) h2 s.heap.objs.size (.tup [.int ((i + 1 : Nat) : Int), x]) :=
      ⟨(by show 2 ≤ sizeLine; decide), [.int ((i + 1 : Nat) : Int) tk, y], .cons ⟨_, rfl⟩ (.cons ru .nil), ⟨_, hT2, rfl, _, rfl⟩⟩
    have I1 : Inv X pins σ (upd H s.heap.objs.size (.tup [.int ((i + 1 : Nat) : Int), x])) { s with heap := h2, toks := tk + 1 } :=
      I.turnedNew (ch := [e, it]) (fun b ob hb q => by
        have b1 : b ≠ e := fun n => hb (by rw [n]; exact List.mem_cons_self)
        have b2 : b ≠ it := fun n => hb (by rw [n]; exact List.mem_cons_of_mem _ List.mem_cons_self)
        exact (sb.2 b b1).trans (hk b ob b1 b2 q)) hf (Nat.le_refl _) nw
    have e1 : (((i + 1) + 1 : Nat) : Int) = ((i + 1 : Nat) : Int) + 1 := by omega
    refine ⟨.ref s.heap.objs.size, _, I1, rfl, ⟨_, x, rfl, I.hok.fresh (Nat.le_refl _), rfl, fun ys hy => by rw [I.list_inj hy hq]; exact hx⟩, ⟨⟨_, by rw [e1]; exact he2⟩, ?_, hne, hea, hai⟩, fun b hb => ?_⟩
    · obtain ⟨o, ho2, r⟩ := hit'.2.1
      exact ⟨o, (sb.2 it (Ne.symm hne)).trans ho2, r⟩
    · have lt : b < s.heap.objs.size := by
        rcases List.mem_cons.mp hb with q | q
        · rw [q]; exact el
        · rw [List.mem_singleton.mp q]; exact il
      rw [upd_ne (Nat.ne_of_lt lt)]
      exact (hf b hb).1
  done := by
    intro X hP hw hK hc i pins s σ H E I hf st hg
    subst hP hw hK
    obtain ⟨⟨old, he⟩, hit, hne, hea, hai⟩ := st
    obtain ⟨xs, hq, hx⟩ := hg
    obtain ⟨its, rv, p, hz⟩ := I.list hq
    obtain ⟨f0, f1, f2, f3, f4, f5⟩ := hf it (List.mem_cons_of_mem _ List.mem_cons_self)
    have hl := rv.length
    exact enum_endS (I.ok.hd hc) he hit p.isList (by simp; omega) fun h' eb => ⟨rfl, I.turned (t' := s.toks) (fun b o hb q => eb b o hb q) f0 f1 f3 f4 f5⟩
  self := fun A i s Q E st h => by
    obtain ⟨⟨_, he⟩, _⟩ := st
    exact wpAny_pyIter_enum he h
def iEnumS (K : PySem.W.Frag) (ta tk : TA) : TI := fun σ H R => ta σ H fun vs H1 => tk σ H1 fun ws H2 => ∃ a xs, vs = [.ref a] ∧ ws = [.int 1] ∧ SqL K H2 a xs ∧ R (Iso K a) H2
theorem pi_enumS {X : Cx} {e : Expr} {ta tk : TA} {p pos tpos : Pos} {elts : List Expr} {kk : Nat} {kws : List Keyword} (hg : Gl X "enumerate") (hm : X.mg "enumerate" = none) (ha : PA X [e] ta) (hkw : PK X kws tk)
    (hall : (backToKw pos (keywordEach kws X.env)).all (·.1.isSome) = true := by rfl) (hks : (backToKw pos (keywordEach kws X.env)).filterMap (·.1) = [Str.ofString "start"] := by rfl)
    (hs : starEach [e] X.env = (false, eval e X.env) :: starEach [] X.env := by rfl) (hpl : ((backTo pos (starEach [e] X.env)).any (·.1) || (backToKw pos (keywordEach kws X.env)).any (·.1.isNone)) = false := by rfl) :
    PI X (.Tuple elts kk tpos) (.Call (.Name "enumerate" p) [e] kws pos) (iEnumS X.K ta tk) := by
  refine ⟨fun pins s σ H R I h => ?_⟩
  refine wpAny_Call_Name_kw (ld_blt I hg hm boot_enumerate ?_)
  refine PySem.W.callWith_of (P := X.K.In) hpl (fun _ _ => ⟨.machine, .inr (.inl rfl), PySem.W.Looks.of_pure rfl⟩) (PyProof.Rows.evalArgs_kw2 hall (thn (ha.run pos pins s σ H _ I h) fun us s1 ⟨vs, H1, I1, r1, q1⟩ => ?_) hs)
  refine thn (hkw.run pos pins s1 σ H1 _ I1 q1) fun ws s2 ⟨zs, H2, I2, rz, a, xs, e1, e2, hq, q⟩ => ⟨I2.kIn, ?_⟩
  rw [hks]
  subst e1 e2
  cases r1 with
  | cons r rr =>
    cases rr
    cases r
    cases rz with
    | cons r2 rr2 =>
      cases rr2
      obtain ⟨tk1, rfl⟩ := r2
      obtain ⟨its, rv, pl, hz⟩ := I2.list hq
      have ha : a < s2.heap.objs.size := by
        obtain ⟨o, ho, _⟩ := pl.isList
        exact Heap.lt_size ho
      have gt : ∀ b, b ∈ [s2.heap.objs.size + 1, s2.heap.objs.size] → s2.heap.objs.size ≤ b := fun b hb => by
        rcases List.mem_cons.mp hb with n | n
        · rw [n]; exact Nat.le_add_right _ _
        · rw [List.mem_singleton.mp n]; exact Nat.le_refl _
      refine enum_begins_start (begins_list a its.toArray) pl.isList (by decide) (by decide) fun h' he hit hsz hk => wpAny_pyIter_enum he ?_
      exact ⟨s2.heap.objs.size + 1, [s2.heap.objs.size + 1, s2.heap.objs.size], _, _, H2, rfl, I2.kept (t' := s2.toks) hk, turn_enumS a (s2.heap.objs.size + 1) s2.heap.objs.size,
        ⟨⟨.none, he⟩, ⟨_, hit, rfl, rfl⟩, Nat.succ_ne_self _, Nat.ne_of_gt (Nat.lt_succ_of_lt ha), Nat.ne_of_lt ha⟩, fun b hb => I2.fpOk (gt b hb) (I2.hok.fresh (gt b hb)), q⟩
theorem for_enumS {K : PySem.W.Frag} {a : Addr} {xs : List V} {g : TG} {tb : TS} {D : Ends} {σ : L2.St} {H : Hp} (Pv : Nat → L2.St → Hp → Prop) (h0 : Pv 0 σ H) (hl : ∀ i σ H, i ≤ xs.length → Pv i σ H → SqL K H a xs)
    (hs : ∀ (i : Nat) (x : V) (T : Addr) (σ : L2.St) (H : Hp), xs[i]? = some x → Pv i σ H → H T = none → g (.ref T) σ (upd H T (.tup [.int ((i + 1 : Nat) : Int), x])) fun σ2 H2 => tb { D with nx := Pv (i + 1), ct := Pv (i + 1), bk := D.nx } σ2 H2)
    (hd : ∀ σ H, Pv xs.length σ H → D.nx σ H) :
    ∃ W : Nat → Nat → L2.St → Hp → Prop, (∃ m, W 0 m σ H) ∧ ∀ i m σ H, W i m σ H → ((Iso K a).stop i H ∧ D.nx σ H) ∨ ((Iso K a).go i H ∧ ∃ N : L2.St → Hp → Prop, (∀ σ' H', N σ' H' → ∃ m', m' < m ∧ W (i + 1) m' σ' H') ∧
      ∀ v H', (Iso K a).yld i H v H' → g v σ H' fun σ2 H2 => tb { D with nx := N, ct := N, bk := D.nx } σ2 H2) := by
  refine ⟨fun i m σ H => m = xs.length - i ∧ i ≤ xs.length ∧ Pv i σ H, ⟨xs.length, by simp, Nat.zero_le _, h0⟩, ?_⟩
  rintro i m σ H ⟨rfl, hi, p⟩
  have q := hl i σ H hi p
  by_cases lt : i < xs.length
  · refine .inr ⟨⟨xs, xs[i], q, by simp [lt]⟩, Pv (i + 1), fun σ' H' p' => ⟨xs.length - (i + 1), by omega, rfl, lt, p'⟩, ?_⟩
    rintro v H' ⟨T, x, rfl, hT, rfl, hx⟩
    exact hs i x T σ _ (hx xs q) p hT
  · have e : i = xs.length := by omega
    subst e
    exact .inl ⟨⟨xs, q, Nat.le_refl _⟩, hd σ H p⟩
end SxK

set_option Elab.async false
set_option linter.all false
set_option maxRecDepth 100000
set_option maxHeartbeats 2000000
namespace Sx
open PySem PySem.Spec PyProof.Rows L2 SxA SxK
/-! ### TooLarge(limit) -/
def tlD (r : Str) : List (Str × V) := [("limit", .str r)]
def spTL (K : PySem.W.Frag) : Sp := fun vs H Q _ => ∃ (a : Addr) (r : Str), vs = [.ref a, .str r] ∧ H a = some (exo a (He.ga K "TooLarge") none) ∧ r.length ≤ 100 ∧
  ∀ d, H d = none → d ≠ a → Q .non (upd (upd H a (exo a (He.ga K "TooLarge") (some d))) d (exd d (tlD r)))
theorem zTL : ScSup (defScope sTooLargeInit) ["self", "limit"] := ⟨rfl, rfl, rfl, by decide +kernel, by decide +kernel, by decide +kernel, by decide +kernel, by decide +kernel, by decide +kernel⟩
section
variable {P : Program} {w : World} {K : PySem.W.Frag} {mg : Str → Option Value} {base : Heap}
theorem ok_tlinit (er : ErrC P K mg xTooLarge) : ∃ fd, FnOk P w K mg base (L2.CX P w) 1 (xTooLarge.I K) fd ["self", "limit"] (spTL K) ∧ Binds K fd ["self", "limit"] [] := by
  obtain ⟨cc, cda, fd, S⟩ := er.sup
  refine ⟨fd, ?_, ?_⟩
  · refine fn_sup (k := 0) (CX := L2.CX P w) S zTL rfl rfl (fun vs H Q E h => ?_) (fun A outer s H vs Q E hr h => ?_) (fun _ => rfl) (fun _ => rfl) (fun _ => rfl) (fun _ => rfl)
    · obtain ⟨a, r, rfl, _⟩ := h
      rfl
    · obtain ⟨a, r, rfl, ha, hr1, hq⟩ := h
      refine ⟨_, _, a, _, pa_cons (pe_joined (.cons pe_str (.cons (pe_fmt (pv 1)) .nil))) pa_nil, pss_one (ps_ost (pv 0) (pv 1)), rfl, ha, ?_⟩
      have e0 : Str.empty.length = 0 := rfl
      have e1 : (Str.ofString "too large: ").length = 11 := by decide +kernel
      refine ⟨_, rfl, (by rw [app_len, e0, e1, sizeLine_eq]; omega), ?_⟩
      refine ⟨_, rfl, .inl ⟨r, rfl, (by rw [sizeLine_eq]; omega), _, rfl, (by rw [app_len, app_len, e0, e1, sizeLine_eq]; omega), ?_⟩⟩
      refine ⟨(by show 1 ≤ 1000; decide), ha, ?_⟩
      have hn : ∀ f ∈ xTooLarge.ats, PySem.W.findIn K (.ref (He.ga K "TooLarge")) f = some none := er.ats
      refine ⟨_, rfl, _, rfl, a, _, rfl, S.ex, hn "limit" (by decide), .inl ⟨ha, fun dx hdx ne => ?_⟩⟩
      have q := hq dx hdx ne
      have eH : ∀ (o1 o3 o4 : HO), upd (upd (upd H dx o1) a o4) dx o3 = upd (upd H a o4) dx o3 := fun o1 o3 o4 => funext fun b => by
        by_cases hb : b = dx
        · subst hb
          rw [upd_same, upd_same]
        · rw [upd_ne hb, upd_ne hb]
          by_cases hb2 : b = a
          · subst hb2
            rw [upd_same, upd_same]
          · rw [upd_ne hb2, upd_ne hb2, upd_ne hb]
      show Q .non _
      have eH2 : ∀ (o3 o4 : HO), upd (upd H dx o3) a o4 = upd (upd H a o4) dx o3 := fun o3 o4 => funext fun b => by
        by_cases hb : b = dx
        · subst hb
          rw [upd_ne ne, upd_same, upd_same]
        · rw [upd_ne hb]
          by_cases hb2 : b = a
          · subst hb2
            rw [upd_same, upd_same]
          · rw [upd_ne hb2, upd_ne hb2, upd_ne hb]
      rw [eH2]
      exact q
  · obtain ⟨oc, od, kV, doc, pm, an, ct, osl, efd, hf⟩ := S.fn
    subst efd
    intro s us _ hl
    rw [List.append_nil] at hl ⊢
    match us, hl with
    | [_, _], _ => exact .of_eq rfl
theorem pmk_tl {X : Cx} {k : Nat} {p pos : Pos} {a : Expr} {as : List Expr} {ta : TA} (er : ErrC X.prog X.K X.mg xTooLarge) (hr : Room (k + 2) X.A) (hg : Gl X "TooLarge") (ha : PA X (a :: as) ta)
    (he : starEach (a :: as) X.env = (false, eval a X.env) :: starEach as X.env := by rfl) (hpl : (backTo pos (starEach as X.env)).any (·.1) = false := by rfl) :
    PMk X (.Call (.Name "TooLarge" p) (a :: as) [] pos) (tMkO (He.ga X.K "TooLarge") (spTL X.K) [] ta) := by
  obtain ⟨fd, F, b⟩ := ok_tlinit (w := X.w) (base := X.base) er
  obtain ⟨cc, cda, fd2, S⟩ := er.sup
  exact pmk_oex (k := 1) S.ex S.iC S.tI F (hr.mono (by omega)) b .nil (fun pins σ H s e s' I c => by
    obtain ⟨_, _, _, _, _, _, _, _, _, _, _, _, z⟩ := c
    exact z.elim) hg er.glob ha (by decide) he hpl
end
end Sx

set_option Elab.async false
set_option linter.all false
set_option maxRecDepth 100000
set_option maxHeartbeats 2000000
namespace Sx
open PySem PySem.Spec PyProof.Rows L2 SxA SxK
section
variable {P : Program} {w : World} {K : PySem.W.Frag} {mg : Str → Option Value} {base : Heap}
abbrev nsRT : List Str := ["text", "lines", "signs", "modes", "rules", "number", "line", "reader"]
end
end Sx

set_option Elab.async false
set_option linter.all false
set_option maxRecDepth 100000
set_option maxHeartbeats 2000000
namespace Sx
open PySem PySem.Spec PyProof.Rows L2 SxA SxK
section
variable {P : Program} {w : World} {K : PySem.W.Frag} {mg : Str → Option Value} {base : Heap}
abbrev nsLL : List Str := ["parts", "lines", "mode", "text", "cells", "to", "ahead", "behind", "line", "cell"]
end
end Sx

set_option Elab.async false
set_option linter.all false
set_option maxRecDepth 100000
set_option maxHeartbeats 2000000
namespace Sx
open PySem PySem.Spec PyProof.Rows L2 SxA SxK
section
variable {P : Program} {w : World} {K : PySem.W.Frag} {mg : Str → Option Value} {base : Heap}
abbrev nsLO : List Str := ["state", "parts", "rows", "line", "at"]
abbrev nsLO2 : List Str := nsLO
end
end Sx

set_option Elab.async false
set_option linter.all false
set_option maxRecDepth 100000
set_option maxHeartbeats 2000000
namespace Sx
open PySem PySem.Spec PyProof.Rows L2 SxA SxK
/-! ### the line of a rule, piece by piece -/
def jn : List (List Nat) → List Nat
  | [] => []
  | [x] => x
  | x :: y :: r => x ++ 32 :: jn (y :: r)
theorem jn_cons {x : List Nat} {r : List (List Nat)} (h : r ≠ []) : jn (x :: r) = x ++ 32 :: jn r := by
  cases r with
  | nil => exact absurd rfl h
  | cons y r => rfl
theorem jn_app : ∀ {a b : List (List Nat)}, a ≠ [] → b ≠ [] → jn (a ++ b) = jn a ++ 32 :: jn b
  | [], _, h, _ => absurd rfl h
  | [x], b, _, hb => jn_cons hb
  | x :: y :: r, b, _, hb => by
    have ih := jn_app (a := y :: r) (b := b) (List.cons_ne_nil _ _) hb
    show jn (x :: (y :: r ++ b)) = _
    rw [jn_cons (by simp), ih]
    show _ = (x ++ 32 :: jn (y :: r)) ++ 32 :: jn b
    simp
theorem sl_join : ∀ ws : List Str, sl (Txt.join (Str.ofString " ") ws) = jn (ws.map sl) := by
  intro ws
  have e : Txt.join (Str.ofString " ") ws = Str.join (Str.ofString " ") ws := TL.join_eq _ _
  rw [e]
  have e0 : sl (Str.ofString " ") = [32] := by decide +kernel
  induction ws with
  | nil => rfl
  | cons c r ih =>
    cases r with
    | nil => rfl
    | cons d r =>
      have e2 : Str.join (Str.ofString " ") (c :: d :: r) = c ++ Str.ofString " " ++ Str.join (Str.ofString " ") (d :: r) := rfl
      rw [e2, sl_app, sl_app, ih (TL.join_eq _ _), e0]
      show _ = sl c ++ 32 :: jn ((d :: r).map sl)
      simp
def addN (x wd : Str) : Option Str → Str
  | none => x
  | some y => x ++ wd ++ quoS y
def line0 (r : RD) : Str := Str.ofString "rule " ++ dgS r.mode ++ Str.ofString " " ++ quoS r.text ++ Str.ofString " = " ++ Txt.join (Str.ofString " ") (r.cells.map cellS) ++ Str.ofString " to " ++ dgS r.to
theorem near_jn {a : List (List Nat)} (ha : a ≠ []) (wd : Str) (o : Option Str) : jn (a ++ (nearW wd o).map sl) = jn a ++ (match o with | none => [] | some y => 32 :: (sl wd ++ 32 :: sl (quoS y))) := by
  cases o with
  | none => simp [nearW]
  | some y =>
    rw [jn_app ha (by simp [nearW])]
    rfl
theorem sl_addN (x wd : Str) (o : Option Str) : sl (addN x wd o) = sl x ++ (match o with | none => [] | some y => sl wd ++ sl (quoS y)) := by
  cases o with
  | none => simp [addN]
  | some y =>
    show sl (x ++ wd ++ quoS y) = _
    rw [sl_app, sl_app]
    simp
theorem ruleS_line (r : RD) (hc : r.cells ≠ []) : ruleS r = addN (addN (line0 r) (Str.ofString " ahead ") r.ahead) (Str.ofString " behind ") r.behind := by
  refine sl_ext ?_
  have w1 : sl (Str.ofString "rule ") = sl ("rule" : Str) ++ [32] := by decide +kernel
  have w2 : sl (Str.ofString " = ") = 32 :: (sl ("=" : Str) ++ [32]) := by decide +kernel
  have w3 : sl (Str.ofString " to ") = 32 :: (sl ("to" : Str) ++ [32]) := by decide +kernel
  have w4 : sl (Str.ofString " ahead ") = 32 :: (sl ("ahead" : Str) ++ [32]) := by decide +kernel
  have w5 : sl (Str.ofString " behind ") = 32 :: (sl ("behind" : Str) ++ [32]) := by decide +kernel
  have w6 : sl (Str.ofString " ") = [32] := by decide +kernel
  have hm : (r.cells.map cellS).map sl ≠ [] := by simp [hc]
  unfold ruleS ruleWs
  rw [sl_join, List.map_append, near_jn (by simp), List.map_append, near_jn (by simp), List.map_append, jn_app (by simp) (by simp), List.map_append, jn_app (by simp) hm, sl_addN, sl_addN]
  unfold line0
  simp only [sl_app, w1, w2, w3, w4, w5, w6, sl_join]
  have j1 : jn (([("rule" : Str), dgS r.mode, quoS r.text, ("=" : Str)]).map sl) = sl ("rule" : Str) ++ 32 :: (sl (dgS r.mode) ++ 32 :: (sl (quoS r.text) ++ 32 :: sl ("=" : Str))) := rfl
  have j2 : jn (([("to" : Str), dgS r.to]).map sl) = sl ("to" : Str) ++ 32 :: sl (dgS r.to) := rfl
  rw [j1, j2]
  cases r.ahead <;> cases r.behind <;> simp
end Sx

set_option Elab.async false
set_option linter.all false
set_option maxRecDepth 100000
set_option maxHeartbeats 2000000
namespace Sx
open PySem PySem.Spec PyProof.Rows L2 SxA SxK
/-! ### _law_lines -/
theorem jn_len {B : Nat} : ∀ {L : List (List Nat)}, (∀ x ∈ L, x.length ≤ B) → (jn L).length ≤ L.length * (B + 1)
  | [], _ => Nat.zero_le _
  | [x], h => by
    have := h x List.mem_cons_self
    show x.length ≤ 1 * (B + 1)
    omega
  | x :: y :: r, h => by
    have h1 := h x List.mem_cons_self
    have ih := jn_len (B := B) (L := y :: r) fun z hz => h z (List.mem_cons_of_mem _ hz)
    rw [jn_cons (List.cons_ne_nil _ _), List.length_append, List.length_cons]
    have e : (x :: y :: r).length = (y :: r).length + 1 := rfl
    rw [e, Nat.add_mul]
    omega
theorem cells_len (cs : List Int) (h : cs.length ≤ 4) : (Txt.join (Str.ofString " ") (cs.map cellS)).length ≤ 28 := by
  rw [sl_len, sl_join]
  have := jn_len (B := 6) (L := (cs.map cellS).map sl) fun x hx => by
    rw [List.map_map] at hx
    obtain ⟨c, _, rfl⟩ := List.mem_map.mp hx
    show (sl (cellS c)).length ≤ 6
    rw [← sl_len]
    exact cellS_len c
  rw [List.length_map, List.length_map] at this
  omega
theorem sgL_eq (z : Str) : sgL z = Str.ofString "signs " ++ quoS z := sl_ext (by unfold sgL; rw [sl_app, sl_app, sl_app]; rfl)
theorem mdL_eq (m : Int) : mdL m = Str.ofString "modes " ++ dgS m := sl_ext (by unfold mdL; rw [sl_app, sl_app, sl_app]; rfl)
structure LRule (r : RD) : Prop where
  mode : 0 ≤ r.mode ∧ r.mode ≤ 9
  to : 0 ≤ r.to ∧ r.to ≤ 9
  text : r.text.length ≤ 1000
  any : r.cells ≠ []
  cells : r.cells.length ≤ 4
  cell : ∀ c ∈ r.cells, 0 ≤ c ∧ c ≤ 63
  ahead : ∀ x, r.ahead = some x → x.length ≤ 1000
  behind : ∀ x, r.behind = some x → x.length ≤ 1000
structure LTab (d : TD) : Prop where
  signs : d.signs.length ≤ 1000
  modes : 0 ≤ d.modes ∧ d.modes ≤ 9
  few : d.rules.length ≤ 4000
  rules : ∀ r ∈ d.rules, LRule r
section
variable {P : Program} {w : World} {K : PySem.W.Frag} {mg : Str → Option Value} {base : Heap}
def spLL : Sp := fun vs H Q _ => ∃ (v : V) (d : TD), vs = [v] ∧ PartsT H v d ∧ LTab d ∧ ∀ p H', H p = none → Same H H' → H' p = some (.lst ((tableLs d).map V.str)) → Q (.ref p) H'
end
end Sx

set_option Elab.async false
set_option linter.all false
set_option maxRecDepth 100000
set_option maxHeartbeats 2000000
namespace Sx
open PySem PySem.Spec PyProof.Rows L2 SxA SxK
/-! ### the reading of read_table: what its lines' pieces make of them -/
inductive LX where
  | sign (i : Nat)
  | quo (col : Nat)
  | pcs (ps : List Pc)
def LXok (z : Str) : LX → Prop
  | .sign i => ∃ c, (sl z)[i]? = some c ∧ signB c = false ∧ ∀ j b : Nat, j < i → (sl z)[j]? = some b → signB b = true
  | .quo col => (∀ c ∈ sl z, signB c = true) ∧ ∃ ps, Lex (sl z) 0 ps (some col)
  | .pcs ps => (∀ c ∈ sl z, signB c = true) ∧ Lex (sl z) 0 ps none
inductive TR where
  | ok (d : TD)
  | err (l c : Int) (w : Str)
/-- a reader with no addresses: what the models see of one -/
def rd0 (n e : Int) (ps : List Pc) : Rd := ⟨0, 0, 0, n, e, ps⟩
theorem mSigns_rd (x : Rd) (k : Nat) : mSigns x k = mSigns (rd0 x.n x.e x.ps) k := rfl
theorem mModes_rd (x : Rd) (k : Nat) : mModes x k = mModes (rd0 x.n x.e x.ps) k := rfl
theorem mMore_rd (x : Rd) : ∀ (f k : Nat) (cs : List Int), mMore x f k cs = mMore (rd0 x.n x.e x.ps) f k cs := by
  intro f
  induction f with
  | zero => intro k cs; rfl
  | succ f ih =>
    intro k cs
    unfold mMore
    simp only [ih]
    rfl
theorem mCells_rd (x : Rd) (k : Nat) : mCells x k = mCells (rd0 x.n x.e x.ps) k := by
  unfold mCells
  simp only [mMore_rd x]
  rfl
theorem mRule_rd (x : Rd) (k : Nat) (z : Str) (m : Int) (b : Bool) : mRule x k z m b = mRule (rd0 x.n x.e x.ps) k z m b := by
  unfold mRule
  simp only [mCells_rd x]
  rfl
/-- what stands behind some lines: the signs, the number of modes, the rules -/
structure TS3 where
  signs : Option Str
  modes : Option Nat
  rules : List RD
inductive SR where
  | go (s : TS3)
  | err (c : Int) (w : Str)
def stepT (n : Int) (z : Str) (s : TS3) : LX → SR
  | .sign i => .err ((i : Int) + 1) "sign"
  | .quo col => .err (col : Int) "quoted"
  | .pcs [] => .go s
  | .pcs (q :: ps) =>
    match s.signs with
    | none => match mSigns (rd0 n ((z.length : Int) + 1) (q :: ps)) 0 with
      | .ok v _ => .go { s with signs := some v }
      | .err c w => .err c w
    | some sg => match s.modes with
      | none => match mModes (rd0 n ((z.length : Int) + 1) (q :: ps)) 0 with
        | .ok m _ => .go { s with modes := some m }
        | .err c w => .err c w
      | some m => match mRule (rd0 n ((z.length : Int) + 1) (q :: ps)) 0 sg (m : Int) (decide ((s.rules.length : Int) < 80)) with
        | .ok r _ => .go { s with rules := s.rules ++ [r] }
        | .err c w => .err c w
def mTab : List (Str × LX) → Nat → TS3 → TR
  | [], n, s => match s.modes with
    | none => .err ((n : Int) + 1) 1 "end"
    | some m => .ok ⟨s.signs.getD "", (m : Int), s.rules⟩
  | (z, x) :: r, n, s => match stepT ((n : Int) + 1) z s x with
    | .go s2 => mTab r (n + 1) s2
    | .err c w => .err ((n : Int) + 1) c w
/-- the modes stand only behind the signs -/
def TS3.Fine (s : TS3) : Prop := s.signs = none → s.modes = none
theorem stepT_fine {n : Int} {z : Str} {s s2 : TS3} {x : LX} (f : s.Fine) (h : stepT n z s x = .go s2) : s2.Fine := by
  unfold TS3.Fine at f ⊢
  unfold stepT at h
  split at h
  · cases h
  · cases h
  · cases h; exact f
  · split at h
    · split at h
      · cases h; intro z; cases z
      · cases h
    · rename_i hs
      split at h
      · split at h
        · cases h; intro z; rw [show s.signs = none from z] at hs; cases hs
        · cases h
      · split at h
        · cases h; exact f
        · cases h
theorem stepT_few {n : Int} {z : Str} {s s2 : TS3} {x : LX} (h : stepT n z s x = .go s2) : s2.rules.length ≤ s.rules.length + 1 := by
  unfold stepT at h
  split at h
  · cases h
  · cases h
  · cases h; exact Nat.le_succ _
  · split at h
    · split at h
      · cases h; exact Nat.le_succ _
      · cases h
    · split at h
      · split at h
        · cases h; exact Nat.le_succ _
        · cases h
      · split at h
        · cases h
          show (s.rules ++ [_]).length ≤ _
          rw [List.length_append]
          exact Nat.le_refl _
        · cases h
end Sx

set_option Elab.async false
set_option linter.all false
set_option maxRecDepth 100000
set_option maxHeartbeats 4000000
namespace Sx
open PySem PySem.Spec PyProof.Rows L2 SxA SxK
theorem bind_ok {α β : Type} {s : Res α} {f : α → Nat → Res β} {b : β} {k : Nat} (h : s.bind f = .ok b k) : ∃ a j, s = .ok a j ∧ f a j = .ok b k := by
  cases s with
  | ok a j => exact ⟨a, j, rfl, h⟩
  | err c w => cases h
theorem mMore_any (x : Rd) : ∀ (f k : Nat) (cs ds : List Int) (j : Nat), cs ≠ [] → mMore x f k cs = .ok ds j → ds ≠ [] := by
  intro f
  induction f with
  | zero => intro k cs ds j h e; cases e; exact h
  | succ f ih =>
    intro k cs ds j h e
    unfold mMore at e
    split at e
    · cases e; exact h
    · split at e
      · exact ih _ _ _ _ (by simp) e
      · cases e
theorem mRule_any {x : Rd} {k j : Nat} {z : Str} {m : Int} {b : Bool} {r : RD} (h : mRule x k z m b = .ok r j) : r.cells ≠ [] ∧ b = true := by
  unfold mRule at h
  obtain ⟨_, _, h1, h⟩ := bind_ok h
  obtain ⟨_, _, _, h⟩ := bind_ok h
  obtain ⟨_, _, _, h⟩ := bind_ok h
  obtain ⟨_, _, _, h⟩ := bind_ok h
  obtain ⟨_, _, _, h⟩ := bind_ok h
  obtain ⟨cs, _, hc, h⟩ := bind_ok h
  obtain ⟨_, _, _, h⟩ := bind_ok h
  obtain ⟨_, _, _, h⟩ := bind_ok h
  obtain ⟨_, _, _, h⟩ := bind_ok h
  obtain ⟨_, _, _, h⟩ := bind_ok h
  obtain ⟨_, _, _, h⟩ := bind_ok h
  cases h
  constructor
  · show cs ≠ []
    unfold mCells at hc
    obtain ⟨c, j2, _, hc⟩ := bind_ok hc
    exact mMore_any x _ _ _ _ _ (by simp) hc
  · unfold mBegin at h1
    cases b with
    | true => rfl
    | false => rw [Bool.false_and, if_neg (by decide)] at h1; cases h1
section
variable {P : Program} {w : World} {K : PySem.W.Frag} {mg : Str → Option Value} {base : Heap}
def OutT (K : PySem.W.Frag) (Q : VK) (E : XK) (H : Hp) : TR → Prop
  | .ok d => ∀ v H', Same H H' → TableO K (fresh H H') v d → Q v H'
  | .err l c w => Er K E H l c w
def ShortX : LX → Prop
  | .pcs ps => ∀ pc ∈ ps, pc.txt.length ≤ 4000
  | _ => True
def ErTL (K : PySem.W.Frag) (E : XK) (H : Hp) : Prop := ∀ d H', Same H H' → H' d = some (.xd (tlD "text")) → E (.ref (He.ga K "TooLarge")) (some d) H'
theorem mk_tl {H : Hp} {r : Str} {Q : XK} (hr : r.length ≤ 100) (q : ∀ d H', Same H H' → H' d = some (.xd (tlD r)) → Q (.ref (He.ga K "TooLarge")) (some d) H') :
    [V.str r].length ≤ 1000 ∧ ∀ a, H a = none → spTL K (.ref a :: ([V.str r] ++ [])) (upd H a (exo a (He.ga K "TooLarge") none))
      (fun v H2 => v = .non ∧ ∃ (d : Addr) (fs : List (Str × V)), H2 a = some (exo a (He.ga K "TooLarge") (some d)) ∧ H2 d = some (exd d fs) ∧ H d = none ∧ Q (.ref (He.ga K "TooLarge")) (some d) (upd (del H2 a) d (.xd fs))) (fun _ _ _ => False) := by
  refine ⟨(by show 1 ≤ 1000; decide), fun a ha => ⟨a, r, rfl, upd_same, hr, fun d hd ne => ?_⟩⟩
  have hd0 : H d = none := by
    rw [upd_ne ne] at hd
    exact hd
  refine ⟨rfl, d, tlD r, by rw [upd_ne ne.symm]; exact upd_same, upd_same, hd0, ?_⟩
  refine q d _ (fun b o hb => ?_) upd_same
  have b1 : b ≠ d := ne_of_none hb hd0
  have b2 : b ≠ a := ne_of_none hb ha
  rw [upd_ne b1, del_ne b2, upd_ne b1, upd_ne b2, upd_ne b2]
  exact hb
def spRT (K : PySem.W.Frag) : Sp := fun vs H Q E => ∃ (z : Str), vs = [.str z] ∧ z.length ≤ 1000000 ∧ (20000 < z.length → ErTL K E H) ∧ (z.length ≤ 20000 → ∃ xs : List LX, xs.length = (linesL z).length ∧ (∀ (i : Nat) (l : Str) (x : LX), (linesL z)[i]? = some l → xs[i]? = some x → LXok l x ∧ ShortX x ∧ l.length ≤ 20000) ∧ OutT K Q E H (mTab ((linesL z).zip xs) 0 ⟨none, none, []⟩))
def oN : Option Nat → V
  | none => .non
  | some m => .int (m : Int)
end
end Sx

set_option Elab.async false
set_option linter.all false
set_option maxRecDepth 100000
set_option maxHeartbeats 1000000
namespace Sx
/-! ### the mathematics of a line -/
structure Sg where
  gap : Nat
  quo : Bool
  txt : List Nat
def Sg.wr (s : Sg) : List Nat := if s.quo = true then 34 :: (escL s.txt ++ [34]) else s.txt
def Sg.all (s : Sg) : List Nat := List.replicate s.gap 32 ++ s.wr
def ren (l : List Sg) : List Nat := l.flatMap Sg.all
def dues (off : Nat) : List Sg → List Pc
  | [] => []
  | s :: r => ⟨s.quo, s.txt, off + s.gap + 1⟩ :: dues (off + s.all.length) r
def Chain : Bool → List Sg → Prop
  | _, [] => True
  | b, s :: r => (s.quo = false → (b = true → 1 ≤ s.gap) ∧ s.txt ≠ [] ∧ ∀ c ∈ s.txt, c ≠ 32 ∧ c ≠ 34) ∧ Chain (!s.quo) r
def lastP (b : Bool) (l : List Sg) : Bool := l.foldl (fun _ s => !s.quo) b
theorem ren_snoc (l : List Sg) (s : Sg) : ren (l ++ [s]) = ren l ++ s.all := by
  unfold ren
  rw [List.flatMap_append]
  simp
theorem dues_snoc : ∀ (l : List Sg) (s : Sg) (off : Nat), dues off (l ++ [s]) = dues off l ++ [⟨s.quo, s.txt, off + (ren l).length + s.gap + 1⟩]
  | [], s, off => rfl
  | u :: l, s, off => by
    show _ :: dues (off + u.all.length) (l ++ [s]) = _ :: dues (off + u.all.length) l ++ _
    rw [dues_snoc l s]
    have e : off + u.all.length + (ren l).length = off + (ren (u :: l)).length := by
      show _ = off + (u.all ++ ren l).length
      rw [List.length_append]
      omega
    rw [e]
    rfl
theorem last_snoc (b : Bool) (l : List Sg) (s : Sg) : lastP b (l ++ [s]) = !s.quo := by
  unfold lastP
  rw [List.foldl_append]
  rfl
theorem chain_snoc : ∀ (l : List Sg) (s : Sg) (b : Bool), Chain b l → (s.quo = false → (lastP b l = true → 1 ≤ s.gap) ∧ s.txt ≠ [] ∧ ∀ c ∈ s.txt, c ≠ 32 ∧ c ≠ 34) → Chain b (l ++ [s])
  | [], s, b, _, h => ⟨h, True.intro⟩
  | u :: l, s, b, h, h2 => ⟨h.1, chain_snoc l s (!u.quo) h.2 h2⟩
/-- what stands at a place -/
theorem at_drop {l r : List Nat} {k c : Nat} (h : l.drop k = c :: r) : l[k]? = some c ∧ l.drop (k + 1) = r := by
  constructor
  · have h2 : (l.drop k)[0]? = some c := by rw [h]; rfl
    rw [List.getElem?_drop] at h2
    exact h2
  · rw [← List.drop_drop, h]
    rfl
theorem drop_more {l a b : List Nat} {k : Nat} (h : l.drop k = a ++ b) : l.drop (k + a.length) = b := by
  rw [← List.drop_drop, h]
  simp
theorem lex_spaces {l rest : List Nat} {ps : List Pc} {e : Option Nat} : ∀ (g k : Nat), l.drop k = List.replicate g 32 ++ rest → Lex l (k + g) ps e → Lex l k ps e
  | 0, k, _, h => h
  | g + 1, k, hd, h => by
    obtain ⟨h1, h2⟩ := at_drop (show l.drop k = 32 :: (List.replicate g 32 ++ rest) from hd)
    exact .space h1 (lex_spaces g (k + 1) h2 (by have e2 : k + 1 + g = k + (g + 1) := by omega
                                                 rw [e2]; exact h))
theorem quo_esc {l post : List Nat} : ∀ (t : List Nat) (k : Nat), l.drop k = escL t ++ 34 :: post → Quo l k t (.close (k + (escL t).length))
  | [], k, h => .close (at_drop (show l.drop k = 34 :: post from h)).1
  | c :: t, k, h => by
    have e : escL (c :: t) = escC c ++ escL t := by unfold escL; rw [List.flatMap_cons]
    rw [e] at h ⊢
    by_cases hc : c = 34 ∨ c = 92
    · have ec : escC c = [92, c] := by unfold escC; rw [if_pos hc]
      rw [ec] at h ⊢
      obtain ⟨h1, h2⟩ := at_drop (show l.drop k = 92 :: (c :: (escL t ++ 34 :: post)) from h)
      obtain ⟨h3, h4⟩ := at_drop h2
      have q := quo_esc t (k + 2) h4
      have e2 : k + ([92, c] ++ escL t).length = k + 2 + (escL t).length := by rw [List.length_append]; show k + (2 + _) = _; omega
      rw [e2]
      exact .esc h1 h3 hc q
    · have ec : escC c = [c] := by unfold escC; rw [if_neg hc]
      rw [ec] at h ⊢
      obtain ⟨h1, h2⟩ := at_drop (show l.drop k = c :: (escL t ++ 34 :: post) from h)
      have q := quo_esc t (k + 1) h2
      have e2 : k + ([c] ++ escL t).length = k + 1 + (escL t).length := by rw [List.length_append]; show k + (1 + _) = _; omega
      rw [e2]
      exact .sign h1 (fun z => hc (.inl z)) (fun z => hc (.inr z)) q
theorem head_ren {r : List Sg} {post : List Nat} {c : Nat} (hc : Chain true r) (hp : ∀ c, post.head? = some c → c = 32 ∨ c = 34) (h : (ren r ++ post).head? = some c) : c = 32 ∨ c = 34 := by
  cases r with
  | nil => exact hp c h
  | cons s r =>
    obtain ⟨g, qu, t⟩ := s
    cases g with
    | succ g => exact .inl (Option.some.inj h).symm
    | zero =>
      cases qu with
      | true => exact .inr (Option.some.inj h).symm
      | false => exact absurd ((hc.1 rfl).1 rfl) (Nat.not_succ_le_zero 0)
theorem lex_sgs {l post : List Nat} {ps : List Pc} {e : Option Nat} (hp : ∀ c, post.head? = some c → c = 32 ∨ c = 34) : ∀ (r : List Sg) (b : Bool) (k : Nat), l.drop k = ren r ++ post → Chain b r → Lex l (k + (ren r).length) ps e → Lex l k (dues k r ++ ps) e
  | [], b, k, _, _, h => h
  | s :: r, b, k, hd, hc, h => by
    have er : ren (s :: r) = s.all ++ ren r := rfl
    rw [er, List.append_assoc] at hd
    have el : k + (ren (s :: r)).length = k + s.all.length + (ren r).length := by rw [er, List.length_append]; omega
    rw [el] at h
    have ih := lex_sgs hp r (!s.quo) (k + s.all.length) (drop_more hd) hc.2 h
    obtain ⟨g, qu, t⟩ := s
    have hd2 : l.drop k = List.replicate g 32 ++ (Sg.wr ⟨g, qu, t⟩ ++ (ren r ++ post)) := by rw [hd]; unfold Sg.all; rw [List.append_assoc]
    refine lex_spaces g k hd2 ?_
    have hd3 : l.drop (k + g) = Sg.wr ⟨g, qu, t⟩ ++ (ren r ++ post) := by
      have := drop_more hd2
      rw [List.length_replicate] at this
      exact this
    cases qu with
    | true =>
      obtain ⟨h1, h2⟩ := at_drop (show l.drop (k + g) = 34 :: ((escL t ++ [34]) ++ (ren r ++ post)) from hd3)
      rw [List.append_assoc] at h2
      have q := quo_esc t (k + g + 1) h2
      have e4 : k + (Sg.all ⟨g, true, t⟩).length = k + g + 1 + (escL t).length + 1 := by
        unfold Sg.all
        rw [List.length_append, List.length_replicate]
        show k + (g + ((escL t ++ [34]).length + 1)) = _
        rw [List.length_append]
        show k + (g + ((escL t).length + 1 + 1)) = _
        omega
      rw [e4] at ih
      have := Lex.quoted h1 q ih
      show Lex l (k + g) (⟨true, t, k + g + 1⟩ :: (dues (k + (Sg.all ⟨g, true, t⟩).length) r ++ ps)) e
      rw [e4]
      exact this
    | false =>
      obtain ⟨c1, c2, c3⟩ := hc.1 rfl
      have hd4 : l.drop (k + g) = t ++ (ren r ++ post) := hd3
      cases t with
      | nil => exact absurd rfl c2
      | cons c0 t =>
        have e4 : k + (Sg.all ⟨g, false, c0 :: t⟩).length = k + g + (c0 :: t).length := by
          unfold Sg.all
          rw [List.length_append, List.length_replicate]
          show k + (g + (c0 :: t).length) = _
          omega
        obtain ⟨h1, h2⟩ := at_drop (show l.drop (k + g) = c0 :: (t ++ (ren r ++ post)) from hd4)
        have kl : k + g < l.length := (List.getElem?_eq_some_iff.mp h1).1
        have len : l.length - (k + g) = (c0 :: t).length + (ren r ++ post).length := by
          rw [← List.length_drop, hd4, List.length_append]
        have get : ∀ j, k + g ≤ j → l[j]? = ((c0 :: t) ++ (ren r ++ post))[j - (k + g)]? := fun j hj => by
          rw [← hd4, List.getElem?_drop]
          congr 1
          omega
        have hE : EndP l (k + g) (k + g + (c0 :: t).length) := by
          refine ⟨by omega, by omega, fun j c j1 j2 hj => ?_, fun c hj => ?_⟩
          · rw [get j j1, List.getElem?_append_left (by omega)] at hj
            exact c3 c (List.mem_of_getElem? hj)
          · rw [get _ (by omega), List.getElem?_append_right (by omega)] at hj
            have e5 : k + g + (c0 :: t).length - (k + g) - (c0 :: t).length = 0 := by omega
            rw [e5] at hj
            exact head_ren hc.2 hp (by rw [List.head?_eq_getElem?]; exact hj)
        rw [e4] at ih
        have := Lex.plain h1 (c3 c0 List.mem_cons_self).1 (c3 c0 List.mem_cons_self).2 hE ih
        have e6 : (l.drop (k + g)).take (k + g + (c0 :: t).length - (k + g)) = c0 :: t := by
          rw [hd4]
          have e7 : k + g + (c0 :: t).length - (k + g) = (c0 :: t).length := by omega
          rw [e7]
          simp
        rw [e6] at this
        show Lex l (k + g) (⟨false, c0 :: t, k + g + 1⟩ :: (dues (k + (Sg.all ⟨g, false, c0 :: t⟩).length) r ++ ps)) e
        rw [e4]
        exact this
end Sx

set_option Elab.async false
set_option linter.all false
set_option maxRecDepth 100000
set_option maxHeartbeats 1000000
namespace Sx
open PySem PySem.Spec PyProof.Rows L2 SxA SxK
theorem GoodN.ok {o : Option Str} {z : Str} {e : Nat} (g : GoodN o z e) : nearB o z e = true := by
  cases o with
  | none => rfl
  | some t =>
    obtain ⟨h1, h2, h3, _⟩ := g t rfl
    unfold nearB diffB
    simp only [Bool.and_eq_true, decide_eq_true_eq, List.all_eq_true, Bool.or_eq_true]
    exact ⟨h1, h2, h3⟩
theorem GoodX.ok {x z : Str} (g : GoodX x z 4) : textB x z = true := by
  obtain ⟨h1, h2, h3⟩ := g
  unfold textB
  simp only [Bool.and_eq_true, decide_eq_true_eq, List.all_eq_true]
  exact ⟨⟨by omega, h2⟩, h3⟩
theorem GoodR.ok {r : RD} {z : Str} {n : Int} (g : GoodR r z n) : ruleB r z n = true := by
  obtain ⟨h1, h2, ⟨h3, h4, h5⟩, h6, h7, h8⟩ := g
  unfold ruleB modeB cellsB
  rw [h2.ok, h7.ok, h8.ok]
  simp only [Bool.and_eq_true, decide_eq_true_eq, List.all_eq_true, cellB, Bool.true_and, Bool.and_true]
  exact ⟨h1, ⟨⟨by omega, by omega⟩, h5⟩, h6⟩
theorem every_good : ∀ c ∈ everyL, goodB c = true := by decide
theorem GoodT.signs {d : TD} (g : GoodT d) : signsB d.signs = true := by
  have gz := g.z
  have h := nodup_len g.nd g.all
  have e : everyL.length = 10 := rfl
  have l1 := gz.l1
  unfold signsB diffB
  rw [sl_len]
  rw [sl_len] at l1
  simp only [Bool.and_eq_true, decide_eq_true_eq, List.all_eq_true]
  exact ⟨⟨by omega, by omega⟩, g.nd, fun c hc => every_good c (g.all c hc)⟩
theorem GoodT.many {d : TD} (g : GoodT d) : manyB d.modes = true := by
  obtain ⟨h1, h2⟩ := g.modes
  unfold manyB
  simp only [Bool.and_eq_true, decide_eq_true_eq]
  exact ⟨h1, h2⟩
theorem GoodT.ok {d : TD} (g : GoodT d) : letB d = true := by
  unfold letB
  rw [g.signs, g.many]
  have := g.few
  simp only [Bool.true_and, Bool.and_eq_true, decide_eq_true_eq, List.all_eq_true]
  exact ⟨by omega, fun r hr => (g.rules r hr).ok⟩
/-! ### pieces by kind and signs -/
abbrev It := Bool × List Nat
def itp (ps : List Pc) : List It := ps.map fun p => (p.quo, p.txt)
theorem itp_dues : ∀ (l : List Sg) (off : Nat), itp (dues off l) = l.map fun s => (s.quo, s.txt)
  | [], _ => rfl
  | s :: r, off => by
    show (s.quo, s.txt) :: itp (dues (off + s.all.length) r) = _
    rw [itp_dues r]
    rfl
theorem itp_head {ps : List Pc} {k : Nat} {i : It} {r : List It} (h : itp (ps.drop k) = i :: r) : ∃ pc, ps[k]? = some pc ∧ pc.quo = i.1 ∧ pc.txt = i.2 ∧ itp (ps.drop (k + 1)) = r := by
  cases e : ps.drop k with
  | nil => rw [e] at h; cases h
  | cons pc t =>
    rw [e] at h
    have h1 : (pc.quo, pc.txt) = i := (List.cons.inj h).1
    have h2 : itp t = r := (List.cons.inj h).2
    have g : ps[k]? = some pc := by
      have q : (ps.drop k)[0]? = some pc := by rw [e]; rfl
      rw [List.getElem?_drop] at q
      exact q
    refine ⟨pc, g, by rw [← h1], by rw [← h1], ?_⟩
    rw [← List.drop_drop, e]
    exact h2
theorem itp_end {ps : List Pc} {k : Nat} (h : itp (ps.drop k) = []) : ps.length ≤ k ∧ ps[k]? = none := by
  have e : ps.drop k = [] := List.map_eq_nil_iff.mp h
  have l := List.drop_eq_nil_iff.mp e
  exact ⟨l, List.getElem?_eq_none l⟩
theorem pcS_eq (t : List Nat) (wd : Str) : decide (V.str (pcS t) = V.str wd) = decide (t = sl wd) := by
  rw [decide_eq_decide]
  constructor
  · intro h
    have := V.str.inj h
    rw [← this, sl_pcS]
  · intro h
    rw [h, ← pcS_of (x := wd) rfl]
theorem sees_plain {ps : List Pc} {k : Nat} {t : List Nat} {r : List It} (wd : Str) (h : itp (ps.drop k) = (false, t) :: r) : seesB ps k "plain" wd = decide (t = sl wd) := by
  obtain ⟨pc, g, h1, h2, _⟩ := itp_head h
  unfold seesB
  rw [g]
  show (decide (V.str (kindS pc.quo) = V.str "plain") && (decide (V.str ("plain" : Str) = V.str "quoted") || decide (V.str (pcS pc.txt) = V.str wd))) = _
  rw [h1, h2, pcS_eq]
  have e1 : decide (V.str (kindS false) = V.str ("plain" : Str)) = true := by decide +kernel
  have e2 : decide (V.str ("plain" : Str) = V.str ("quoted" : Str)) = false := by decide +kernel
  show (decide (V.str (kindS false) = V.str ("plain" : Str)) && _) = _
  rw [e1, e2]
  rfl
theorem sees_quo {ps : List Pc} {k : Nat} {t : List Nat} {r : List It} (wd : Str) (h : itp (ps.drop k) = (true, t) :: r) : seesB ps k "plain" wd = false ∧ seesB ps k "quoted" "" = true := by
  obtain ⟨pc, g, h1, h2, _⟩ := itp_head h
  unfold seesB
  rw [g]
  have e1 : decide (V.str (kindS true) = V.str ("plain" : Str)) = false := by decide +kernel
  have e2 : decide (V.str (kindS true) = V.str ("quoted" : Str)) = true := by decide +kernel
  have e3 : decide (V.str ("quoted" : Str) = V.str ("quoted" : Str)) = true := by decide +kernel
  constructor
  · show (decide (V.str (kindS pc.quo) = V.str ("plain" : Str)) && _) = _
    rw [h1]
    show (decide (V.str (kindS true) = V.str ("plain" : Str)) && _) = _
    rw [e1]
    rfl
  · show (decide (V.str (kindS pc.quo) = V.str ("quoted" : Str)) && (decide (V.str ("quoted" : Str) = V.str ("quoted" : Str)) || _)) = _
    rw [h1]
    show (decide (V.str (kindS true) = V.str ("quoted" : Str)) && _) = _
    rw [e2, e3]
    rfl
theorem sees_end {ps : List Pc} {k : Nat} (kd wd : Str) (h : itp (ps.drop k) = []) : seesB ps k kd wd = false := by
  unfold seesB
  rw [(itp_end h).2]
theorem plain_of {ps : List Pc} {k : Nat} {t : List Nat} {r : List It} (h : itp (ps.drop k) = (false, t) :: r) : sl (plainW ps k) = t := by
  obtain ⟨pc, g, h1, h2, _⟩ := itp_head h
  unfold plainW
  rw [g]
  show sl (if pc.quo = true then "" else pcS pc.txt) = t
  rw [h1, h2]
  exact sl_pcS t
theorem rest_of {ps : List Pc} {k : Nat} {i : It} {r : List It} (h : itp (ps.drop k) = i :: r) : itp (ps.drop (k + 1)) = r := (itp_head h).choose_spec.2.2.2
/-! ### the models on pieces that are right -/
theorem m_begin {x : Rd} {k : Nat} {wd : Str} {r : List It} (h : itp (x.ps.drop k) = (false, sl wd) :: r) : mBegin x k wd true = .ok () (k + 1) := by
  unfold mBegin
  rw [sees_plain wd h, decide_eq_true rfl]
  rfl
theorem m_takeW {x : Rd} {k : Nat} {wd : Str} {r : List It} (h : itp (x.ps.drop k) = (false, sl wd) :: r) : mTakeW x k wd = .ok () (k + 1) := by
  unfold mTakeW
  rw [sees_plain wd h, decide_eq_true rfl, if_pos rfl]
theorem m_takeQ {x : Rd} {k : Nat} {t : Str} {r : List It} (h : itp (x.ps.drop k) = (true, sl t) :: r) : mTakeQ x k = .ok t (k + 1) := by
  obtain ⟨pc, g, h1, h2, _⟩ := itp_head h
  unfold mTakeQ
  rw [(sees_quo "" h).2, if_pos rfl, g]
  show Res.ok (pcS pc.txt) (k + 1) = _
  rw [h2]
  show Res.ok (pcS (sl t)) (k + 1) = _
  rw [← pcS_of (x := t) rfl]
theorem dg_num {m : Int} (h : 0 ≤ m ∧ m ≤ 9) : numW (sl (dgS m)) 3 = some m.toNat := by
  have : m = 0 ∨ m = 1 ∨ m = 2 ∨ m = 3 ∨ m = 4 ∨ m = 5 ∨ m = 6 ∨ m = 7 ∨ m = 8 ∨ m = 9 := by omega
  rcases this with rfl | rfl | rfl | rfl | rfl | rfl | rfl | rfl | rfl | rfl <;> decide +kernel
theorem m_takeN {x : Rd} {k : Nat} {m : Int} {r : List It} (hm : 0 ≤ m ∧ m ≤ 9) (h : itp (x.ps.drop k) = (false, sl (dgS m)) :: r) : mTakeN x k = .ok m.toNat (k + 1) := by
  unfold mTakeN
  rw [plain_of h, dg_num hm]
theorem cell_num {c : Int} (h : 0 ≤ c ∧ c ≤ 63) : cellW (sl (cellS c)) = some c := by
  have q : ∀ n : Fin 64, cellW (sl (cellS (n.val : Int))) = some (n.val : Int) := by decide +kernel
  have := q ⟨c.toNat, by omega⟩
  have e : ((c.toNat : Nat) : Int) = c := by omega
  rw [show ((⟨c.toNat, by omega⟩ : Fin 64).val : Int) = c from e] at this
  exact this
theorem m_range {x : Rd} {k : Nat} {b : Bool} (h : b = true) : mRange x k b = .ok () k := by
  unfold mRange
  rw [if_pos h]
theorem m_finish {x : Rd} {k : Nat} (h : itp (x.ps.drop k) = []) : mFinish x k = .ok () k := by
  unfold mFinish
  have := (itp_end h).1
  rw [if_neg (by omega)]
/-- what the cells behind the first one are -/
theorem m_more {x : Rd} {rest : List It} {t : List Nat} (ht : cellW t = none) (hr : rest.head? = some (false, t)) : ∀ (cs : List Int) (f k : Nat) (acc : List Int), (∀ c ∈ cs, 0 ≤ c ∧ c ≤ 63) → acc.length + cs.length ≤ 4 → cs.length < f →
    itp (x.ps.drop k) = cs.map (fun c => (false, sl (cellS c))) ++ rest → mMore x f k acc = .ok (acc ++ cs) (k + cs.length)
  | [], f, k, acc, _, _, hf, h => by
    cases f with
    | zero => exact absurd hf (Nat.lt_irrefl _)
    | succ f =>
      cases rest with
      | nil => cases hr
      | cons i rest =>
        obtain rfl := Option.some.inj hr
        unfold mMore
        rw [plain_of h, ht]
        simp
  | c :: cs, f, k, acc, hc, hl, hf, h => by
    cases f with
    | zero => exact absurd hf (Nat.not_lt_zero _)
    | succ f =>
      have h0 : itp (x.ps.drop k) = (false, sl (cellS c)) :: (cs.map (fun c => (false, sl (cellS c))) ++ rest) := h
      rw [List.length_cons] at hl hf
      unfold mMore
      rw [plain_of h0, cell_num (hc c List.mem_cons_self)]
      show (if acc.length + 1 ≤ 4 then mMore x f (k + 1) (acc ++ [c]) else _) = _
      rw [if_pos (by omega), m_more ht hr cs f (k + 1) (acc ++ [c]) (fun y hy => hc y (List.mem_cons_of_mem _ hy)) (by rw [List.length_append]; show acc.length + 1 + cs.length ≤ 4; omega) (by omega) (rest_of h0)]
      rw [List.append_assoc, List.length_cons]
      have e : k + 1 + cs.length = k + (cs.length + 1) := by omega
      rw [e]
      rfl
end Sx

set_option Elab.async false
set_option linter.all false
set_option maxRecDepth 100000
set_option maxHeartbeats 1000000
namespace Sx
open PySem PySem.Spec PyProof.Rows L2 SxA SxK
def itS (z : Str) : List It := [(false, sl ("signs" : Str)), (true, sl z)]
def itM (m : Int) : List It := [(false, sl ("modes" : Str)), (false, sl (dgS m))]
def itN (wd : Str) : Option Str → List It
  | none => []
  | some y => [(false, sl wd), (true, sl y)]
def itC (cs : List Int) : List It := cs.map fun c => (false, sl (cellS c))
def itR (r : RD) : List It := (false, sl ("rule" : Str)) :: (false, sl (dgS r.mode)) :: (true, sl r.text) :: (false, sl ("=" : Str)) :: (itC r.cells ++ (false, sl ("to" : Str)) :: (false, sl (dgS r.to)) :: (itN "ahead" r.ahead ++ itN "behind" r.behind))
theorem bo {α β : Type} {s : Res α} {a : α} {k : Nat} {f : α → Nat → Res β} (h : s = .ok a k) : s.bind f = f a k := by rw [h]; rfl
theorem m_mode {x : Rd} {k : Nat} {m n : Int} {r : List It} (hm : 0 ≤ m ∧ m < n) (hn : n ≤ 4) (h : itp (x.ps.drop k) = (false, sl (dgS m)) :: r) : mMode x k n = .ok m.toNat (k + 1) := by
  unfold mMode
  refine (bo (m_takeN ⟨hm.1, by omega⟩ h)).trans ?_
  refine (bo (m_range ?_)).trans rfl
  unfold modeB
  simp only [Bool.and_eq_true, decide_eq_true_eq]
  omega
theorem m_signs {x : Rd} {d : TD} (g : GoodT d) (h : itp x.ps = itS d.signs) : ∃ k, mSigns x 0 = .ok d.signs k := by
  have h0 : itp (x.ps.drop 0) = (false, sl ("signs" : Str)) :: [(true, sl d.signs)] := h
  have h1 := rest_of h0
  have h2 : itp (x.ps.drop (0 + 1 + 1)) = [] := rest_of h1
  unfold mSigns
  refine ⟨_, ((bo (m_begin h0)).trans ((bo (m_takeQ h1)).trans ((bo (m_range g.signs)).trans ((bo (m_finish h2)).trans rfl))))⟩
theorem m_modes {x : Rd} {d : TD} (g : GoodT d) (h : itp x.ps = itM d.modes) : ∃ k, mModes x 0 = .ok d.modes.toNat k := by
  have h0 : itp (x.ps.drop 0) = (false, sl ("modes" : Str)) :: [(false, sl (dgS d.modes))] := h
  have h1 := rest_of h0
  have h2 : itp (x.ps.drop (0 + 1 + 1)) = [] := rest_of h1
  have gm := g.modes
  have e : ((d.modes.toNat : Nat) : Int) = d.modes := by omega
  unfold mModes
  refine ⟨_, ((bo (m_begin h0)).trans ((bo (m_takeN (by omega) h1)).trans ((bo (m_range (by rw [e]; exact g.many))).trans ((bo (m_finish h2)).trans rfl))))⟩
theorem m_near {x : Rd} {k : Nat} {wd z : Str} {e : Nat} {o : Option Str} {rest : List It} (g : GoodN o z e) (hr : ∀ t r, rest = (false, t) :: r → t ≠ sl wd) (h : itp (x.ps.drop k) = itN wd o ++ rest) : ∃ j, mNear x k wd z e = .ok o j ∧ itp (x.ps.drop j) = rest := by
  unfold mNear
  cases o with
  | none =>
    refine ⟨k, ?_, h⟩
    have h' : itp (x.ps.drop k) = rest := h
    have q : seesB x.ps k "plain" wd = false := by
      cases rest with
      | nil => exact sees_end _ _ h'
      | cons i r =>
        obtain ⟨b, t⟩ := i
        cases b with
        | false => rw [sees_plain wd h', decide_eq_false (hr t r rfl)]
        | true => exact (sees_quo wd h').1
    rw [q, if_neg (by decide)]
  | some y =>
    have h0 : itp (x.ps.drop k) = (false, sl wd) :: (true, sl y) :: rest := h
    have h1 := rest_of h0
    have h2 := rest_of h1
    refine ⟨k + 1 + 1, ?_, h2⟩
    rw [sees_plain wd h0, decide_eq_true rfl, if_pos rfl]
    exact (bo (m_takeW h0)).trans ((bo (m_takeQ h1)).trans ((bo (m_range g.ok)).trans rfl))
theorem m_rule {x : Rd} {r : RD} {z : Str} {n : Int} (g : GoodR r z n) (hn : n ≤ 4) (h : itp x.ps = itR r) : ∃ k, mRule x 0 z n true = .ok r k := by
  obtain ⟨g1, g2, ⟨g3, g4, g5⟩, g6, g7, g8⟩ := g
  have h0 : itp (x.ps.drop 0) = itR r := h
  have h1 := rest_of h0
  have h2 := rest_of h1
  have h3 := rest_of h2
  have h4 := rest_of h3
  obtain ⟨c, cs, ec⟩ : ∃ c cs, r.cells = c :: cs := by
    cases q : r.cells with
    | nil => rw [q] at g3; exact absurd g3 (by decide)
    | cons c cs => exact ⟨c, cs, rfl⟩
  rw [ec] at h4 g4 g5
  have h4' : itp (x.ps.drop 4) = (false, sl (cellS c)) :: (itC cs ++ (false, sl ("to" : Str)) :: (false, sl (dgS r.to)) :: (itN "ahead" r.ahead ++ itN "behind" r.behind)) := h4
  have h5 := rest_of h4'
  have tow : cellW (sl ("to" : Str)) = none := by decide +kernel
  have hmore := m_more (x := x) tow (rest := (false, sl ("to" : Str)) :: (false, sl (dgS r.to)) :: (itN "ahead" r.ahead ++ itN "behind" r.behind)) rfl cs (x.ps.length + 1 - 5) 5 [c] (fun y hy => g5 y (List.mem_cons_of_mem _ hy)) (by show 1 + cs.length ≤ 4; rw [List.length_cons] at g4; omega) (by
    have := congrArg List.length h5
    unfold itp itC at this
    rw [List.length_map, List.length_drop, List.length_append, List.length_map, List.length_cons] at this
    omega) h5
  have hcells : mCells x 4 = .ok (c :: cs) (5 + cs.length) := by
    unfold mCells mTakeC
    rw [plain_of h4', cell_num (g5 c List.mem_cons_self)]
    exact hmore
  have h6 : itp (x.ps.drop (5 + cs.length)) = (false, sl ("to" : Str)) :: (false, sl (dgS r.to)) :: (itN "ahead" r.ahead ++ itN "behind" r.behind) := by
    have e : ((x.ps.drop 5).drop cs.length) = x.ps.drop (5 + cs.length) := by rw [List.drop_drop]
    have q := congrArg (List.drop cs.length) h5
    unfold itp at q ⊢
    rw [← List.map_drop, e] at q
    rw [q, List.drop_append_of_le_length (by unfold itC; rw [List.length_map]; exact Nat.le_refl _), List.drop_of_length_le (by unfold itC; rw [List.length_map]; exact Nat.le_refl _)]
    rfl
  have h7 := rest_of h6
  have h8 := rest_of h7
  obtain ⟨j1, a1, a2⟩ := m_near (x := x) (rest := itN "behind" r.behind) g7 (fun t q e => by
    cases hb : r.behind with
    | none => rw [hb] at e; cases e
    | some y =>
      rw [hb] at e
      have e1 := (List.cons.inj e).1
      have : sl ("behind" : Str) = t := congrArg Prod.snd e1
      rw [← this]
      decide +kernel) h8
  obtain ⟨j2, b1, b2⟩ := m_near (x := x) (wd := "behind") (rest := []) g8 (fun t q e => by cases e) (by rw [List.append_nil]; exact a2)
  unfold mRule
  refine ⟨j2, (bo (m_begin h0)).trans ((bo (m_mode g1 hn h1)).trans ((bo (m_takeQ h2)).trans ((bo (m_range g2.ok)).trans ((bo (m_takeW h3)).trans ((bo hcells).trans ((bo (m_takeW h6)).trans ((bo (m_mode g6 hn h7)).trans ((bo a1).trans ((bo b1).trans ((bo (m_finish b2)).trans ?_))))))))))⟩
  have e1 : ((r.mode.toNat : Nat) : Int) = r.mode := by omega
  have e2 : ((r.to.toNat : Nat) : Int) = r.to := by omega
  show Res.ok (⟨((r.mode.toNat : Nat) : Int), r.text, c :: cs, ((r.to.toNat : Nat) : Int), r.ahead, r.behind⟩ : RD) j2 = _
  rw [e1, e2, ← ec]
/-! ### lines that are laid: blank ones, and those with pieces -/
inductive Lay : List (Str × LX) → List (List It) → Prop where
  | nil : Lay [] []
  | blank {z : Str} {zs : List (Str × LX)} {ls : List (List It)} : Lay zs ls → Lay ((z, .pcs []) :: zs) ls
  | line {z : Str} {ps : List Pc} {i : List It} {zs : List (Str × LX)} {ls : List (List It)} : itp ps = i → i ≠ [] → Lay zs ls → Lay ((z, .pcs ps) :: zs) (i :: ls)
theorem ne_pcs {ps : List Pc} {i : List It} (h : itp ps = i) (hi : i ≠ []) : ∃ q qs, ps = q :: qs := by
  cases ps with
  | nil => exact absurd h.symm hi
  | cons q qs => exact ⟨q, qs, rfl⟩
theorem lay_rules {d : TD} (g : GoodT d) : ∀ {zs : List (Str × LX)} {ls : List (List It)}, Lay zs ls → ∀ (n : Nat) (done todo : List RD), d.rules = done ++ todo → ls = todo.map itR → mTab zs n ⟨some d.signs, some d.modes.toNat, done⟩ = .ok d
  | _, _, .nil, n, done, todo, hd, hl => by
    have e : todo = [] := List.map_eq_nil_iff.mp hl.symm
    rw [e, List.append_nil] at hd
    have gm := g.modes
    have e1 : ((d.modes.toNat : Nat) : Int) = d.modes := by omega
    show TR.ok (⟨(some d.signs).getD "", ((d.modes.toNat : Nat) : Int), done⟩ : TD) = _
    rw [e1, ← hd]
    rfl
  | _, _, .blank h, n, done, todo, hd, hl => lay_rules g h (n + 1) done todo hd hl
  | _, _, .line (z := z) (ps := ps) hp hi h, n, done, todo, hd, hl => by
    cases todo with
    | nil => cases hl
    | cons r todo =>
      rw [List.map_cons] at hl
      obtain ⟨hl1, hl2⟩ := List.cons.inj hl
      obtain ⟨q, qs, rfl⟩ := ne_pcs hp hi
      have few := g.few
      rw [hd, List.length_append, List.length_cons] at few
      have gr := g.rules r (by rw [hd]; exact List.mem_append_right _ List.mem_cons_self)
      have gm := g.modes
      have e1 : ((d.modes.toNat : Nat) : Int) = d.modes := by omega
      obtain ⟨k, hk⟩ := m_rule (x := rd0 ((n : Int) + 1) ((z.length : Int) + 1) (q :: qs)) gr (by omega) (hp.trans hl1)
      have ih := lay_rules g h (n + 1) (done ++ [r]) todo (by rw [hd, List.append_assoc]; rfl) hl2
      have st : stepT ((n : Int) + 1) z ⟨some d.signs, some d.modes.toNat, done⟩ (.pcs (q :: qs)) = .go ⟨some d.signs, some d.modes.toNat, done ++ [r]⟩ := by
        show (match mRule (rd0 ((n : Int) + 1) ((z.length : Int) + 1) (q :: qs)) 0 d.signs ((d.modes.toNat : Nat) : Int) (decide ((done.length : Int) < 80)) with
          | .ok r _ => SR.go ⟨some d.signs, some d.modes.toNat, done ++ [r]⟩
          | .err c w => .err c w) = _
        rw [e1, decide_eq_true (by omega), hk]
      show (match stepT ((n : Int) + 1) z ⟨some d.signs, some d.modes.toNat, done⟩ (.pcs (q :: qs)) with
        | .go s2 => mTab _ (n + 1) s2
        | .err c w => TR.err ((n : Int) + 1) c w) = _
      rw [st]
      exact ih
theorem lay_modes {d : TD} (g : GoodT d) : ∀ {zs : List (Str × LX)} {ls : List (List It)}, Lay zs ls → ∀ n : Nat, ls = itM d.modes :: d.rules.map itR → mTab zs n ⟨some d.signs, none, []⟩ = .ok d
  | _, _, .nil, n, hl => by cases hl
  | _, _, .blank h, n, hl => lay_modes g h (n + 1) hl
  | _, _, .line (z := z) (ps := ps) hp hi h, n, hl => by
    obtain ⟨hl1, hl2⟩ := List.cons.inj hl
    obtain ⟨q, qs, rfl⟩ := ne_pcs hp hi
    obtain ⟨k, hk⟩ := m_modes (x := rd0 ((n : Int) + 1) ((z.length : Int) + 1) (q :: qs)) g (hp.trans hl1)
    have ih := lay_rules g h (n + 1) [] d.rules rfl hl2
    have st : stepT ((n : Int) + 1) z ⟨some d.signs, none, []⟩ (.pcs (q :: qs)) = .go ⟨some d.signs, some d.modes.toNat, []⟩ := by
      show (match mModes (rd0 ((n : Int) + 1) ((z.length : Int) + 1) (q :: qs)) 0 with
        | .ok m _ => SR.go ⟨some d.signs, some m, []⟩
        | .err c w => .err c w) = _
      rw [hk]
    show (match stepT ((n : Int) + 1) z ⟨some d.signs, none, []⟩ (.pcs (q :: qs)) with
      | .go s2 => mTab _ (n + 1) s2
      | .err c w => TR.err ((n : Int) + 1) c w) = _
    rw [st]
    exact ih
def itT (d : TD) : List (List It) := itS d.signs :: itM d.modes :: d.rules.map itR
theorem lay_table {d : TD} (g : GoodT d) : ∀ {zs : List (Str × LX)} {ls : List (List It)}, Lay zs ls → ∀ n : Nat, ls = itT d → mTab zs n ⟨none, none, []⟩ = .ok d
  | _, _, .nil, n, hl => by cases hl
  | _, _, .blank h, n, hl => lay_table g h (n + 1) hl
  | _, _, .line (z := z) (ps := ps) hp hi h, n, hl => by
    obtain ⟨hl1, hl2⟩ := List.cons.inj hl
    obtain ⟨q, qs, rfl⟩ := ne_pcs hp hi
    obtain ⟨k, hk⟩ := m_signs (x := rd0 ((n : Int) + 1) ((z.length : Int) + 1) (q :: qs)) g (hp.trans hl1)
    have ih := lay_modes g h (n + 1) hl2
    have st : stepT ((n : Int) + 1) z ⟨none, none, []⟩ (.pcs (q :: qs)) = .go ⟨some d.signs, none, []⟩ := by
      show (match mSigns (rd0 ((n : Int) + 1) ((z.length : Int) + 1) (q :: qs)) 0 with
        | .ok v _ => SR.go ⟨some v, none, []⟩
        | .err c w => .err c w) = _
      rw [hk]
    show (match stepT ((n : Int) + 1) z ⟨none, none, []⟩ (.pcs (q :: qs)) with
      | .go s2 => mTab _ (n + 1) s2
      | .err c w => TR.err ((n : Int) + 1) c w) = _
    rw [st]
    exact ih
end Sx

set_option Elab.async false
set_option linter.all false
set_option maxRecDepth 100000
set_option maxHeartbeats 1000000
namespace Sx
open PySem PySem.Spec PyProof.Rows L2 SxA SxK
theorem lex_fin {l : List Nat} {k : Nat} (h : l.drop k = []) (hk : k ≤ l.length) : Lex l k [] none := by
  have e : k = l.length := by
    have := List.drop_eq_nil_iff.mp h
    omega
  rw [e]
  exact .done
theorem lex_blank {l : List Nat} (h : ∀ c ∈ l, c = 32) : Lex l 0 [] none := by
  have e : l = List.replicate l.length 32 := List.eq_replicate_iff.mpr ⟨rfl, h⟩
  refine lex_spaces (rest := []) l.length 0 (by rw [List.append_nil]; exact e) ?_
  exact lex_fin (by rw [Nat.zero_add]; exact List.drop_length) (by omega)
def itW (i : It) : List Nat := if i.1 = true then 34 :: (escL i.2 ++ [34]) else i.2
def sgOf (g : Nat) (i : It) : Sg := ⟨g, i.1, i.2⟩
theorem sgOf_all (g : Nat) (i : It) : (sgOf g i).all = List.replicate g 32 ++ itW i := rfl
/-- pieces with their gaps: g0 ahead of the first, g1 ahead of the second, one ahead of the others -/
def segG (g0 g1 : Nat) : List It → List Sg
  | [] => []
  | [x] => [sgOf g0 x]
  | x :: y :: r => sgOf g0 x :: sgOf g1 y :: r.map (sgOf 1)
theorem segG_map (g0 g1 : Nat) (i : List It) : (segG g0 g1 i).map (fun s => (s.quo, s.txt)) = i := by
  match i with
  | [] => rfl
  | [x] => rfl
  | x :: y :: r =>
    show (x.1, x.2) :: (y.1, y.2) :: (r.map (sgOf 1)).map (fun s => (s.quo, s.txt)) = _
    rw [List.map_map]
    have : r.map ((fun s : Sg => (s.quo, s.txt)) ∘ sgOf 1) = r := by
      induction r with
      | nil => rfl
      | cons a r ih => rw [List.map_cons, ih]; rfl
    rw [this]
structure FineL (i : List It) : Prop where
  ne : i ≠ []
  plain : ∀ x ∈ i, x.1 = false → x.2 ≠ [] ∧ ∀ c ∈ x.2, c ≠ 32 ∧ c ≠ 34
  sign : ∀ x ∈ i, ∀ c ∈ x.2, signB c = true
  short : ∀ x ∈ i, x.2.length ≤ 11
  cnt : i.length ≤ 14
theorem chain_ones : ∀ (r : List It) (b : Bool), (∀ x ∈ r, x.1 = false → x.2 ≠ [] ∧ ∀ c ∈ x.2, c ≠ 32 ∧ c ≠ 34) → Chain b (r.map (sgOf 1))
  | [], _, _ => True.intro
  | x :: r, b, h => ⟨fun hx => ⟨fun _ => Nat.le_refl _, h x List.mem_cons_self hx⟩, chain_ones r _ fun y hy => h y (List.mem_cons_of_mem _ hy)⟩
theorem chain_seg {g0 g1 : Nat} (hg : 1 ≤ g1) {i : List It} (h : ∀ x ∈ i, x.1 = false → x.2 ≠ [] ∧ ∀ c ∈ x.2, c ≠ 32 ∧ c ≠ 34) : Chain false (segG g0 g1 i) := by
  match i, h with
  | [], _ => exact True.intro
  | [x], h => exact ⟨fun hx => ⟨fun e => (by cases e), h x List.mem_cons_self hx⟩, True.intro⟩
  | x :: y :: r, h =>
    exact ⟨fun hx => ⟨fun e => (by cases e), h x List.mem_cons_self hx⟩, fun hy => ⟨fun _ => hg, h y (List.mem_cons_of_mem _ List.mem_cons_self) hy⟩, chain_ones r _ fun u hu => h u (List.mem_cons_of_mem _ (List.mem_cons_of_mem _ hu))⟩
theorem lex_laid {l : List Nat} {g0 g1 t : Nat} {i : List It} (hg : 1 ≤ g1) (h : ∀ x ∈ i, x.1 = false → x.2 ≠ [] ∧ ∀ c ∈ x.2, c ≠ 32 ∧ c ≠ 34) (e : l = ren (segG g0 g1 i) ++ List.replicate t 32) : Lex l 0 (dues 0 (segG g0 g1 i)) none := by
  have q := lex_sgs (l := l) (post := List.replicate t 32) (ps := []) (e := none) (fun c hc => by
    cases t with
    | zero => cases hc
    | succ t => exact .inl (Option.some.inj hc).symm) (segG g0 g1 i) false 0 e (chain_seg hg h) (by
      rw [Nat.zero_add]
      refine lex_spaces (rest := []) t _ (by rw [e, List.drop_left, List.append_nil]) ?_
      have le : l.length = (ren (segG g0 g1 i)).length + t := by rw [e, List.length_append, List.length_replicate]
      exact lex_fin (by rw [← le]; exact List.drop_length) (by omega))
  rw [List.append_nil] at q
  exact q
/-! ### lines as texts -/
inductive LayS : List Str → List (List It) → Prop where
  | nil : LayS [] []
  | blank {z : Str} {zs : List Str} {ls : List (List It)} : (∀ c ∈ sl z, c = 32) → z.length ≤ 2 → LayS zs ls → LayS (z :: zs) ls
  | line {z : Str} {g0 g1 t : Nat} {i : List It} {zs : List Str} {ls : List (List It)} : 1 ≤ g1 → g0 ≤ 3 ∧ g1 ≤ 3 ∧ t ≤ 3 → sl z = ren (segG g0 g1 i) ++ List.replicate t 32 → FineL i → LayS zs ls → LayS (z :: zs) (i :: ls)
theorem esc_good {l : List Nat} (h : ∀ c ∈ l, signB c = true) : ∀ c ∈ escL l, signB c = true := fun c hc => by
  unfold escL at hc
  obtain ⟨d, hd, hc⟩ := List.mem_flatMap.mp hc
  unfold escC at hc
  split at hc
  · rcases List.mem_cons.mp hc with e | hc
    · rw [e]; rfl
    · rw [List.mem_singleton.mp hc]; exact h d hd
  · rw [List.mem_singleton.mp hc]; exact h d hd
theorem itW_good {i : It} (h : ∀ c ∈ i.2, signB c = true) : ∀ c ∈ itW i, signB c = true := fun c hc => by
  unfold itW at hc
  split at hc
  · rcases List.mem_cons.mp hc with e | hc
    · rw [e]; rfl
    · rcases List.mem_append.mp hc with q | q
      · exact esc_good h c q
      · rw [List.mem_singleton.mp q]; rfl
  · exact h c hc
theorem rep_good {n c : Nat} (h : c ∈ List.replicate n 32) : signB c = true := by
  rw [(List.mem_replicate.mp h).2]; rfl
theorem seg_mem {g0 g1 : Nat} {i : List It} {s : Sg} (h : s ∈ segG g0 g1 i) : ∃ g x, x ∈ i ∧ s = sgOf g x := by
  match i, h with
  | [x], h => exact ⟨g0, x, List.mem_cons_self, List.mem_singleton.mp h⟩
  | x :: y :: r, h =>
    rcases List.mem_cons.mp h with e | h
    · exact ⟨g0, x, List.mem_cons_self, e⟩
    · rcases List.mem_cons.mp h with e | h
      · exact ⟨g1, y, List.mem_cons_of_mem _ List.mem_cons_self, e⟩
      · obtain ⟨u, hu, rfl⟩ := List.mem_map.mp h
        exact ⟨1, u, List.mem_cons_of_mem _ (List.mem_cons_of_mem _ hu), rfl⟩
theorem ren_good {g0 g1 : Nat} {i : List It} (h : ∀ x ∈ i, ∀ c ∈ x.2, signB c = true) : ∀ c ∈ ren (segG g0 g1 i), signB c = true := fun c hc => by
  obtain ⟨s, hs, hc⟩ := List.mem_flatMap.mp hc
  obtain ⟨g, x, hx, rfl⟩ := seg_mem hs
  rw [sgOf_all] at hc
  rcases List.mem_append.mp hc with q | q
  · exact rep_good q
  · exact itW_good (h x hx) c q
theorem LayS.lx : ∀ {zs : List Str} {ls : List (List It)}, LayS zs ls → ∃ xs : List LX, xs.length = zs.length ∧ Lay (zs.zip xs) ls ∧ ∀ (i : Nat) (l : Str) (x : LX), zs[i]? = some l → xs[i]? = some x → LXok l x ∧ ShortX x
  | _, _, .nil => ⟨[], rfl, .nil, fun i l x h => by simp at h⟩
  | _, _, .blank hz _ h => by
    obtain ⟨xs, h1, h2, h3⟩ := h.lx
    refine ⟨.pcs [] :: xs, by rw [List.length_cons, List.length_cons, h1], .blank h2, fun i l x e1 e2 => ?_⟩
    cases i with
    | zero =>
      obtain rfl := Option.some.inj e1
      obtain rfl := Option.some.inj e2
      exact ⟨⟨fun c hc => by rw [hz c hc]; rfl, lex_blank hz⟩, fun pc hpc => by cases hpc⟩
    | succ i => exact h3 i l x e1 e2
  | _, _, .line (g0 := g0) (g1 := g1) (i := it) hg _ hz hf h => by
    obtain ⟨xs, h1, h2, h3⟩ := h.lx
    refine ⟨.pcs (dues 0 (segG g0 g1 it)) :: xs, by rw [List.length_cons, List.length_cons, h1], .line (by rw [itp_dues, segG_map]) hf.ne h2, fun i l x e1 e2 => ?_⟩
    cases i with
    | zero =>
      obtain rfl := Option.some.inj e1
      obtain rfl := Option.some.inj e2
      refine ⟨⟨fun c hc => ?_, lex_laid hg hf.plain hz⟩, fun pc hpc => ?_⟩
      · rw [hz] at hc
        rcases List.mem_append.mp hc with q | q
        · exact ren_good hf.sign c q
        · exact rep_good q
      · have q : (pc.quo, pc.txt) ∈ itp (dues 0 (segG g0 g1 it)) := List.mem_map.mpr ⟨pc, hpc, rfl⟩
        rw [itp_dues, segG_map] at q
        exact Nat.le_trans (hf.short _ q) (by decide)
    | succ i => exact h3 i l x e1 e2
/-! ### the lines of a table -/
theorem jn_flat : ∀ (x : List Nat) (r : List (List Nat)), jn (x :: r) = x ++ r.flatMap fun y => 32 :: y
  | x, [] => by simp [jn]
  | x, y :: r => by
    show x ++ 32 :: jn (y :: r) = _
    rw [jn_flat y r]
    simp
theorem ones_flat : ∀ r : List It, (r.map (sgOf 1)).flatMap Sg.all = (r.map itW).flatMap fun y => 32 :: y
  | [] => rfl
  | a :: r => by rw [List.map_cons, List.flatMap_cons, List.map_cons, List.flatMap_cons, ones_flat r]; rfl
theorem ren_jn : ∀ i : List It, i ≠ [] → ren (segG 0 1 i) = jn (i.map itW)
  | [], h => absurd rfl h
  | [x], _ => by
    show (sgOf 0 x).all ++ [] = _
    rw [sgOf_all, List.append_nil]
    rfl
  | x :: y :: r, _ => by
    show (sgOf 0 x).all ++ ((sgOf 1 y).all ++ (r.map (sgOf 1)).flatMap Sg.all) = jn (itW x :: itW y :: r.map itW)
    rw [jn_flat, sgOf_all, sgOf_all]
    rw [ones_flat]
    rfl
theorem itW_q (x : Str) : itW (true, sl x) = sl (quoS x) := (sl_quoS x).symm
theorem near_its (wd : Str) (o : Option Str) : (itN wd o).map itW = (nearW wd o).map sl := by
  cases o with
  | none => rfl
  | some y =>
    show [sl wd, itW (true, sl y)] = [sl wd, sl (quoS y)]
    rw [itW_q]
theorem line_rule (r : RD) : sl (ruleS r) = ren (segG 0 1 (itR r)) := by
  rw [ren_jn _ (by unfold itR; exact List.cons_ne_nil _ _)]
  unfold ruleS
  rw [sl_join]
  congr 1
  unfold ruleWs itR itC
  simp only [List.map_append, List.map_cons, List.map_nil, List.map_map, near_its, List.cons_append, List.nil_append, List.append_assoc]
  rw [itW_q]
  rfl
theorem line_signs (z : Str) : sl (sgL z) = ren (segG 0 1 (itS z)) := by
  rw [ren_jn _ (by unfold itS; exact List.cons_ne_nil _ _), sgL_eq, sl_app]
  show _ = sl ("signs" : Str) ++ 32 :: itW (true, sl z)
  rw [itW_q]
  have e : sl (Str.ofString "signs ") = sl ("signs" : Str) ++ [32] := by decide +kernel
  rw [e, List.append_assoc]
  rfl
theorem line_modes (m : Int) : sl (mdL m) = ren (segG 0 1 (itM m)) := by
  rw [ren_jn _ (by unfold itM; exact List.cons_ne_nil _ _), mdL_eq, sl_app]
  show _ = sl ("modes" : Str) ++ 32 :: sl (dgS m)
  have e : sl (Str.ofString "modes ") = sl ("modes" : Str) ++ [32] := by decide +kernel
  rw [e, List.append_assoc]
  rfl
end Sx

set_option Elab.async false
set_option linter.all false
set_option maxRecDepth 100000
set_option maxHeartbeats 1000000
namespace Sx
open PySem PySem.Spec PyProof.Rows L2 SxA SxK
/-! ### how long the lines are -/
theorem escL_le (l : List Nat) : (escL l).length ≤ 2 * l.length := by
  induction l with
  | nil => exact Nat.le_refl _
  | cons c r ih =>
    have e : escL (c :: r) = escC c ++ escL r := rfl
    have h : (escC c).length ≤ 2 := by unfold escC; split <;> simp
    rw [e, List.length_append, List.length_cons]
    omega
theorem itW_le (i : It) : (itW i).length ≤ 2 * i.2.length + 2 := by
  unfold itW
  split
  · rw [List.length_cons, List.length_append, List.length_singleton]
    have := escL_le i.2
    omega
  · omega
theorem segG_len (g0 g1 : Nat) (i : List It) : (segG g0 g1 i).length = i.length := by
  match i with
  | [] => rfl
  | [x] => rfl
  | x :: y :: r => simp [segG]
theorem seg_mem3 {g0 g1 : Nat} {i : List It} {s : Sg} (h : s ∈ segG g0 g1 i) : ∃ g x, x ∈ i ∧ s = sgOf g x ∧ (g = g0 ∨ g = g1 ∨ g = 1) := by
  match i, h with
  | [x], h => exact ⟨g0, x, List.mem_cons_self, List.mem_singleton.mp h, .inl rfl⟩
  | x :: y :: r, h =>
    rcases List.mem_cons.mp h with e | h
    · exact ⟨g0, x, List.mem_cons_self, e, .inl rfl⟩
    · rcases List.mem_cons.mp h with e | h
      · exact ⟨g1, y, List.mem_cons_of_mem _ List.mem_cons_self, e, .inr (.inl rfl)⟩
      · obtain ⟨u, hu, rfl⟩ := List.mem_map.mp h
        exact ⟨1, u, List.mem_cons_of_mem _ (List.mem_cons_of_mem _ hu), rfl, .inr (.inr rfl)⟩
theorem flat_le {α : Type} (f : α → List Nat) (B : Nat) : ∀ l : List α, (∀ x ∈ l, (f x).length ≤ B) → (l.flatMap f).length ≤ l.length * B
  | [], _ => Nat.zero_le _
  | x :: r, h => by
    have a := h x List.mem_cons_self
    have b := flat_le f B r fun y hy => h y (List.mem_cons_of_mem _ hy)
    rw [List.flatMap_cons, List.length_append, List.length_cons, Nat.succ_mul]
    omega
theorem ren_le {g0 g1 : Nat} {i : List It} (h0 : g0 ≤ 3) (h1 : g1 ≤ 3) (h : ∀ x ∈ i, x.2.length ≤ 11) (hc : i.length ≤ 14) : (ren (segG g0 g1 i)).length ≤ 378 := by
  have := flat_le Sg.all 27 (segG g0 g1 i) fun s hs => by
    obtain ⟨g, x, hx, rfl, hg⟩ := seg_mem3 hs
    rw [sgOf_all, List.length_append, List.length_replicate]
    have := itW_le x
    have := h x hx
    omega
  rw [segG_len] at this
  unfold ren
  omega
theorem LayS.len : ∀ {zs : List Str} {ls : List (List It)}, LayS zs ls → ∀ z ∈ zs, z.length ≤ 400
  | _, _, .nil, z, h => by cases h
  | _, _, .blank _ hz h, z, hm => by
    rcases List.mem_cons.mp hm with rfl | hm
    · omega
    · exact h.len z hm
  | _, _, .line _ hb hz hf h, z, hm => by
    rcases List.mem_cons.mp hm with rfl | hm
    · rw [sl_len, hz, List.length_append, List.length_replicate]
      have := ren_le hb.1 hb.2.1 hf.short hf.cnt
      omega
    · exact h.len z hm
theorem LayS.app {zs : List Str} {ls : List (List It)} (h : LayS zs ls) : ∀ {ys : List Str} {ms : List (List It)}, LayS ys ms → LayS (zs ++ ys) (ls ++ ms) := by
  intro ys ms h2
  induction h with
  | nil => exact h2
  | blank a b _ ih => exact .blank a b ih
  | line a b c e _ ih => exact .line a b c e ih
/-- no line breaks in such lines -/
theorem LayS.nonl : ∀ {zs : List Str} {ls : List (List It)}, LayS zs ls → ∀ z ∈ zs, 10 ∉ sl z
  | _, _, .nil, z, h => by cases h
  | _, _, .blank hb _ h, z, hm => by
    rcases List.mem_cons.mp hm with rfl | hm
    · intro q
      have := hb 10 q
      omega
    · exact h.nonl z hm
  | _, _, .line _ _ hz hf h, z, hm => by
    rcases List.mem_cons.mp hm with rfl | hm
    · intro q
      rw [hz] at q
      rcases List.mem_append.mp q with q | q
      · exact absurd (ren_good hf.sign 10 q) (by decide)
      · exact absurd (List.mem_replicate.mp q).2 (by decide)
    · exact h.nonl z hm
/-! ### the lines of a table are fine -/
theorem every_sign : ∀ c ∈ everyL, signB c = true := by decide
theorem word_fine {w : List Nat} (h : w.all (fun c => signB c && (decide (c ≠ 32) && decide (c ≠ 34))) = true) (hn : w ≠ []) : w ≠ [] ∧ ∀ c ∈ w, c ≠ 32 ∧ c ≠ 34 := by
  refine ⟨hn, fun c hc => ?_⟩
  have := List.all_eq_true.mp h c hc
  simp only [Bool.and_eq_true, decide_eq_true_eq] at this
  exact this.2
/-- a piece that a table's line may have -/
structure FineI (x : It) : Prop where
  plain : x.1 = false → x.2 ≠ [] ∧ ∀ c ∈ x.2, c ≠ 32 ∧ c ≠ 34
  sign : ∀ c ∈ x.2, signB c = true
  short : x.2.length ≤ 11
def wordB (w : List Nat) : Bool := decide (w ≠ []) && (decide (w.length ≤ 11) && w.all fun c => signB c && (decide (c ≠ 32) && decide (c ≠ 34)))
theorem FineI.word {w : List Nat} (h : wordB w = true) : FineI (false, w) := by
  unfold wordB at h
  simp only [Bool.and_eq_true, decide_eq_true_eq, List.all_eq_true] at h
  exact ⟨fun _ => ⟨h.1, fun c hc => (h.2.2 c hc).2⟩, fun c hc => (h.2.2 c hc).1, h.2.1⟩
theorem FineI.dg {m : Int} (h : 0 ≤ m ∧ m ≤ 9) : FineI (false, sl (dgS m)) := by
  have : m = 0 ∨ m = 1 ∨ m = 2 ∨ m = 3 ∨ m = 4 ∨ m = 5 ∨ m = 6 ∨ m = 7 ∨ m = 8 ∨ m = 9 := by omega
  rcases this with rfl | rfl | rfl | rfl | rfl | rfl | rfl | rfl | rfl | rfl <;> exact FineI.word (by decide +kernel)
theorem FineI.cell {c : Int} (h : 0 ≤ c ∧ c ≤ 63) : FineI (false, sl (cellS c)) := by
  have q : ∀ n : Fin 64, wordB (sl (cellS (n.val : Int))) = true := by decide +kernel
  have := q ⟨c.toNat, by omega⟩
  have e : ((c.toNat : Nat) : Int) = c := by omega
  rw [show ((⟨c.toNat, by omega⟩ : Fin 64).val : Int) = c from e] at this
  exact FineI.word this
theorem FineI.quo {w : List Nat} (h : ∀ c ∈ w, signB c = true) (l : w.length ≤ 11) : FineI (true, w) := ⟨fun e => (by cases e), h, l⟩
theorem FineL.of {i : List It} (hn : i ≠ []) (hc : i.length ≤ 14) (h : ∀ x ∈ i, FineI x) : FineL i := ⟨hn, fun x hx => (h x hx).plain, fun x hx => (h x hx).sign, fun x hx => (h x hx).short, hc⟩
theorem GoodT.sgn {d : TD} (g : GoodT d) : (∀ c ∈ sl d.signs, signB c = true) ∧ (sl d.signs).length ≤ 10 := by
  have h := nodup_len g.nd g.all
  have e : everyL.length = 10 := rfl
  exact ⟨fun c hc => every_sign c (g.all c hc), by omega⟩
theorem fine_near {d : TD} (g : GoodT d) {o : Option Str} {e : Nat} (he : signB e = true) (h : GoodN o d.signs e) {wd : Str} (hw : wordB (sl wd) = true) : ∀ x ∈ itN wd o, FineI x := fun x hx => by
  cases o with
  | none => cases hx
  | some y =>
    obtain ⟨h1, h2, h3, _⟩ := h y rfl
    obtain ⟨gs, gl⟩ := g.sgn
    rcases List.mem_cons.mp hx with rfl | hx
    · exact FineI.word hw
    · rw [List.mem_singleton.mp hx]
      refine FineI.quo (fun c hc => ?_) ?_
      · rcases h3 c hc with q | q
        · exact gs c q
        · rw [q]; exact he
      · have := nodup_len (m := e :: sl d.signs) h2 (fun c hc => by
          rcases h3 c hc with q | q
          · exact List.mem_cons_of_mem _ q
          · rw [q]; exact List.mem_cons_self)
        rw [List.length_cons] at this
        omega
theorem itN_len (wd : Str) (o : Option Str) : (itN wd o).length ≤ 2 := by cases o <;> simp [itN]
theorem fine_rule {d : TD} (g : GoodT d) {r : RD} (h : GoodR r d.signs d.modes) : FineL (itR r) := by
  obtain ⟨g1, g2, ⟨g3, g4, g5⟩, g6, g7, g8⟩ := h
  have gm := g.modes
  obtain ⟨gs, gl⟩ := g.sgn
  refine FineL.of (by unfold itR; exact List.cons_ne_nil _ _) ?_ fun x hx => ?_
  · unfold itR itC
    have a := itN_len "ahead" r.ahead
    have b := itN_len "behind" r.behind
    simp only [List.length_cons, List.length_append, List.length_map]
    omega
  · unfold itR itC at hx
    simp only [List.mem_cons, List.mem_append, List.mem_map] at hx
    rcases hx with rfl | rfl | rfl | rfl | ⟨c, hc, rfl⟩ | rfl | rfl | hx | hx
    · exact FineI.word (by decide +kernel)
    · exact FineI.dg ⟨g1.1, by omega⟩
    · obtain ⟨t1, t2, t3⟩ := g2
      exact FineI.quo (fun c hc => gs c (t3 c hc)) (by rw [sl_len] at t2; show (sl r.text).length ≤ 11; omega)
    · exact FineI.word (by decide +kernel)
    · exact FineI.cell (g5 c hc)
    · exact FineI.word (by decide +kernel)
    · exact FineI.dg ⟨g6.1, by omega⟩
    · exact fine_near g (by decide) g7 (by decide +kernel) x hx
    · exact fine_near g (by decide) g8 (by decide +kernel) x hx
theorem fine_signs {d : TD} (g : GoodT d) : FineL (itS d.signs) := by
  obtain ⟨gs, gl⟩ := g.sgn
  refine FineL.of (List.cons_ne_nil _ _) (by show 2 ≤ 14; decide) fun x hx => ?_
  rcases List.mem_cons.mp hx with rfl | hx
  · exact FineI.word (by decide +kernel)
  · rw [List.mem_singleton.mp hx]
    exact FineI.quo gs (by omega)
theorem fine_modes {d : TD} (g : GoodT d) : FineL (itM d.modes) := by
  have gm := g.modes
  refine FineL.of (List.cons_ne_nil _ _) (by show 2 ≤ 14; decide) fun x hx => ?_
  rcases List.mem_cons.mp hx with rfl | hx
  · exact FineI.word (by decide +kernel)
  · rw [List.mem_singleton.mp hx]
    exact FineI.dg (by omega)
/-- what the law's lines are: each with its pieces -/
def LP (l : Str) (i : List It) : Prop := sl l = ren (segG 0 1 i) ∧ FineL i ∧ 2 ≤ i.length ∧ ∃ wd r, i = (false, wd) :: r
inductive LPs : List Str → List (List It) → Prop where
  | nil : LPs [] []
  | cons {l : Str} {i : List It} {ls : List Str} {is : List (List It)} : LP l i → LPs ls is → LPs (l :: ls) (i :: is)
theorem lines_lp {d : TD} (g : GoodT d) : LPs (tableLs d) (itT d) := by
  unfold tableLs itT
  refine .cons ⟨line_signs d.signs, fine_signs g, by show 2 ≤ 2; decide, _, _, rfl⟩ (.cons ⟨line_modes d.modes, fine_modes g, by show 2 ≤ 2; decide, _, _, rfl⟩ ?_)
  have go : ∀ rs : List RD, (∀ r ∈ rs, GoodR r d.signs d.modes) → LPs (rs.map ruleS) (rs.map itR) := by
    intro rs
    induction rs with
    | nil => intro _; exact .nil
    | cons r rs ih => intro h; exact .cons ⟨line_rule r, fine_rule g (h r List.mem_cons_self), by unfold itR; simp, _, _, rfl⟩ (ih fun y hy => h y (List.mem_cons_of_mem _ hy))
  exact go d.rules g.rules
theorem lp_lay : ∀ {ls : List Str} {is : List (List It)}, LPs ls is → LayS ls is
  | _, _, .nil => .nil
  | _, _, .cons h t => .line (g0 := 0) (g1 := 1) (t := 0) (Nat.le_refl _) ⟨by decide, by decide, by decide⟩ (by rw [List.replicate_zero, List.append_nil]; exact h.1) h.2.1 (lp_lay t)
end Sx

set_option Elab.async false
set_option linter.all false
set_option maxRecDepth 100000
set_option maxHeartbeats 1000000
namespace Sx
open PySem PySem.Spec PyProof.Rows L2 SxA SxK
theorem join_snoc (y x : Str) : ∀ ls : List Str, ls ≠ [] → Txt.join y (ls ++ [x]) = Txt.join y ls ++ y ++ x := by
  intro ls
  rw [TL.join_eq, TL.join_eq]
  induction ls with
  | nil => intro h; exact absurd rfl h
  | cons c r ih =>
    intro _
    cases r with
    | nil => rfl
    | cons d r =>
      have e1 : Str.join y ((c :: d :: r) ++ [x]) = c ++ y ++ Str.join y ((d :: r) ++ [x]) := rfl
      have e2 : Str.join y (c :: d :: r) = c ++ y ++ Str.join y (d :: r) := rfl
      rw [e1, e2, ih (List.cons_ne_nil _ _)]
      simp only [Str.append_assoc]
theorem split_nl {ps : List Str} (hne : ps ≠ []) (h : ∀ p ∈ ps, 10 ∉ sl p) : Txt.split (Txt.join nlS ps) nlS = ps :=
  TL.split_join (s := 10) (S := []) (by decide +kernel) (by decide +kernel) hne h
theorem cutL_snoc (ls : List Str) : cutL (ls ++ [("" : Str)]) = ls := by
  unfold cutL
  rw [List.getLast?_concat, if_pos rfl, List.dropLast_concat]
theorem cutL_last {ls : List Str} (h : ∀ z, ls.getLast? = some z → z ≠ "") : cutL ls = ls := by
  unfold cutL
  cases e : ls.getLast? with
  | none => rfl
  | some z =>
    have := h z e
    rw [if_neg (fun q => this (Option.some.inj q))]
theorem sl_empty : sl ("" : Str) = [] := by decide +kernel
theorem lines_join {ps : List Str} (hne : ps ≠ []) (h : ∀ p ∈ ps, 10 ∉ sl p) (hl : ∀ z, ps.getLast? = some z → z ≠ "") : linesL (Txt.join nlS ps) = ps := by
  unfold linesL
  rw [split_nl hne h, cutL_last hl]
theorem lines_join1 {ps : List Str} (h : ∀ p ∈ ps, 10 ∉ sl p) : linesL (Txt.join nlS (ps ++ [("" : Str)])) = ps := by
  unfold linesL
  rw [split_nl (by simp) (fun p hp => by
    rcases List.mem_append.mp hp with q | q
    · exact h p q
    · rw [List.mem_singleton.mp q, sl_empty]; exact List.not_mem_nil), cutL_snoc]
theorem app_empty (x : Str) : x ++ ("" : Str) = x := sl_ext (by rw [sl_app, sl_empty, List.append_nil])
theorem endS_join : ∀ ls : List Str, endS ls = Txt.join nlS (ls ++ [("" : Str)]) := by
  intro ls
  unfold endS
  rw [TL.join_eq, TL.join_eq]
  induction ls with
  | nil => rfl
  | cons c r ih =>
    cases r with
    | nil =>
      show c ++ Str.ofString "\n" = c ++ nlS ++ ("" : Str)
      rw [app_empty]
      rfl
    | cons d r =>
      have e1 : Str.join (Str.ofString "") ((c :: d :: r).map fun l => l ++ Str.ofString "\n") = c ++ Str.ofString "\n" ++ Str.ofString "" ++ Str.join (Str.ofString "") ((d :: r).map fun l => l ++ Str.ofString "\n") := rfl
      have e2 : Str.join nlS ((c :: d :: r) ++ [("" : Str)]) = c ++ nlS ++ Str.join nlS ((d :: r) ++ [("" : Str)]) := rfl
      rw [e1, e2, ih]
      have e3 : c ++ Str.ofString "\n" ++ Str.ofString "" = c ++ nlS := app_empty _
      rw [e3]
theorem lines_endS {ps : List Str} (h : ∀ p ∈ ps, 10 ∉ sl p) : linesL (endS ps) = ps := by rw [endS_join, lines_join1 h]
theorem join_len (y : Str) (B : Nat) : ∀ ls : List Str, (∀ z ∈ ls, z.length ≤ B) → (Txt.join y ls).length ≤ ls.length * (B + y.length) := by
  intro ls
  rw [TL.join_eq]
  induction ls with
  | nil => intro _; exact Nat.zero_le _
  | cons c r ih =>
    intro h
    have hc := h c List.mem_cons_self
    have i := ih fun z hz => h z (List.mem_cons_of_mem _ hz)
    cases r with
    | nil =>
      show c.length ≤ 1 * (B + y.length)
      omega
    | cons d r =>
      have e2 : Str.join y (c :: d :: r) = c ++ y ++ Str.join y (d :: r) := rfl
      rw [e2, sl_len, sl_app, sl_app, List.length_append, List.length_append, ← sl_len, ← sl_len, ← sl_len, List.length_cons, Nat.succ_mul]
      omega
end Sx

set_option Elab.async false
set_option linter.all false
set_option maxRecDepth 100000
set_option maxHeartbeats 4000000
namespace SxK
open PySem PySem.Spec PyProof.Rows L2
/-! ### try with two clauses, both with the same name -/
def wTwo (K : PySem.W.Frag) (c c2 : Value) (i : Nat) (ts ts2 : Addr → Value → Option Addr → TS) (D : Ends) : WX := fun cls d σ H =>
  (PySem.W.exmOne K cls c = some true ∧ ∀ a, H a = none → ts a cls d (dropAt i D) (σ.set i (some (.ref a))) H) ∨ (PySem.W.exmOne K cls c = some false ∧ PySem.W.exmOne K cls c2 = some true ∧ ∀ a, H a = none → ts2 a cls d (dropAt i D) (σ.set i (some (.ref a))) H)
section
variable {X : Cx} {x x2 n : Str} {c c2 : Value} {i : Nat} {body suite suite2 : List Stmt} {b₀ b₂ : Stmt} {np np2 pos pos' pos2 : Pos} {more : List ExceptHandler} {tb : WX → TS} {ts ts2 : Addr → Value → Option Addr → TS}
theorem ps_try_two (st : X.stack = X.env :: X.outer) (fr : X.env.frame = some X.env.locals) (nd : X.N.Nodup) (ni : X.N[i]? = some n) (nl : X.env.kindOf n = some .local) (nc : Names X x c) (nc2 : Names X x2 c2)
    (tryB : ∀ (W : WX) (pn : List (Addr × Obj)) (xe : Value → Shared → Prop), Takes (X.tr pn xe) W → PassesOwn (model X.prog X.w) X.A X.env xe → PSs (X.tr pn xe) body (tb W))
    (suiteB : ∀ (a : Addr) (oe : Obj) (cls : Value) (d : Option Addr) (pn : List (Addr × Obj)), Zc cls d oe → (∃ vs, oe.data = .fields vs) → PSs (X.suite a ((a, oe) :: pn)) (b₀ :: suite) (ts a cls d))
    (suiteB2 : ∀ (a : Addr) (oe : Obj) (cls : Value) (d : Option Addr) (pn : List (Addr × Obj)), Zc cls d oe → (∃ vs, oe.data = .fields vs) → PSs (X.suite a ((a, oe) :: pn)) (b₂ :: suite2) (ts2 a cls d)) :
    PS X (.Try body (.ExceptHandler (some (.Name x np)) (some n) (b₀ :: suite) pos' :: .ExceptHandler (some (.Name x2 np2)) (some n) (b₂ :: suite2) pos2 :: more) [] [] pos) (fun D σ H => tb (wTwo X.K c c2 i ts ts2 D) D σ H) := by
  refine ⟨fun pins s σ H D I h => ?_⟩
  have okX := I.ok
  have afr : X.A.frames = some (X.env :: X.outer) := by rw [okX.frames, st]
  refine wpAny_Try_except (wpAny_mono ((tryB (wTwo X.K c c2 i ts ts2 D) (X.pn ++ pins) _ (fun u s2 y => ?_) PassesOwn.looking).run [] s σ H D (I.toTry _) h) (fun f s1 q => ?_) (fun e s1 q => q))
  · obtain ⟨a, B, sJ, pins2, τ, G, cls, d, rfl, J0, inB, upS, air, free, osJ, gnJ, wish⟩ := y
    have J : Inv X pins τ G sJ := J0.ofTry okX
    have air2 : Sky B (X.env :: X.outer) a (Zc cls d) X.env.locals s2.heap := by rw [← st]; exact air
    show wpAny (model X.prog X.w) X.A (noteFrame (.ref a) X.env) _ _ _
    refine Sky.land Zc.steady afr fr air2 fun hL flL upL => ?_
    have JL : Inv X pins τ G { s2 with heap := hL } := J.landed inB flL.1 (upS.trans upL) osJ gnJ
    obtain ⟨oL, vL, eL, zL, dL⟩ := flL.there
    have off : a ∉ frs (X.env :: X.outer) := fun hm => by
      obtain ⟨_, o', e', hnf⟩ := flL.2.2.1.mem hm
      rw [eL] at e'
      cases e'
      exact hnf _ dL
    have aL : a ≠ X.env.locals := fun z => off (List.mem_filterMap.mpr ⟨X.env, List.mem_cons_self, by rw [fr, z]⟩)
    have aF : a ∉ X.fs := fun hm => by
      obtain ⟨e, he, q⟩ := List.mem_filterMap.mp hm
      exact off (List.mem_filterMap.mpr ⟨e, List.mem_cons_of_mem _ he, q⟩)
    have SL := JL.suite eL dL free aL aF
    have tyL : PySem.W.Looks (model X.prog X.w) hL (typeOf (.ref a)) cls := fun A Q E s k q => wpAny_typeOf_ref (k _ _ eL) (by rw [zL.1]; exact q)
    have named : ∀ {x : Str} {c : Value} {np : Pos}, Names X x c → ∀ {Q : Value → Shared → Prop} {E : Value → Shared → Prop}, Q c { s2 with heap := hL } → wpAny (model X.prog X.w) (X.A.mark (some (.ref a))) (eval (.Name x np) X.env) Q E { s2 with heap := hL } := fun {x c np} nc {Q E} q => by
      rcases nc with ⟨g1, g2, m1 | ⟨m1, m2, m3⟩⟩
      · exact ld_glob (X := X.suite a ((a, oL) :: (X.pn ++ pins))) SL g1 m1 q g2
      · exact ld_blt (X := X.suite a ((a, oL) :: (X.pn ++ pins))) SL g1 m1 m2 q m3 g2
    rcases wish with ⟨mt, wish⟩ | ⟨mf, mt, wish⟩
    · refine wpAny_handleBy_cons (codeAny_handlers_test ?_) (fun q => by cases q)
      have mtL := PySem.W.exm_one (M := model X.prog X.w) JL.kIn tyL mt
      refine named nc (mtL.here (codeAny_handlers_suite_as (HandSPX.lands_againZ flL fun hR flR upR => ?_)))
      have JR : Inv X pins τ G { s2 with heap := hR } := J.landed inB flR.1 ((upS.trans upL).trans upR) osJ gnJ
      obtain ⟨oR, vR, eR, zR, dR⟩ := flR.there
      refine store_ok (X := X.suite a ((a, oR) :: (X.pn ++ pins))) (v := .ref a) (JR.suite eR dR free aL aF) nd ni (.inl nl) rfl (fun s5 S5 => ?_) (.inr nl)
      refine wpAny_mono ((suiteB a oR cls d (X.pn ++ pins) zR ⟨_, dR⟩).run [] s5 _ G _ S5 (wish a free)) (fun f s6 q => ?_) (fun _ _ z => z.elim)
      have goes : ∀ {ρ : L2.St} {F : Hp} {Q : Shared → Prop}, Inv (X.suite a ((a, oR) :: (X.pn ++ pins))) [] ρ F s6 → (∀ s7, Inv X pins (ρ.set i none) F s7 → Q s7) →
          wpAny (model X.prog X.w) X.A (do bindName X.env n .none; unbindBehindTheSuite X.env n pos') (fun _ s7 => Q s7) X.xe s6 := fun {ρ F Q} Sx hq => gone_ok (Sx.unsuite okX) nd ni nl hq
      cases f with
      | ret u =>
        obtain ⟨v, ρ, F, Sx, rv, q⟩ := q
        exact goes Sx fun s7 J7 => ⟨_, _, _, J7, rv, q⟩
      | next =>
        obtain ⟨ρ, F, Sx, q⟩ := q
        exact goes Sx fun s7 J7 => ⟨_, _, J7, q⟩
      | brk =>
        obtain ⟨ρ, F, Sx, q⟩ := q
        exact goes Sx fun s7 J7 => ⟨_, _, J7, q⟩
      | cont =>
        obtain ⟨ρ, F, Sx, q⟩ := q
        exact goes Sx fun s7 J7 => ⟨_, _, J7, q⟩
    · refine wpAny_handleBy_cons (codeAny_handlers_test ?_) (fun q => by cases q)
      have mfL := PySem.W.exm_one (M := model X.prog X.w) JL.kIn tyL mf
      refine named nc (mfL.here ?_)
      show wpAny _ X.A (handleBy (.ref a) X.env (.ExceptHandler (some (.Name x2 np2)) (some n) (b₂ :: suite2) pos2 :: more)) _ _ _
      refine wpAny_handleBy_cons (codeAny_handlers_test ?_) (fun q => by cases q)
      have mtL := PySem.W.exm_one (M := model X.prog X.w) JL.kIn tyL mt
      refine named nc2 (mtL.here (codeAny_handlers_suite_as (HandSPX.lands_againZ flL fun hR flR upR => ?_)))
      have JR : Inv X pins τ G { s2 with heap := hR } := J.landed inB flR.1 ((upS.trans upL).trans upR) osJ gnJ
      obtain ⟨oR, vR, eR, zR, dR⟩ := flR.there
      refine store_ok (X := X.suite a ((a, oR) :: (X.pn ++ pins))) (v := .ref a) (JR.suite eR dR free aL aF) nd ni (.inl nl) rfl (fun s5 S5 => ?_) (.inr nl)
      refine wpAny_mono ((suiteB2 a oR cls d (X.pn ++ pins) zR ⟨_, dR⟩).run [] s5 _ G _ S5 (wish a free)) (fun f s6 q => ?_) (fun _ _ z => z.elim)
      have goes : ∀ {ρ : L2.St} {F : Hp} {Q : Shared → Prop}, Inv (X.suite a ((a, oR) :: (X.pn ++ pins))) [] ρ F s6 → (∀ s7, Inv X pins (ρ.set i none) F s7 → Q s7) →
          wpAny (model X.prog X.w) X.A (do bindName X.env n .none; unbindBehindTheSuite X.env n pos2) (fun _ s7 => Q s7) X.xe s6 := fun {ρ F Q} Sx hq => gone_ok (Sx.unsuite okX) nd ni nl hq
      cases f with
      | ret u =>
        obtain ⟨v, ρ, F, Sx, rv, q⟩ := q
        exact goes Sx fun s7 J7 => ⟨_, _, _, J7, rv, q⟩
      | next =>
        obtain ⟨ρ, F, Sx, q⟩ := q
        exact goes Sx fun s7 J7 => ⟨_, _, J7, q⟩
      | brk =>
        obtain ⟨ρ, F, Sx, q⟩ := q
        exact goes Sx fun s7 J7 => ⟨_, _, J7, q⟩
      | cont =>
        obtain ⟨ρ, F, Sx, q⟩ := q
        exact goes Sx fun s7 J7 => ⟨_, _, J7, q⟩
  · cases f with
    | ret u =>
      obtain ⟨v, τ, G, J, rv, q⟩ := q
      exact ⟨v, τ, G, J.ofTry okX, rv, q⟩
    | next =>
      obtain ⟨τ, G, J, q⟩ := q
      exact wpAny_execs_nil ⟨τ, G, J.ofTry okX, q⟩
    | brk =>
      obtain ⟨τ, G, J, q⟩ := q
      exact ⟨τ, G, J.ofTry okX, q⟩
    | cont =>
      obtain ⟨τ, G, J, q⟩ := q
      exact ⟨τ, G, J.ofTry okX, q⟩
end
end SxK

set_option Elab.async false
set_option linter.all false
set_option maxRecDepth 100000
set_option maxHeartbeats 1000000
namespace Sx
open PySem PySem.Spec PyProof.Rows L2 SxA SxK
open Builtin Builtin.Str in
/-! ### where the spaces are -/
def idxF : List Nat → Nat → List Nat
  | [], _ => []
  | c :: r, k => if c = 32 then k :: idxF r (k + 1) else idxF r (k + 1)
abbrev spS : Str := Str.ofString " "
theorem sl_spS : sl spS = [32] := by decide +kernel
theorem sub_sp (z : Str) (i : Nat) : Builtin.Str.subAt z spS i = true ↔ (sl z)[i]? = some 32 := by
  rw [StrLaws.subAt_eq]
  show ((((sl z).drop i).take 1 == [32]) = true) ↔ _
  rw [beq_iff_eq]
  constructor
  · intro h
    have e : (((sl z).drop i).take 1)[0]? = some 32 := by rw [h]; rfl
    rw [List.getElem?_take, List.getElem?_drop] at e
    simpa using e
  · intro h
    obtain ⟨hi, e⟩ := List.getElem?_eq_some_iff.mp h
    rw [List.drop_eq_getElem_cons hi, e]
    rfl
theorem occ_go (z : Str) (limit : Nat) : ∀ (rest : List Nat) (k : Nat) (arr : Array Nat) (free : Nat), (sl z).drop k = rest → k ≤ (sl z).length → free ≤ k →
    (forIn (List.range' k (rest.length + 1)) (arr, free) (StrLaws.occBody z spS z.length limit)).run.fst.toList = arr.toList ++ (idxF rest k).take (limit - arr.size)
  | [], k, arr, free, hd, hk, hf => by
    have e : k = (sl z).length := by
      have := List.drop_eq_nil_iff.mp hd
      omega
    show (forIn [k] (arr, free) (StrLaws.occBody z spS z.length limit)).run.fst.toList = _
    rw [List.forIn_cons]
    unfold StrLaws.occBody
    have n1 : ¬ (((arr.size < limit ∧ free ≤ k) ∧ k + spS.length ≤ z.length) ∧ Builtin.Str.subAt z spS k = true) := fun q => by
      have := q.1.2
      have e1 : spS.length = 1 := by decide +kernel
      have zl := sl_len z
      omega
    rw [if_neg n1]
    simp [idxF]
  | c :: r, k, arr, free, hd, hk, hf => by
    obtain ⟨h1, h2⟩ := at_drop hd
    have kl := (List.getElem?_eq_some_iff.mp h1).1
    have e1 : spS.length = 1 := by decide +kernel
    rw [show List.range' k ((c :: r).length + 1) = k :: List.range' (k + 1) (r.length + 1) from rfl, List.forIn_cons]
    have ih := fun arr free hf => occ_go z limit r (k + 1) arr free h2 kl hf
    unfold idxF
    have zl := sl_len z
    by_cases hc : c = 32
    · rw [if_pos hc]
      have sb : Builtin.Str.subAt z spS k = true := (sub_sp z k).mpr (by rw [h1, hc])
      by_cases hl : arr.size < limit
      · have y : (((arr.size < limit ∧ free ≤ k) ∧ k + spS.length ≤ z.length) ∧ Builtin.Str.subAt z spS k = true) := ⟨⟨⟨hl, hf⟩, by omega⟩, sb⟩
        have q := ih (arr.push k) (k + 1) (Nat.le_refl _)
        have e2 : limit - arr.size = (limit - (arr.push k).size) + 1 := by rw [Array.size_push]; omega
        rw [e2, List.take_succ_cons]
        unfold StrLaws.occBody at q ⊢
        rw [if_pos y]
        simp only [e1] at q ⊢
        refine q.trans ?_
        simp
      · have n : ¬ (((arr.size < limit ∧ free ≤ k) ∧ k + spS.length ≤ z.length) ∧ Builtin.Str.subAt z spS k = true) := fun q => hl q.1.1.1
        have q := ih arr free (by omega)
        have e2 : limit - arr.size = 0 := by omega
        rw [e2] at q ⊢
        unfold StrLaws.occBody at q ⊢
        rw [if_neg n]
        refine q.trans ?_
        simp
    · rw [if_neg hc]
      have n : ¬ (((arr.size < limit ∧ free ≤ k) ∧ k + spS.length ≤ z.length) ∧ Builtin.Str.subAt z spS k = true) := fun q => by
        have := (sub_sp z k).mp q.2
        rw [h1] at this
        exact hc (Option.some.inj this)
      have q := ih arr free (by omega)
      unfold StrLaws.occBody at q ⊢
      rw [if_neg n]
      exact q
theorem occ_all (z : Str) (limit : Nat) : Builtin.Str.occurrences z spS 0 z.length limit = (idxF (sl z) 0).take limit := by
  rw [StrLaws.occ_eq]
  have := occ_go z limit (sl z) 0 #[] 0 rfl (Nat.zero_le _) (Nat.le_refl _)
  rw [show (List.range' 0 (z.length + 1 - 0)) = List.range' 0 ((sl z).length + 1) by rw [sl_len]; rfl, this]
  rfl
theorem idx_split : ∀ (w r : List Nat) (k : Nat), 32 ∉ w → idxF (w ++ 32 :: r) k = (k + w.length) :: idxF r (k + w.length + 1)
  | [], r, k, _ => rfl
  | c :: w, r, k, h => by
    have hc : c ≠ 32 := fun e => h (by rw [e]; exact List.mem_cons_self)
    show (if c = 32 then _ else idxF (w ++ 32 :: r) (k + 1)) = _
    rw [if_neg hc, idx_split w r (k + 1) (fun q => h (List.mem_cons_of_mem _ q)), List.length_cons]
    have e1 : k + 1 + w.length = k + (w.length + 1) := by omega
    rw [e1]
theorem idx_none : ∀ (w : List Nat) (k : Nat), 32 ∉ w → idxF w k = []
  | [], _, _ => rfl
  | c :: w, k, h => by
    have hc : c ≠ 32 := fun e => h (by rw [e]; exact List.mem_cons_self)
    show (if c = 32 then _ else idxF w (k + 1)) = _
    rw [if_neg hc]
    exact idx_none w (k + 1) fun q => h (List.mem_cons_of_mem _ q)
/-- the signs ahead of the first space, and those behind it -/
def wordF (l : List Nat) : List Nat := l.takeWhile fun c => decide (c ≠ 32)
def restF (l : List Nat) : Option (List Nat) := match l.dropWhile fun c => decide (c ≠ 32) with
  | [] => none
  | _ :: r => some r
theorem word_no : ∀ l : List Nat, 32 ∉ wordF l
  | [], h => by cases h
  | c :: r, h => by
    unfold wordF at h
    by_cases hc : c = 32
    · rw [List.takeWhile_cons_of_neg (by simp [hc])] at h
      cases h
    · rw [List.takeWhile_cons_of_pos (by simp [hc])] at h
      rcases List.mem_cons.mp h with e | h
      · exact hc e.symm
      · exact word_no r h
theorem rest_some {l r : List Nat} (h : restF l = some r) : l = wordF l ++ 32 :: r := by
  unfold restF at h
  have e := (List.takeWhile_append_dropWhile (p := fun c => decide (c ≠ 32)) (l := l)).symm
  cases q : l.dropWhile fun c => decide (c ≠ 32) with
  | nil => rw [q] at h; cases h
  | cons a b =>
    rw [q] at h e
    cases h
    have := List.head?_dropWhile_not (fun c => decide (c ≠ 32)) l
    rw [q] at this
    simp at this
    rw [this] at e
    exact e
theorem rest_none {l : List Nat} (h : restF l = none) : l = wordF l := by
  unfold restF at h
  have e := (List.takeWhile_append_dropWhile (p := fun c => decide (c ≠ 32)) (l := l)).symm
  cases q : l.dropWhile fun c => decide (c ≠ 32) with
  | nil => rw [q, List.append_nil] at e; exact e
  | cons a b => rw [q] at h; cases h
theorem sl_sub (z : Str) (i j : Nat) : sl (Builtin.Str.strSub z i j) = ((sl z).drop i).take (j - i) := StrLaws.strSub_toList z i j
theorem part_word (z : Str) : sl (Txt.partition z spS).1 = wordF (sl z) := by
  unfold Txt.partition
  rw [occ_all]
  cases h : restF (sl z) with
  | none =>
    have e := rest_none h
    have n : 32 ∉ sl z := by rw [e]; exact word_no _
    rw [idx_none _ _ n]
    exact e
  | some r =>
    have e := rest_some h
    have q : idxF (sl z) 0 = (0 + (wordF (sl z)).length) :: idxF r (0 + (wordF (sl z)).length + 1) := by
      conv => lhs; rw [e]
      exact idx_split _ _ _ (word_no _)
    rw [q]
    show sl (Builtin.Str.strSub z 0 (0 + (wordF (sl z)).length)) = _
    rw [sl_sub, List.drop_zero, Nat.zero_add, Nat.sub_zero]
    generalize wordF (sl z) = w at e
    rw [e, List.take_left]
theorem kind1 (z : Str) : (decide (Builtin.Str.strKind z < Builtin.Str.strKind spS)) = false := by
  have e : Builtin.Str.strKind spS = 1 := by decide +kernel
  rw [e]
  refine decide_eq_false ?_
  unfold Builtin.Str.strKind
  split
  · omega
  · split <;> omega
theorem split_none {z : Str} {k : Int} (h : restF (sl z) = none) : Txt.splitMax z spS k = [z] := by
  have e := rest_none h
  have n : 32 ∉ sl z := by rw [e]; exact word_no _
  unfold Txt.splitMax
  split
  · rfl
  · rw [occ_all, idx_none _ _ n, List.take_nil]
    rfl
theorem split_one {z : Str} {r : List Nat} (h : restF (sl z) = some r) : (Txt.splitMax z spS 1).map sl = [wordF (sl z), r] := by
  have e := rest_some h
  have q : idxF (sl z) 0 = (0 + (wordF (sl z)).length) :: idxF r (0 + (wordF (sl z)).length + 1) := by
    conv => lhs; rw [e]
    exact idx_split _ _ _ (word_no _)
  have e1 : spS.length = 1 := by decide +kernel
  have hl : (sl z).length = (wordF (sl z)).length + 1 + r.length := by
    have := congrArg List.length e
    rw [List.length_append, List.length_cons] at this
    omega
  have zl := sl_len z
  unfold Txt.splitMax
  rw [if_neg (by rw [kind1, Bool.or_false]; simp; omega), occ_all, q]
  show (if (List.take 1 _).isEmpty = true then _ else _ : List Str).map sl = _
  rw [if_neg (by simp)]
  show (Builtin.Str.partsBetween z [0 + (wordF (sl z)).length] spS.length).map sl = _
  show [sl (Builtin.Str.strSub z 0 (0 + (wordF (sl z)).length)), sl (Builtin.Str.strSub z (0 + (wordF (sl z)).length + spS.length) z.length)] = _
  rw [sl_sub, sl_sub, e1, Nat.zero_add, List.drop_zero, Nat.sub_zero, sl_len]
  generalize wordF (sl z) = w at e hl
  generalize sl z = l at e hl
  subst e
  rw [List.take_left, hl, show w.length + 1 = w.length + [32].length from rfl, show w ++ 32 :: r = (w ++ [32]) ++ r by simp, show w.length + [32].length = (w ++ [32]).length by simp, List.drop_left]
  congr 2
  rw [Nat.add_sub_cancel_left, List.take_length]
theorem split_two {z : Str} {r t : List Nat} (h : restF (sl z) = some r) (h2 : restF r = some t) : (Txt.splitMax z spS 2).map sl = [wordF (sl z), wordF r, t] := by
  have e := rest_some h
  have e' := rest_some h2
  have q : idxF (sl z) 0 = (0 + (wordF (sl z)).length) :: idxF r (0 + (wordF (sl z)).length + 1) := by
    conv => lhs; rw [e]
    exact idx_split _ _ _ (word_no _)
  have q' : idxF r (0 + (wordF (sl z)).length + 1) = (0 + (wordF (sl z)).length + 1 + (wordF r).length) :: idxF t (0 + (wordF (sl z)).length + 1 + (wordF r).length + 1) := by
    conv => lhs; rw [e']
    exact idx_split _ _ _ (word_no _)
  have e1 : spS.length = 1 := by decide +kernel
  have hl : (sl z).length = (wordF (sl z)).length + 1 + ((wordF r).length + 1 + t.length) := by
    have := congrArg List.length e
    have b := congrArg List.length e'
    rw [List.length_append, List.length_cons] at this b
    omega
  have zl := sl_len z
  unfold Txt.splitMax
  rw [if_neg (by rw [kind1, Bool.or_false]; simp; omega), occ_all, q, q']
  show (if (List.take 2 _).isEmpty = true then _ else _ : List Str).map sl = _
  rw [if_neg (by simp)]
  show [sl (Builtin.Str.strSub z 0 (0 + (wordF (sl z)).length)), sl (Builtin.Str.strSub z (0 + (wordF (sl z)).length + spS.length) (0 + (wordF (sl z)).length + 1 + (wordF r).length)), sl (Builtin.Str.strSub z (0 + (wordF (sl z)).length + 1 + (wordF r).length + spS.length) z.length)] = _
  rw [sl_sub, sl_sub, sl_sub, e1, Nat.zero_add, List.drop_zero, Nat.sub_zero, sl_len]
  generalize wordF (sl z) = w at e hl
  generalize sl z = l at e hl
  generalize wordF r = v at e' hl
  subst e'
  subst e
  have a1 : (w ++ 32 :: (v ++ 32 :: t)).drop (w.length + 1) = v ++ 32 :: t := by
    rw [show w ++ 32 :: (v ++ 32 :: t) = (w ++ [32]) ++ (v ++ 32 :: t) by simp, show w.length + 1 = (w ++ [32]).length by simp, List.drop_left]
  have a2 : (w ++ 32 :: (v ++ 32 :: t)).drop (w.length + 1 + v.length + 1) = t := by
    rw [show w ++ 32 :: (v ++ 32 :: t) = (w ++ [32] ++ v ++ [32]) ++ t by simp, show w.length + 1 + v.length + 1 = (w ++ [32] ++ v ++ [32]).length by simp; omega, List.drop_left]
  rw [a1, a2, List.take_left, hl, show w.length + 1 + v.length - (w.length + 1) = v.length by omega, List.take_left, show w.length + 1 + (v.length + 1 + t.length) - (w.length + 1 + v.length + 1) = t.length by omega, List.take_length]
theorem split_half {z : Str} {r : List Nat} (h : restF (sl z) = some r) (h2 : restF r = none) : (Txt.splitMax z spS 2).map sl = [wordF (sl z), r] := by
  have e := rest_some h
  have e' := rest_none h2
  have nr : 32 ∉ r := by rw [e']; exact word_no _
  have q : idxF (sl z) 0 = (0 + (wordF (sl z)).length) :: idxF r (0 + (wordF (sl z)).length + 1) := by
    conv => lhs; rw [e]
    exact idx_split _ _ _ (word_no _)
  rw [idx_none _ _ nr] at q
  have e1 : spS.length = 1 := by decide +kernel
  have hl : (sl z).length = (wordF (sl z)).length + 1 + r.length := by
    have := congrArg List.length e
    rw [List.length_append, List.length_cons] at this
    omega
  have zl := sl_len z
  unfold Txt.splitMax
  rw [if_neg (by rw [kind1, Bool.or_false]; simp; omega), occ_all, q]
  show (if (List.take 2 _).isEmpty = true then _ else _ : List Str).map sl = _
  rw [if_neg (by simp)]
  show [sl (Builtin.Str.strSub z 0 (0 + (wordF (sl z)).length)), sl (Builtin.Str.strSub z (0 + (wordF (sl z)).length + spS.length) z.length)] = _
  rw [sl_sub, sl_sub, e1, Nat.zero_add, List.drop_zero, Nat.sub_zero, sl_len]
  generalize wordF (sl z) = w at e hl
  generalize sl z = l at e hl
  subst e
  rw [List.take_left, hl, show w ++ 32 :: r = (w ++ [32]) ++ r by simp, show w.length + 1 = (w ++ [32]).length by simp, List.drop_left]
  congr 2
  rw [Nat.add_sub_cancel_left, List.take_length]
end Sx

set_option Elab.async false
set_option linter.all false
set_option maxRecDepth 100000
set_option maxHeartbeats 2000000
namespace Sx
open PySem PySem.Spec PyProof.Rows L2 SxA SxK
theorem call_or {X : Cx} {f : Value} {r1 r2 : List V → Hp → VK → Prop} (h1 : CallR X f r1) (h2 : CallR X f r2) : CallR X f (fun xs H Q => r1 xs H Q ∨ r2 xs H Q) := by
  intro pins s σ H xs us Q I r h
  rcases h with h | h
  · exact h1 pins s σ H xs us Q I r h
  · exact h2 pins s σ H xs us Q I r h
/-! ### faults of a text -/
def spareB (l : List Nat) (at_ : Nat) : Bool := decide (at_ = 0) || (decide (at_ + 1 = l.length) || decide (l[at_ - 1]? = some 32))
def faultB (l : List Nat) (at_ : Nat) : Bool := decide (at_ = 400) || (decide (l[at_]? = some 32) && spareB l at_)
def faultF (l : List Nat) : Option Nat := (List.range l.length).find? (faultB l)
def spSpare : Sp := fun vs H Q _ => ∃ (z : Str) (at_ : Nat), vs = [.str z, .int (at_ : Int)] ∧ at_ < z.length ∧ z.length ≤ 1000000 ∧ Q (.bl (spareB (sl z) at_)) H
def spFault : Sp := fun vs H Q _ => ∃ z : Str, vs = [.str z] ∧ z.length ≤ 1000000 ∧ ∀ H', Same H H' → Q (oN (faultF (sl z))) H'
def spBText (K : PySem.W.Frag) : Sp := fun vs H Q E => ∃ (x z : Str) (n : Int), vs = [.str x, .str z, .int n] ∧ x.length ≤ z.length ∧ z.length ≤ 1000000 ∧ (0 ≤ n ∧ n < 10 ^ 10) ∧
  (faultF (sl x) = none → ∀ H', Same H H' → Q (.str x) H') ∧ ∀ f : Nat, faultF (sl x) = some f → Er K E H n ((z.length : Int) - x.length + f + 1) "text"
section
variable {P : Program} {w : World} {K : PySem.W.Frag} {mg : Str → Option Value} {base : Heap}
abbrev nsSpare : List Str := ["text", "at"]
theorem scSpare : FnScope nsSpare ["text", "at"] (defScope sIsSpareSpace) := ⟨rfl, rfl, rfl, by decide +kernel, rfl, by decide +kernel, by decide +kernel⟩
theorem big6' {z : Str} (h : z.length ≤ 1000000) : z.length ≤ sizeLine := Nat.le_trans h (by decide)
theorem ok_spare (t : T K mg) : Ok P w K mg base 1 "is_spare_space" ["text", "at"] spSpare := by
  refine mkOk t.d_is_spare_space t.g_is_spare_space scSpare (fun vs H Q E h => ?_) (fun _ _ _ _ _ _ us hl => match us, hl with | [_, _], _ => rfl) fun cdv A outer s H vs Q E hr h => ?_
  · obtain ⟨z, a, rfl, _⟩ := h; rfl
  obtain ⟨z, a, rfl, ha, hz, k⟩ := h
  refine ⟨_, pss_one (ps_ret (pe_or (pe_cmpR op_eq (pv 1) pe_int (nomark _)) (pe_or (pe_cmpR op_eq (pv 1) (pe_op op_sub (pe_callB call_len_str rfl t.f_len boot_len (pa_cons (pv 0) pa_nil)) pe_int) (nomark _)) (pe_one (pe_cmpR op_eq (pe_ix ix_str (pv 0) (pe_op op_sub (pv 1) pe_int) (fun _ _ => rfl)) pe_str (nomark _)))))), ?_⟩
  have zl := sl_len z
  unfold spareB at k
  refine ⟨_, rfl, rfl, _, rfl, ?_⟩
  by_cases h0 : a = 0
  · subst h0
    rw [show decide (V.int ((0 : Nat) : Int) = V.int 0) = true from rfl]
    exact iteT k
  rw [decide_eq_false (fun e => h0 (by have := V.int.inj e; omega))]
  rw [decide_eq_false h0, Bool.false_or] at k
  refine iteF ⟨_, rfl, _, rfl, z, rfl, big6' hz, _, _, rfl, rfl, rfl, _, rfl, ?_⟩
  by_cases h1 : a + 1 = (sl z).length
  · rw [show decide (V.int ((a : Nat) : Int) = V.int ((z.length : Int) - 1)) = true from decide_eq_true (by congr 1; omega)]
    rw [decide_eq_true h1, Bool.true_or] at k
    exact iteT k
  rw [show decide (V.int ((a : Nat) : Int) = V.int ((z.length : Int) - 1)) = false from decide_eq_false (fun e => h1 (by have := V.int.inj e; omega))]
  rw [decide_eq_false h1, Bool.false_or] at k
  have hi : (sl z)[a - 1]? = some ((sl z)[a - 1]'(by omega)) := List.getElem?_eq_getElem _
  have ea : (a : Int) - 1 = ((a - 1 : Nat) : Int) := by omega
  refine iteF ⟨_, rfl, _, rfl, _, _, rfl, rfl, z, _, _, rfl, rfl, big6' hz, by rw [ea]; exact atI_nat hi, rfl, ?_⟩
  rw [hi] at k
  generalize (sl z)[a - 1]'(by omega) = c at k
  have e : decide (V.str (⟨#[c]⟩ : Str) = V.str (Str.ofString " ")) = decide (some c = some 32) := by
    rw [decide_eq_decide]
    have es : Str.ofString " " = (⟨#[32]⟩ : Str) := by decide +kernel
    rw [es]
    constructor
    · intro h
      have h2 := congrArg (fun s : Str => s.cps.toList) (V.str.inj h)
      have h3 : [c] = [32] := h2
      rw [(List.cons.inj h3).1]
    · intro h; rw [Option.some.inj h]
  show Q (.bl (decide (V.str (⟨#[c]⟩ : Str) = V.str (Str.ofString " ")))) H
  rw [e]
  exact k
abbrev nsFault : List Str := ["text", "at", "sign"]
theorem scFault : FnScope nsFault ["text"] (defScope sTextFault) := ⟨rfl, rfl, rfl, by decide +kernel, rfl, by decide +kernel, by decide +kernel⟩
theorem find_at {l : List Nat} {i : Nat} (hi : i < l.length) (hb : faultB l i = true) (hn : ∀ j, j < i → faultB l j = false) : faultF l = some i := by
  unfold faultF
  rw [List.find?_range_eq_some]
  exact ⟨hb, List.mem_range.mpr hi, fun j hj => by rw [hn j hj]; rfl⟩
theorem find_no {l : List Nat} (hn : ∀ j, j < l.length → faultB l j = false) : faultF l = none := by
  unfold faultF
  rw [List.find?_eq_none]
  intro j hj
  rw [hn j (List.mem_range.mp hj)]
  decide
theorem ok_fault (t : T K mg) : Ok P w K mg base 2 "text_fault" ["text"] spFault := by
  obtain ⟨k1', hk⟩ := t.i_MOST_TEXT_SIGNS
  refine mkOk t.d_text_fault t.g_text_fault scFault (fun vs H Q E h => ?_) (fun _ _ _ _ _ _ us hl => match us, hl with | [_], _ => rfl) fun cdv A outer s H vs Q E hr h => ?_
  · obtain ⟨z, rfl, _⟩ := h; rfl
  obtain ⟨z, rfl, hz, k⟩ := h
  refine ⟨_, pss_cons (ps_for PassesOwn.never rfl (pi_enumT rfl t.f_enumerate (pa_cons (pv 0) pa_nil)) (pg_tup rfl (pgs_cons (pg_name (i := 1) scFault.nd rfl (Or.inl rfl)) (pgs_cons (pg_name (i := 2) scFault.nd rfl (Or.inl rfl)) pgs_nil)))
      (pss_one (ps_if (PW.pt (pw_or (pt_cmpR op_eq (pv 1) (pgi rfl hk) (nomark _)) (pw_or1 (PW.pt (pw_and (pt_cmpR op_eq (pv 2) pe_str (nomark _)) (pw_and1 (pt_truthK (K := K) rfl (pe_ok (ok_spare t) hr rfl (pa_cons (pv 0) (pa_cons (pv 1) pa_nil))))))))))
      (pss_one (ps_ret (pv 1)))
      pss_nil)))
    (pss_one (ps_ret pe_non)), ?_⟩
  have zl := sl_len z
  refine ⟨_, rfl, z, rfl, ?_⟩
  refine for_enumT (z := z) (fun i σ' H' => (∃ x y, σ' = [some (V.str z), x, y]) ∧ Same H H' ∧ ∀ j, j < i → faultB (sl z) j = false) ⟨⟨none, none, rfl⟩, Same.refl _, fun j hj => absurd hj (Nat.not_lt_zero _)⟩ ?_ ?_
  · rintro i c T σ' H' hc ⟨⟨x, y, rfl⟩, sm, good⟩ hT
    have il : i < (sl z).length := (List.getElem?_eq_some_iff.mp hc).1
    have s1 : Same H (upd H' T (.tup [.int (i : Nat), .str (sgn c)])) := Same.put sm (sm.free hT)
    refine ⟨T, _, rfl, SqT.of upd_same, rfl, _, _, rfl, _, _, rfl, rfl, ?_⟩
    have fb : faultB (sl z) i = (decide (i = 400) || (decide (c = 32) && spareB (sl z) i)) := by
      unfold faultB
      rw [hc]
      congr 2
      exact decide_eq_decide.mpr ⟨fun h => Option.some.inj h, fun h => by rw [h]⟩
    have no : faultB (sl z) i = false → ∀ j, j < i + 1 → faultB (sl z) j = false := fun h j hj => by
      rcases Nat.lt_or_ge j i with q | q
      · exact good j q
      · have : j = i := by omega
        rw [this]; exact h
    refine ⟨_, rfl, rfl, _, rfl, ?_⟩
    by_cases h0 : i = 400
    · rw [show decide (V.int ((i : Nat) : Int) = V.int 400) = true from decide_eq_true (by rw [h0]; rfl)]
      refine iteT (iteT ⟨_, rfl, ?_⟩)
      have := k _ s1
      rw [find_at il (by rw [fb, decide_eq_true h0]; rfl) good] at this
      exact this
    rw [show decide (V.int ((i : Nat) : Int) = V.int 400) = false from decide_eq_false (fun e => h0 (by have := V.int.inj e; omega))]
    rw [decide_eq_false h0, Bool.false_or] at fb
    refine iteF ⟨_, rfl, rfl, _, rfl, ?_⟩
    have e : decide (V.str (sgn c) = V.str (Str.ofString " ")) = decide (c = 32) := by
      rw [decide_eq_decide]
      have es : Str.ofString " " = (⟨#[32]⟩ : Str) := by decide +kernel
      rw [es]
      constructor
      · intro h
        have h2 := congrArg (fun s : Str => s.cps.toList) (V.str.inj h)
        have h3 : [c] = [32] := h2
        exact (List.cons.inj h3).1
      · intro h; rw [h]
    rw [e]
    by_cases h2 : c = 32
    · rw [decide_eq_true h2]
      rw [decide_eq_true h2, Bool.true_and] at fb
      refine iteT ⟨_, rfl, _, rfl, z, i, rfl, by omega, hz, _, rfl, ?_⟩
      cases q : spareB (sl z) i with
      | true =>
        refine iteT ⟨_, rfl, ?_⟩
        have := k _ s1
        rw [find_at il (by rw [fb, q]) good] at this
        exact this
      | false => exact iteF ⟨⟨_, _, rfl⟩, s1, no (by rw [fb, q])⟩
    · rw [decide_eq_false h2]
      rw [decide_eq_false h2, Bool.false_and] at fb
      exact iteF (iteF ⟨⟨_, _, rfl⟩, s1, no fb⟩)
  · rintro σ' H' ⟨⟨x, y, rfl⟩, sm, good⟩
    have := k _ sm
    rw [find_no good] at this
    exact this
end
end Sx

set_option Elab.async false
set_option linter.all false
set_option maxRecDepth 100000
set_option maxHeartbeats 2000000
namespace Sx
open PySem PySem.Spec PyProof.Rows L2 SxA SxK
/-- what the top says of kinds of blocks -/
structure KF (K : PySem.W.Frag) (w : World) : Prop where
  has : ∀ z, KIn K w (He.ga K "MOST_NUMBERS") z (decide (z ∈ (["item", "note"] : List Str)))
  item : KDct K w (He.ga K "MOST_NUMBERS") "item" (.int 3)
  note : KDct K w (He.ga K "MOST_NUMBERS") "note" (.int 99)
  pl : ∀ H, SqT K H (He.ga K "PLAIN_BLOCKS") [.str "head", .str "par"]
def mostZ (wz : Str) : Int := if wz = "item" then 3 else 99
def digZ (wz : Str) : Int := if wz = "item" then 1 else 2
/-- the number of a block, if it is one -/
def bnum (wz : Str) (l : List Nat) : Option Nat := match numW l (digZ wz) with
  | none => none
  | some k => if 1 ≤ k ∧ (k : Int) ≤ mostZ wz then some k else none
def spBNum (K : PySem.W.Frag) : Sp := fun vs H Q E => ∃ (y wz : Str) (n : Int), vs = [.str y, .str wz, .int n] ∧ (wz = "item" ∨ wz = "note") ∧ y.length ≤ 1000000 ∧ (0 ≤ n ∧ n < 10 ^ 10) ∧
  (∀ k : Nat, bnum wz (sl y) = some k → Q (.int (k : Int)) H) ∧ (bnum wz (sl y) = none → Er K E H n ((wz.length : Int) + 2) "number")
section
variable {P : Program} {w : World} {K : PySem.W.Frag} {mg : Str → Option Value} {base : Heap}
abbrev nsBText : List Str := ["text", "line", "number", "fault"]
theorem scBText : FnScope nsBText ["text", "line", "number"] (defScope sBlockText) := ⟨rfl, rfl, rfl, by decide +kernel, rfl, by decide +kernel, by decide +kernel⟩
theorem ok_btext (t : T K mg) (er : ErrC P K mg xTextError) : OkX P w K mg base 4 "block_text" ["text", "line", "number"] (spBText K) := by
  refine mkOkX t.d_block_text t.g_block_text scBText (fun vs H Q E h => ?_) (fun _ _ _ _ _ _ us hl => match us, hl with | [_, _, _], _ => rfl) fun cdv A outer s H vs Q E hr h => ?_
  · obtain ⟨x, z, n, rfl, _⟩ := h; rfl
  obtain ⟨x, z, n, rfl, hxz, hz, hn, k1, k2⟩ := h
  refine ⟨_, pss_cons (ps_set (i := 3) scBText.nd rfl (Or.inl rfl) (pe_ok (ok_fault t) (hr.mono (by decide)) rfl (pa_cons (pv 0) pa_nil)))
    (pss_cons (ps_if (pt_cmp (pc_notN (pv 3)))
      (pss_one (ps_raise rfl (takes_of rfl rfl rfl rfl) (pmk_text (k := 0) t er hr rfl (pa_cons (pv 2) (pa_cons (pe_op op_add (pe_op op_add (pe_op op_sub (pe_callB call_len_str rfl t.f_len boot_len (pa_cons (pv 1) pa_nil)) (pe_callB call_len_str rfl t.f_len boot_len (pa_cons (pv 0) pa_nil))) (pv 3)) pe_int) (pa_cons pe_str pa_nil))))))
      pss_nil)
    (pss_one (ps_ret (pv 0)))), ?_⟩
  refine ⟨_, rfl, x, rfl, by omega, fun H' s1 => ?_⟩
  cases h : faultF (sl x) with
  | none =>
    refine ⟨_, rfl, _, rfl, iteF ⟨_, rfl, ?_⟩⟩
    exact k1 h H' s1
  | some f =>
    have hf : f < (sl x).length := by
      unfold faultF at h
      have := List.mem_of_find?_eq_some h
      exact List.mem_range.mp this
    have xl := sl_len x
    refine ⟨_, rfl, _, rfl, iteT ?_⟩
    refine ⟨_, rfl, _, rfl, z, rfl, big6' hz, _, rfl, x, rfl, big6' (by omega), _, _, rfl, rfl, _, rfl, _, _, rfl, rfl, _, _, rfl, rfl, mk_err hn (by constructor <;> omega) (by decide +kernel) ?_⟩
    exact (k2 f h).same s1
abbrev nsBNum : List Str := ["written", "word", "number", "most", "found"]
theorem scBNum : FnScope nsBNum ["written", "word", "number"] (defScope sBlockNumber) := ⟨rfl, rfl, rfl, by decide +kernel, rfl, by decide +kernel, by decide +kernel⟩
theorem ok_bnum (t : T K mg) (kf : KF K w) (er : ErrC P K mg xTextError) : OkX P w K mg base 4 "block_number" ["written", "word", "number"] (spBNum K) := by
  refine mkOkX t.d_block_number t.g_block_number scBNum (fun vs H Q E h => ?_) (fun _ _ _ _ _ _ us hl => match us, hl with | [_, _, _], _ => rfl) fun cdv A outer s H vs Q E hr h => ?_
  · obtain ⟨y, wz, n, rfl, _⟩ := h; rfl
  obtain ⟨y, wz, n, rfl, hw, hy, hn, k1, k2⟩ := h
  refine ⟨_, pss_cons (ps_set (i := 3) scBNum.nd rfl (Or.inl rfl) (pe_ix ix_kdict (pe_glob (v := .ref (He.ga K "MOST_NUMBERS")) rfl t.g_MOST_NUMBERS rfl) (pv 1) (fun _ _ => rfl)))
    (pss_cons (ps_set (i := 4) scBNum.nd rfl (Or.inl rfl) (pe_ok (ok_num t) (hr.mono (by decide)) rfl (pa_cons (pv 0) (pa_cons (pe_callB call_len_str rfl t.f_len boot_len (pa_cons (pe_callTy call_str_int rfl t.f_str (by decide +kernel) (pa_cons (pv 3) pa_nil)) pa_nil)) pa_nil))))
    (pss_cons (ps_if (PW.pt (pw_or (pt_cmp (pc_isN (pv 4))) (pw_or1 (pt_not (pt_chain op_le op_le pe_int (pv 4) (pv 3))))))
      (pss_one (ps_raise rfl (takes_of rfl rfl rfl rfl) (pmk_text (k := 0) t er hr rfl (pa_cons (pv 2) (pa_cons (pe_op op_add (pe_callB call_len_str rfl t.f_len boot_len (pa_cons (pv 1) pa_nil)) pe_int) (pa_cons pe_str pa_nil))))))
      pss_nil)
    (pss_one (ps_ret (pv 4))))), ?_⟩
  have kd : KDct K w (He.ga K "MOST_NUMBERS") wz (.int (mostZ wz)) := by
    rcases hw with rfl | rfl
    · exact kf.item
    · exact kf.note
  have ml : 3 ≤ mostZ wz ∧ mostZ wz ≤ 99 ∧ (Str.ofString (toString (mostZ wz))).length = (digZ wz).toNat ∧ 1 ≤ digZ wz ∧ digZ wz ≤ 2 ∧ wz.length = 4 := by
    rcases hw with rfl | rfl <;> decide +kernel
  obtain ⟨m1, m2, m3, m4, m5, m6⟩ := ml
  refine ⟨_, rfl, _, wz, _, rfl, rfl, kd, ?_⟩
  have e : (((Str.ofString (toString (mostZ wz))).length : Nat) : Int) = digZ wz := by rw [m3]; omega
  have lg : (mostZ wz).natAbs.log2 < 1920 := by
    have : (mostZ wz).natAbs < 2 ^ 1920 := Nat.lt_of_le_of_lt (show (mostZ wz).natAbs ≤ 99 by omega) (by decide)
    exact (Nat.log2_lt (by omega)).mpr this
  refine ⟨_, rfl, _, rfl, _, rfl, lg, _, rfl, Nat.le_trans (show _ ≤ 600 by omega) (by decide), y, _, rfl, hy, by omega, by omega, ?_⟩
  rw [e]
  unfold bnum at k1 k2
  cases hnum : numW (sl y) (digZ wz) with
  | none =>
    rw [hnum] at k2
    refine ⟨_, rfl, _, rfl, iteT (iteT ?_)⟩
    exact ⟨_, rfl, _, rfl, wz, rfl, Nat.le_trans (show wz.length ≤ 600 by omega) (by decide), _, _, rfl, rfl, mk_err hn (by constructor <;> omega) (by decide +kernel) (k2 rfl)⟩
  | some f =>
    rw [hnum] at k1 k2
    refine ⟨_, rfl, _, rfl, iteF ?_⟩
    refine ⟨_, rfl, _, _, rfl, rfl, _, rfl, ?_⟩
    have bad : ¬ (1 ≤ f ∧ (f : Int) ≤ mostZ wz) → Er K E H n ((wz.length : Int) + 2) "number" := fun h => k2 (by simp only; rw [if_neg h])
    by_cases h1 : 1 ≤ f
    · rw [decide_eq_true (show (1 : Int) ≤ (f : Int) by omega)]
      refine iteT ⟨_, rfl, _, _, rfl, rfl, _, rfl, ?_⟩
      by_cases h2 : (f : Int) ≤ mostZ wz
      · rw [decide_eq_true h2]
        refine iteF ⟨_, rfl, k1 f (by simp only; rw [if_pos ⟨h1, h2⟩])⟩
      · rw [decide_eq_false h2]
        exact iteT ⟨_, rfl, _, rfl, wz, rfl, Nat.le_trans (show wz.length ≤ 600 by omega) (by decide), _, _, rfl, rfl, mk_err hn (by constructor <;> omega) (by decide +kernel) (bad fun z => h2 z.2)⟩
    · rw [decide_eq_false (show ¬ (1 : Int) ≤ (f : Int) by omega)]
      exact iteF ⟨_, rfl, iteT ⟨_, rfl, _, rfl, wz, rfl, Nat.le_trans (show wz.length ≤ 600 by omega) (by decide), _, _, rfl, rfl, mk_err hn (by constructor <;> omega) (by decide +kernel) (bad fun z => h1 z.1)⟩⟩
end
end Sx

set_option Elab.async false
set_option linter.all false
set_option maxRecDepth 100000
set_option maxHeartbeats 4000000
namespace Sx
open PySem PySem.Spec PyProof.Rows L2 SxA SxK
inductive Bk where
  | brk
  | plain (w t : Str)
  | num (w : Str) (k : Nat) (t : Str)
inductive BR where
  | ok (b : Bk)
  | err (c : Int) (w : Str)
def Bk.v : Bk → List V
  | .brk => [.str "break"]
  | .plain w t => [.str w, .str t]
  | .num w k t => [.str w, .int (k : Int), .str t]
def fText (z : Str) (l : List Nat) (b : Bk) : BR := match faultF l with
  | none => .ok b
  | some f => .err ((z.length : Int) - l.length + f + 1) "text"
def mBlock (z : Str) (n : Int) : BR :=
  if n > 200 ∨ ¬ ((pcS (wordF (sl z)) = "head" ∨ pcS (wordF (sl z)) = "par") ∨ (pcS (wordF (sl z)) = "item" ∨ pcS (wordF (sl z)) = "note") ∨ pcS (wordF (sl z)) = "break") then .err 1 "line"
  else if pcS (wordF (sl z)) = "break" then (if z = pcS (wordF (sl z)) then .ok .brk else .err (((pcS (wordF (sl z))).length : Int) + 1) "expected")
  else match restF (sl z) with
  | none => .err ((z.length : Int) + 1) "expected"
  | some r => if pcS (wordF (sl z)) = "item" ∨ pcS (wordF (sl z)) = "note" then (match restF r with
      | none => .err ((z.length : Int) + 1) "expected"
      | some t => if t = [] then .err ((z.length : Int) + 1) "expected" else match bnum (pcS (wordF (sl z))) (wordF r) with
        | none => .err (((pcS (wordF (sl z))).length : Int) + 2) "number"
        | some k => fText z t (.num (pcS (wordF (sl z))) k (pcS t)))
    else if r = [] then .err ((z.length : Int) + 1) "expected" else fText z r (.plain (pcS (wordF (sl z))) (pcS r))
def BOut (K : PySem.W.Frag) (Q : VK) (E : XK) (H : Hp) (n : Int) : BR → Prop
  | .ok b => ∀ H' T, Same H H' → H T = none → H' T = some (.tup b.v) → Q (.ref T) H'
  | .err c w => Er K E H n c w
theorem BOut.step {K : PySem.W.Frag} {Q : VK} {E : XK} {H H1 : Hp} {n : Int} {r : BR} (h : BOut K Q E H n r) (s : Same H H1) : BOut K Q E H1 n r := by
  cases r with
  | ok b => exact fun H' T s1 e => h H' T (s.trans s1) (Sx.Same.none s _ e)
  | err c w => exact Er.same h s
def spRBlock (K : PySem.W.Frag) : Sp := fun vs H Q E => ∃ (z : Str) (n : Int), vs = [.str z, .int n] ∧ z.length ≤ 1000000 ∧ (0 ≤ n ∧ n < 10 ^ 10) ∧ BOut K Q E H n (mBlock z n)
theorem upd_at {H : Hp} {p : Addr} (_ : H p = none) (o : HO) : upd H p o p = some o := upd_same
theorem sl_lists : ∀ {ys : List Str} {ls : List (List Nat)}, ys.map sl = ls → ys = ls.map pcS
  | [], _, h => by rw [← h]; rfl
  | y :: ys, _, h => by
    rw [← h, List.map_cons, List.map_cons, ← sl_lists (ys := ys) rfl, ← pcS_of (x := y) rfl]
theorem len_pcS (l : List Nat) : (pcS l).length = l.length := by rw [sl_len, sl_pcS]
theorem pcS_nil : pcS [] = ("" : Str) := sl_ext (by rw [sl_pcS]; decide +kernel)
theorem pcS_ne {l : List Nat} (h : l ≠ []) : decide (V.str (pcS l) = V.str ("" : Str)) = false := decide_eq_false fun e => h (by
  have := congrArg sl (V.str.inj e)
  rw [sl_pcS] at this
  rw [this]
  decide +kernel)
section
variable {P : Program} {w : World} {K : PySem.W.Frag} {mg : Str → Option Value} {base : Heap}
abbrev nsRB : List Str := ["line", "number", "word", "parts"]
theorem scRB : FnScope nsRB ["line", "number"] (defScope sReadBlock) := ⟨rfl, rfl, rfl, by decide +kernel, rfl, by decide +kernel, by decide +kernel⟩
theorem ok_rblock (t : T K mg) (kf : KF K w) (er : ErrC P K mg xTextError) : OkX P w K mg base 5 "read_block" ["line", "number"] (spRBlock K) := by
  obtain ⟨k1', hk⟩ := t.i_MOST_BLOCKS
  refine mkOkX t.d_read_block t.g_read_block scRB (fun vs H Q E h => ?_) (fun _ _ _ _ _ _ us hl => match us, hl with | [_, _], _ => rfl) fun cdv A outer s H vs Q E hr h => ?_
  · obtain ⟨z, n, rfl, _⟩ := h; rfl
  obtain ⟨z, n, rfl, hz, hn, ko⟩ := h
  have hr3 : Room 3 _ := hr.mono (show 3 ≤ 4 by decide)
  refine ⟨_, pss_cons (ps_set (i := 2) scRB.nd rfl (Or.inl rfl) (pe_ix (ix_tupK (K := K) rfl) (pe_partition (pv 0) pe_str) pe_int (fun _ _ => rfl)))
    (C8.pss_cut (ps_if (PW.pt (pw_or (pt_cmpR op_gt (pv 1) (pgi rfl hk) (nomark _)) (pw_or1 (pt_not (PW.pt (pw_or (pt_cmpR (op_inK (K := K) rfl) (pv 2) (pe_glob (v := .ref (He.ga K "PLAIN_BLOCKS")) rfl t.g_PLAIN_BLOCKS rfl) (by rfl)) (pw_or (pt_cmpR (op_inKD (K := K) (w := w) rfl rfl) (pv 2) (pe_glob (v := .ref (He.ga K "MOST_NUMBERS")) rfl t.g_MOST_NUMBERS rfl) (by rfl)) (pw_or1 (pt_cmpR op_eq (pv 2) pe_str (nomark _))))))))))
      (pss_one (ps_raise rfl (takes_of rfl rfl rfl rfl) (pmk_text (k := 0) t er hr3 rfl (pa_cons (pv 1) (pa_cons pe_int (pa_cons pe_str pa_nil))))))
      pss_nil)
    (pss_cons (ps_if (pt_cmpR op_eq (pv 2) pe_str (nomark _))
      (pss_cons (ps_if (pt_cmpR op_ne (pv 0) (pv 2) (nomark _))
      (pss_one (ps_raise rfl (takes_of rfl rfl rfl rfl) (pmk_text (k := 0) t er hr3 rfl (pa_cons (pv 1) (pa_cons (pe_op op_add (pe_callB call_len_str rfl t.f_len boot_len (pa_cons (pv 2) pa_nil)) pe_int) (pa_cons pe_str pa_nil))))))
      pss_nil)
    (pss_one (ps_ret (pe_tup (pa_cons (pv 2) pa_nil)))))
      pss_nil)
    (pss_cons (ps_set (i := 3) scRB.nd rfl (Or.inl rfl) (pe_bm PySem.F.plainAttrs_str PySem.F.slot_str_split PySem.F.type_str_split mt_splitMax (pv 0) (pa_cons pe_str (pa_cons (pe_ifExp (pt_cmpR (op_inKD (K := K) (w := w) rfl rfl) (pv 2) (pe_glob (v := .ref (He.ga K "MOST_NUMBERS")) rfl t.g_MOST_NUMBERS rfl) (by rfl)) pe_int pe_int) pa_nil))))
    (pss_cons (ps_if (PW.pt (pw_or (pt_cmpR op_eq (pe_callB call_len_seq rfl t.f_len boot_len (pa_cons (pv 3) pa_nil)) pe_int (nomark _)) (pw_or (pt_cmpR op_eq (pe_ix (ix_listK (K := K) rfl) (pv 3) (pe_un un_neg pe_int) (fun _ _ => rfl)) pe_str (nomark _)) (pw_or1 (PW.pt (pw_and (pt_cmpR (op_inKD (K := K) (w := w) rfl rfl) (pv 2) (pe_glob (v := .ref (He.ga K "MOST_NUMBERS")) rfl t.g_MOST_NUMBERS rfl) (by rfl)) (pw_and1 (pt_cmpR op_eq (pe_callB call_len_seq rfl t.f_len boot_len (pa_cons (pv 3) pa_nil)) pe_int (nomark _)))))))))
      (pss_one (ps_raise rfl (takes_of rfl rfl rfl rfl) (pmk_text (k := 0) t er hr3 rfl (pa_cons (pv 1) (pa_cons (pe_op op_add (pe_callB call_len_str rfl t.f_len boot_len (pa_cons (pv 0) pa_nil)) pe_int) (pa_cons pe_str pa_nil))))))
      pss_nil)
    (pss_cons (ps_if (pt_cmpR (op_inKD (K := K) (w := w) rfl rfl) (pv 2) (pe_glob (v := .ref (He.ga K "MOST_NUMBERS")) rfl t.g_MOST_NUMBERS rfl) (by rfl))
      (pss_one (ps_ret (pe_tup (pa_cons (pv 2) (pa_cons (pe_okX (ok_bnum t kf er) hr rfl (takes_of rfl rfl rfl rfl) (pa_cons (pe_ix (ix_listK (K := K) rfl) (pv 3) pe_int (fun _ _ => rfl)) (pa_cons (pv 2) (pa_cons (pv 1) pa_nil)))) (pa_cons (pe_okX (ok_btext t er) hr rfl (takes_of rfl rfl rfl rfl) (pa_cons (pe_ix (ix_listK (K := K) rfl) (pv 3) pe_int (fun _ _ => rfl)) (pa_cons (pv 0) (pa_cons (pv 1) pa_nil)))) pa_nil))))))
      pss_nil)
    (pss_one (ps_ret (pe_tup (pa_cons (pv 2) (pa_cons (pe_okX (ok_btext t er) hr rfl (takes_of rfl rfl rfl rfl) (pa_cons (pe_ix (ix_listK (K := K) rfl) (pv 3) pe_int (fun _ _ => rfl)) (pa_cons (pv 0) (pa_cons (pv 1) pa_nil)))) pa_nil)))))))))), ?_⟩
  refine ⟨_, rfl, ⟨_, rfl⟩, z, spS, rfl, rfl, by decide +kernel, big6' hz, fun T hT => ⟨T, _, _, _, rfl, rfl, SqT.of upd_same, atI_nat (j := 0) rfl, ?_⟩⟩
  have s1 : Same H (upd H T (.tup [.str (Txt.partition z spS).1, .str (Txt.partition z spS).2.1, .str (Txt.partition z spS).2.2])) := Same.new hT
  have ko := ko.step s1
  generalize upd H T (.tup [.str (Txt.partition z spS).1, .str (Txt.partition z spS).2.1, .str (Txt.partition z spS).2.2]) = H1 at s1 ko ⊢
  have epw : (Txt.partition z spS).1 = pcS (wordF (sl z)) := pcS_of (part_word z)
  rw [show Txt.partition z (Str.ofString " ") = Txt.partition z spS from rfl, epw]
  have wlen : (pcS (wordF (sl z))).length ≤ z.length := by
    rw [sl_len, sl_len z, sl_pcS]
    exact (List.takeWhile_sublist _).length_le
  unfold mBlock at ko
  obtain ⟨wz, ew⟩ : ∃ wz, pcS (wordF (sl z)) = wz := ⟨_, rfl⟩
  have slw : sl wz = wordF (sl z) := by rw [← ew, sl_pcS]
  rw [ew] at ko wlen ⊢
  refine ⟨fun σ2 H2 => σ2 = [some (.str z), some (.int n), some (.str wz), none] ∧ H2 = H1 ∧ ¬ n > 200 ∧ ((wz = "head" ∨ wz = "par") ∨ (wz = "item" ∨ wz = "note") ∨ wz = "break"), ?_, ?_⟩
  · refine ⟨_, rfl, _, _, rfl, rfl, _, rfl, ?_⟩
    by_cases h200 : n > 200
    · rw [if_pos (Or.inl h200)] at ko
      rw [decide_eq_true (show 200 < n from h200)]
      exact iteT (iteT ⟨_, rfl, mk_err hn (by decide) (by decide +kernel) ko⟩)
    rw [decide_eq_false (show ¬ 200 < n from h200)]
    refine iteF ⟨_, rfl, _, _, rfl, .inr (kf.pl _), rfl, rfl, _, rfl, ?_⟩
    have eP : inV (V.str wz) [V.str "head", V.str "par"] = decide (wz = "head" ∨ wz = "par") := by
      have e : ∀ k : Str, eqV (.str k) (.str wz) = decide (wz = k) := fun k => by
        show (k == wz) = _
        by_cases h : wz = k
        · rw [h]; simp
        · rw [decide_eq_false h]
          exact beq_eq_false_iff_ne.mpr fun q => h q.symm
      unfold inV
      rw [Bool.decide_or, List.any_cons, List.any_cons, List.any_nil, e, e, Bool.or_false]
    show (if inV (V.str wz) [V.str "head", V.str "par"] = true then _ else _)
    rw [eP]
    by_cases hP : wz = "head" ∨ wz = "par"
    · rw [decide_eq_true hP]
      exact iteT (iteF ⟨rfl, rfl, h200, .inl hP⟩)
    rw [decide_eq_false hP]
    refine iteF ⟨_, rfl, _, wz, _, rfl, rfl, kf.has wz, _, rfl, ?_⟩
    by_cases hN : wz = "item" ∨ wz = "note"
    · rw [decide_eq_true (show wz ∈ (["item", "note"] : List Str) by simpa using hN)]
      exact iteT (iteF ⟨rfl, rfl, h200, .inr (.inl hN)⟩)
    rw [decide_eq_false (show ¬ wz ∈ (["item", "note"] : List Str) by simpa using hN)]
    refine iteF ⟨_, rfl, rfl, _, rfl, ?_⟩
    by_cases hB : wz = "break"
    · rw [decide_eq_true (show V.str wz = V.str "break" by rw [hB])]
      exact iteF ⟨rfl, rfl, h200, .inr (.inr hB)⟩
    rw [decide_eq_false (show ¬ V.str wz = V.str "break" from fun e => hB (V.str.inj e))]
    rw [if_pos (Or.inr fun q => by rcases q with q | q | q; exact hP q; exact hN q; exact hB q)] at ko
    exact iteT ⟨_, rfl, mk_err hn (by decide) (by decide +kernel) ko⟩
  rintro σ2 H2 ⟨rfl, rfl, h200, hK⟩
  rw [if_neg (fun q => by rcases q with q | q; exact h200 q; exact q hK)] at ko
  refine ⟨_, rfl, rfl, _, rfl, ?_⟩
  by_cases hB : wz = "break"
  · rw [decide_eq_true (show V.str wz = V.str "break" by rw [hB])]
    rw [if_pos hB] at ko
    refine iteT ⟨_, rfl, _, rfl, rfl, _, rfl, ?_⟩
    by_cases hz2 : z = wz
    · rw [show (!decide (V.str z = V.str wz)) = false by rw [hz2]; simp]
      rw [if_pos hz2] at ko
      refine iteF ⟨_, rfl, (by show 1 ≤ sizeLine; decide), fun T2 hT2 => ?_⟩
      exact ko _ T2 (Same.new hT2) hT2 (by rw [upd_same, hB]; rfl)
    · rw [show (!decide (V.str z = V.str wz)) = true by rw [decide_eq_false (fun e => hz2 (V.str.inj e))]; rfl]
      rw [if_neg hz2] at ko
      exact iteT ⟨_, rfl, _, rfl, wz, rfl, big6' (by omega), _, _, rfl, rfl, mk_err hn (by constructor <;> omega) (by decide +kernel) ko⟩
  rw [decide_eq_false (show ¬ V.str wz = V.str "break" from fun e => hB (V.str.inj e))]
  rw [if_neg hB] at ko
  have hK2 : (wz = "head" ∨ wz = "par") ∨ (wz = "item" ∨ wz = "note") := by
    rcases hK with h | h | h
    · exact .inl h
    · exact .inr h
    · exact absurd h hB
  have wlen4 : wz.length ≤ 4 := by
    rcases hK2 with (rfl | rfl) | (rfl | rfl) <;> decide +kernel
  have rle : ∀ r, restF (sl z) = some r → r.length < z.length := fun r h => by
    have := congrArg List.length (rest_some h)
    rw [List.length_append, List.length_cons] at this
    rw [sl_len]
    omega
  have big : 1000000 + 2 ≤ sizeLine := by decide
  refine iteF ⟨_, rfl, rfl, _, rfl, _, wz, _, rfl, rfl, kf.has wz, _, rfl, ?_⟩
  by_cases hN : wz = "item" ∨ wz = "note"
  · have inN : decide (wz ∈ (["item", "note"] : List Str)) = true := decide_eq_true (by simpa using hN)
    rw [inN]
    refine iteT ⟨z, spS, 2, rfl, rfl, by decide +kernel, by decide, by decide, by omega, fun p hp => ?_⟩
    have s2 : Same H2 (upd H2 p (.lst ((Txt.splitMax z spS 2).map V.str))) := Same.new hp
    have hp2 := upd_at hp (.lst ((Txt.splitMax z spS 2).map V.str))
    have ko := ko.step s2
    generalize upd H2 p (.lst ((Txt.splitMax z spS 2).map V.str)) = H3 at s2 hp2 ko ⊢
    cases hr1 : restF (sl z) with
    | none =>
      rw [hr1] at ko
      rw [split_none hr1] at hp2
      refine ⟨_, rfl, p, _, rfl, .inl (SqL.of hp2), rfl, _, rfl, iteT (iteT ?_)⟩
      exact ⟨_, rfl, _, rfl, z, rfl, by omega, _, _, rfl, rfl, mk_err hn (by constructor <;> omega) (by decide +kernel) ko⟩
    | some r =>
      rw [hr1] at ko
      simp only at ko
      rw [if_pos hN] at ko
      have rl := rle r hr1
      cases hr2 : restF r with
      | none =>
        rw [hr2] at ko
        rw [sl_lists (split_half hr1 hr2)] at hp2
        refine ⟨_, rfl, p, _, rfl, .inl (SqL.of hp2), rfl, _, rfl, iteF ?_⟩
        refine ⟨_, rfl, _, rfl, p, _, _, _, rfl, rfl, SqL.of hp2, rfl, rfl, _, rfl, ?_⟩
        by_cases hr0 : r = []
        · subst hr0
          rw [show decide (V.str (pcS []) = V.str ("" : Str)) = true from decide_eq_true (by rw [pcS_nil])]
          refine iteT (iteT ?_)
          exact ⟨_, rfl, _, rfl, z, rfl, by omega, _, _, rfl, rfl, mk_err hn (by constructor <;> omega) (by decide +kernel) ko⟩
        · rw [pcS_ne hr0]
          refine iteF ⟨_, rfl, _, wz, _, rfl, rfl, kf.has wz, _, rfl, ?_⟩
          rw [inN]
          refine iteT ⟨_, rfl, p, _, rfl, .inl (SqL.of hp2), rfl, _, rfl, iteT ?_⟩
          exact ⟨_, rfl, _, rfl, z, rfl, by omega, _, _, rfl, rfl, mk_err hn (by constructor <;> omega) (by decide +kernel) ko⟩
      | some tt =>
        rw [hr2] at ko
        simp only at ko
        rw [sl_lists (split_two hr1 hr2), slw.symm] at hp2
        have tl : tt.length < r.length := by
          have := congrArg List.length (rest_some hr2)
          rw [List.length_append, List.length_cons] at this
          omega
        have vl : (wordF r).length ≤ r.length := (List.takeWhile_sublist _).length_le
        refine ⟨_, rfl, p, _, rfl, .inl (SqL.of hp2), rfl, _, rfl, iteF ?_⟩
        refine ⟨_, rfl, _, rfl, p, _, _, _, rfl, rfl, SqL.of hp2, rfl, rfl, _, rfl, ?_⟩
        by_cases ht0 : tt = []
        · rw [if_pos ht0] at ko
          subst ht0
          rw [show decide (V.str (pcS []) = V.str ("" : Str)) = true from decide_eq_true (by rw [pcS_nil])]
          refine iteT (iteT ?_)
          exact ⟨_, rfl, _, rfl, z, rfl, by omega, _, _, rfl, rfl, mk_err hn (by constructor <;> omega) (by decide +kernel) ko⟩
        rw [if_neg ht0] at ko
        rw [pcS_ne ht0]
        refine iteF ⟨_, rfl, _, wz, _, rfl, rfl, kf.has wz, _, rfl, ?_⟩
        rw [inN]
        refine iteT ⟨_, rfl, p, _, rfl, .inl (SqL.of hp2), rfl, _, rfl, iteF ?_⟩
        refine ⟨_, rfl, _, wz, _, rfl, rfl, kf.has wz, _, rfl, ?_⟩
        rw [inN]
        refine iteT ⟨_, rfl, _, rfl, p, _, _, _, rfl, rfl, SqL.of hp2, atI_nat (j := 1) rfl, _, rfl, _, rfl, pcS (wordF r), wz, n, rfl, hN, by rw [len_pcS]; omega, hn, fun k hk => ?_, fun hk => ?_⟩
        · rw [sl_pcS] at hk
          rw [hk] at ko
          refine ⟨_, rfl, p, _, _, _, rfl, rfl, SqL.of hp2, atI_nat (j := 2) rfl, _, rfl, _, rfl, pcS tt, z, n, rfl, by rw [len_pcS]; omega, hz, hn, fun hf H' s' => ?_, fun f hf => ?_⟩
          · refine ⟨(by show 3 ≤ sizeLine; decide), fun T2 hT2 => ?_⟩
            rw [sl_pcS] at hf
            simp only [fText, hf] at ko
            exact ko _ T2 (s'.trans (Same.new hT2)) (Sx.Same.none s' _ hT2) upd_same
          · rw [sl_pcS] at hf
            simp only [fText, hf] at ko
            rw [len_pcS]
            exact ko
        · rw [sl_pcS] at hk
          rw [hk] at ko
          exact ko
  have hP : wz = "head" ∨ wz = "par" := by
    rcases hK2 with h | h
    · exact h
    · exact absurd h hN
  have inN : decide (wz ∈ (["item", "note"] : List Str)) = false := decide_eq_false (by simpa using hN)
  rw [inN]
  refine iteF ⟨z, spS, 1, rfl, rfl, by decide +kernel, by decide, by decide, by omega, fun p hp => ?_⟩
  have s2 : Same H2 (upd H2 p (.lst ((Txt.splitMax z spS 1).map V.str))) := Same.new hp
  have hp2 := upd_at hp (.lst ((Txt.splitMax z spS 1).map V.str))
  have ko := ko.step s2
  generalize upd H2 p (.lst ((Txt.splitMax z spS 1).map V.str)) = H3 at s2 hp2 ko ⊢
  cases hr1 : restF (sl z) with
  | none =>
    rw [hr1] at ko
    rw [split_none hr1] at hp2
    refine ⟨_, rfl, p, _, rfl, .inl (SqL.of hp2), rfl, _, rfl, iteT (iteT ?_)⟩
    exact ⟨_, rfl, _, rfl, z, rfl, by omega, _, _, rfl, rfl, mk_err hn (by constructor <;> omega) (by decide +kernel) ko⟩
  | some r =>
    rw [hr1] at ko
    simp only at ko
    rw [if_neg hN] at ko
    have rl := rle r hr1
    rw [sl_lists (split_one hr1)] at hp2
    refine ⟨_, rfl, p, _, rfl, .inl (SqL.of hp2), rfl, _, rfl, iteF ?_⟩
    refine ⟨_, rfl, _, rfl, p, _, _, _, rfl, rfl, SqL.of hp2, rfl, rfl, _, rfl, ?_⟩
    by_cases hr0 : r = []
    · rw [if_pos hr0] at ko
      subst hr0
      rw [show decide (V.str (pcS []) = V.str ("" : Str)) = true from decide_eq_true (by rw [pcS_nil])]
      refine iteT (iteT ?_)
      exact ⟨_, rfl, _, rfl, z, rfl, by omega, _, _, rfl, rfl, mk_err hn (by constructor <;> omega) (by decide +kernel) ko⟩
    rw [if_neg hr0] at ko
    rw [pcS_ne hr0]
    refine iteF ⟨_, rfl, _, wz, _, rfl, rfl, kf.has wz, _, rfl, ?_⟩
    rw [inN]
    refine iteF (iteF ?_)
    refine ⟨_, rfl, _, wz, _, rfl, rfl, kf.has wz, _, rfl, ?_⟩
    rw [inN]
    refine iteF ⟨_, rfl, _, rfl, p, _, _, _, rfl, rfl, SqL.of hp2, atI_nat (j := 1) rfl, _, rfl, _, rfl, pcS r, z, n, rfl, by rw [len_pcS]; omega, hz, hn, fun hf H' s' => ?_, fun f hf => ?_⟩
    · refine ⟨(by show 2 ≤ sizeLine; decide), fun T2 hT2 => ?_⟩
      rw [sl_pcS] at hf
      simp only [fText, hf] at ko
      exact ko _ T2 (s'.trans (Same.new hT2)) (Sx.Same.none s' _ hT2) upd_same
    · rw [sl_pcS] at hf
      simp only [fText, hf] at ko
      rw [len_pcS]
      exact ko
end
end Sx

set_option Elab.async false
set_option linter.all false
set_option maxRecDepth 100000
set_option maxHeartbeats 4000000
namespace Sx
open PySem PySem.Spec PyProof.Rows L2 SxA SxK
def OkS (ws : List Str) : Prop := ∀ s, s ∈ ws → PyData.strOk s = true
def pStrs (ws : List Str) : PyData := .list (ws.map PyData.str)
theorem lay_strs : ∀ {ws : List Str}, OkS ws → PyData.canLayAll0 (ws.map PyData.str) = true
  | [], _ => by simp [PyData.canLayAll0]
  | x :: r, h => by
    have := lay_strs (ws := r) fun s hs => h s (List.mem_cons_of_mem _ hs)
    have hx := h x List.mem_cons_self
    simp [PyData.canLayAll0, PyData.canLay0, hx, this]
theorem dep_strs : ∀ ws : List Str, PyData.depthAll (ws.map PyData.str) ≤ 5
  | [] => by simp [PyData.depthAll]
  | x :: r => by
    have := dep_strs r
    simp [PyData.depthAll, PyData.depth]
    omega
theorem shaped_strs {ws : List Str} (h : OkS ws) : SeqAt.shaped (pStrs ws) = true := by
  have h1 := dep_strs ws
  unfold SeqAt.shaped pStrs
  simp [PyData.canLay0, PyData.depth, lay_strs h]
  omega
theorem dpAll_strs {K : PySem.W.Frag} {H : Hp} : ∀ ws : List Str, DpAll K H (ws.map V.str) (ws.map PyData.str)
  | [] => .nil
  | x :: r => .cons (.str x) (dpAll_strs r)
theorem dp_strs {K : PySem.W.Frag} {H : Hp} {p : Addr} {ws : List Str} (h : H p = some (.lst (ws.map V.str))) : Dp K H (.ref p) (pStrs ws) := .lst (SqL.of h) (dpAll_strs ws)
theorem eqS_nil {K : PySem.W.Frag} {H : Hp} {p q : Addr} {ws : List Str} {Q : VK} (h : OkS ws) (hp : H p = some (.lst (ws.map V.str))) (hq : H q = some (.lst [])) (k : Q (.bl (decide (ws = []))) H) : rEqD K (.ref p) (.ref q) H Q := by
  refine ⟨pStrs ws, .list [], dp_strs hp, .lst (SqL.of hq) .nil, shaped_strs h, rfl, ?_⟩
  cases ws <;> exact k
theorem neS_nil {K : PySem.W.Frag} {H : Hp} {p q : Addr} {ws : List Str} {Q : VK} (h : OkS ws) (hp : H p = some (.lst (ws.map V.str))) (hq : H q = some (.lst [])) (k : Q (.bl (!decide (ws = []))) H) : rNeD K (.ref p) (.ref q) H Q := by
  refine ⟨pStrs ws, .list [], dp_strs hp, .lst (SqL.of hq) .nil, shaped_strs h, rfl, ?_⟩
  cases ws <;> exact k
theorem neD_same {K : PySem.W.Frag} {H : Hp} {x y : V} {d : PyData} {Q : VK} (h1 : Dp K H x d) (h2 : Dp K H y d) (hs : SeqAt.shaped d = true) (he : PyData.eqv d d = true) (k : Q (.bl false) H) : rNeD K x y H Q := ⟨d, d, h1, h2, hs, hs, by rw [he]; exact k⟩
theorem eqS_self : ∀ ws : List Str, PyData.eqvAll (ws.map PyData.str) (ws.map PyData.str) = true
  | [] => by simp [PyData.eqvAll]
  | x :: r => by rw [List.map_cons, PyData.eqvAll, eqS_self r]; simp [PyData.eqv]
theorem pStrs_self (ws : List Str) : PyData.eqv (pStrs ws) (pStrs ws) = true := by unfold pStrs; rw [PyData.eqv]; exact eqS_self ws

def BkAt (H : Hp) (v : V) (b : Bk) : Prop := ∃ T, v = .ref T ∧ H T = some (.tup b.v)
theorem BkAt.same {H H' : Hp} {v : V} {b : Bk} (h : BkAt H v b) (s : Same H H') : BkAt H' v b := by
  obtain ⟨T, e, h⟩ := h
  exact ⟨T, e, s _ _ h⟩
def BksL (H : Hp) (l : Addr) (bs : List Bk) : Prop := ∃ vs, H l = some (.lst vs) ∧ vs.length = bs.length ∧ ∀ (i : Nat) v b, vs[i]? = some v → bs[i]? = some b → BkAt H v b
theorem BksL.same {H H' : Hp} {l : Addr} {bs : List Bk} (h : BksL H l bs) (s : Same H H') : BksL H' l bs := by
  obtain ⟨vs, h1, h2, h3⟩ := h
  exact ⟨vs, s _ _ h1, h2, fun i v b a c => (h3 i v b a c).same s⟩
def BookO (K : PySem.W.Frag) (H : Hp) (v : V) (bs : List Bk) : Prop := ∃ x dx l, v = .ref x ∧ H x = some (.ins (He.ga K "Book") dx [("blocks", .ref l)]) ∧ BksL H l bs
theorem BookO.same {K : PySem.W.Frag} {H H' : Hp} {v : V} {bs : List Bk} (h : BookO K H v bs) (s : Same H H') : BookO K H' v bs := by
  obtain ⟨x, dx, l, e, h1, h2⟩ := h
  exact ⟨x, dx, l, e, s _ _ h1, h2.same s⟩
/-! ### what read_book makes of lines -/
def signE (l : List Nat) : Option Nat := l.findIdx? fun c => !signB c
theorem signE_none {l : List Nat} (h : signE l = none) : ∀ c ∈ l, signB c = true := fun c hc => by
  have := (List.findIdx?_eq_none_iff.mp h) c hc
  simpa using this
theorem signE_some {l : List Nat} {i : Nat} (h : signE l = some i) : ∃ c, l[i]? = some c ∧ signB c = false ∧ ∀ j b : Nat, j < i → l[j]? = some b → signB b = true := by
  obtain ⟨hi, h1, h2⟩ := List.findIdx?_eq_some_iff_getElem.mp h
  refine ⟨l[i], List.getElem?_eq_getElem hi, by simpa using h1, fun j b hj hb => ?_⟩
  obtain ⟨hjl, e⟩ := List.getElem?_eq_some_iff.mp hb
  have := h2 j hj
  rw [e] at this
  simpa using this
inductive KR where
  | ok (bs : List Bk)
  | err (l c : Int) (w : Str)
def mBook : List Str → Nat → List Bk → KR
  | [], _, acc => .ok acc
  | z :: r, n, acc => match signE (sl z) with
    | some i => .err ((n : Int) + 1) ((i : Int) + 1) "sign"
    | none => match mBlock z ((n : Int) + 1) with
      | .ok b => mBook r (n + 1) (acc ++ [b])
      | .err c w => .err ((n : Int) + 1) c w
def mFull (ls : List Str) : KR := if ls = [] then .err 1 1 "end" else mBook ls 0 []
def KOut (K : PySem.W.Frag) (Q : VK) (E : XK) (H : Hp) : KR → Prop
  | .ok bs => ∀ v H', Same H H' → BookO K (fresh H H') v bs → Q v H'
  | .err l c w => Er K E H l c w
def spBookI (K : PySem.W.Frag) : Sp := fun vs H Q _ => ∃ (p dx l : Addr) (xs : List V), vs = [.ref p, .ref l] ∧ H p = some (.ins (He.ga K "Book") dx []) ∧ H l = some (.lst xs) ∧ ∀ H' l', H l' = none → H' p = some (.ins (He.ga K "Book") dx [("blocks", .ref l')]) → H' l' = some (.lst xs) → (∀ b o, H b = some o → b ≠ p → H' b = some o) → Q .non H'
def spRBook (K : PySem.W.Frag) : Sp := fun vs H Q E => ∃ z : Str, vs = [.str z] ∧ z.length ≤ 1000000 ∧ (100000 < z.length → ErTL K E H) ∧ (z.length ≤ 100000 → (∀ l ∈ linesL z, l.length ≤ 100000 ∧ PyData.strOk l = true) ∧ KOut K Q E H (mFull (linesL z)))
section
variable {P : Program} {w : World} {K : PySem.W.Frag} {mg : Str → Option Value} {base : Heap}
abbrev psBook : List Str := ["self", "blocks"]
theorem scBook : FnScope psBook psBook (defScope sBookInit) := ⟨rfl, rfl, rfl, by decide +kernel, rfl, by decide +kernel, by decide +kernel⟩
theorem ok_bookI (t : T K mg) : ∃ fd, FnOk P w K mg base CX0 1 (He.ma K (He.ga K "Book") "__init__") fd psBook (spBookI K) ∧ Binds K fd psBook [] := by
  obtain ⟨fd, F⟩ := t.d_Book_init
  refine ⟨fd, F.ok scBook (fun vs H Q E h => ?_) (fun cdv A outer s H vs Q E hr h => ?_), F.bindsN fun _ _ _ _ _ _ us hl => match us, hl with | [_, _], _ => rfl⟩
  · obtain ⟨p, dx, l, xs, rfl, _⟩ := h; rfl
  obtain ⟨p, dx, l, xs, rfl, hp, hl, k⟩ := h
  refine ⟨_, PSs.nox (pss_one (ps_fld (pv 0) (pe_callTy call_list_of rfl t.f_list (by decide +kernel) (pa_cons (pv 1) pa_nil)) rfl)), ?_⟩
  have npl : l ≠ p := ne_of hl hp (by intro z; cases z)
  refine ⟨_, rfl, l, xs, rfl, .inl (SqL.of hl), fun l' hl' => ?_⟩
  have nlp : l' ≠ p := fun e => by rw [e, hp] at hl'; cases hl'
  refine ⟨_, rfl, p, _, dx, [], rfl, by rw [upd_ne nlp.symm]; exact hp, t.c_Book, t.n_Book_blocks, (by decide), ?_⟩
  refine k _ l' hl' ?_ ?_ fun b o e ne => ?_
  · rw [upd_same, put_new "blocks" _ [] (by simp)]; rfl
  · rw [upd_ne nlp]; exact upd_same
  · rw [upd_ne ne, upd_ne (ne_of_none e hl')]; exact e
abbrev nsRBook : List Str := ["text", "lines", "blocks", "number", "line"]
theorem scRBook : FnScope nsRBook ["text"] (defScope sReadBook) := ⟨rfl, rfl, rfl, by decide +kernel, rfl, by decide +kernel, by decide +kernel⟩
theorem ok_rbook (t : T K mg) (kf : KF K w) (er : ErrC P K mg xTextError) (el : ErrC P K mg xTooLarge) : OkX P w K mg base 6 "read_book" ["text"] (spRBook K) := by
  obtain ⟨k1', m1⟩ := t.i_MOST_BOOK_CHARACTERS
  obtain ⟨fdB, FB, bB⟩ := ok_bookI (P := P) (w := w) (base := base) t
  refine mkOkX t.d_read_book t.g_read_book scRBook (fun vs H Q E h => ?_) (fun _ _ _ _ _ _ us hl => match us, hl with | [_], _ => rfl) fun cdv A outer s H vs Q E hr h => ?_
  · obtain ⟨z, rfl, _⟩ := h; rfl
  obtain ⟨z, rfl, hz6, hbig, hsm⟩ := h
  refine ⟨_, pss_cons (ps_if (pt_cmpR op_gt (pe_callB call_len_str rfl t.f_len boot_len (pa_cons (pv 0) pa_nil)) (pgi rfl m1) (nomark _))
      (pss_one (ps_raise rfl (takes_of rfl rfl rfl rfl) (pmk_tl (k := 0) el (hr.mono (by decide)) rfl (pa_cons pe_str pa_nil))))
      pss_nil)
    (pss_cons (ps_set (i := 1) scRBook.nd rfl (Or.inl rfl) (pe_ok (ok_linesOf t) (hr.mono (by decide)) rfl (pa_cons (pv 0) pa_nil)))
    (pss_cons (ps_if (pt_cmpR (op_eqD (hu64 hr)) (pv 1) (pe_lst pa_nil) (nomark _))
      (pss_one (ps_raise rfl (takes_of rfl rfl rfl rfl) (pmk_text (k := 0) t er (hr.mono (by decide)) rfl (pa_cons pe_int (pa_cons pe_int (pa_cons pe_str pa_nil))))))
      pss_nil)
    (pss_cons (ps_set (i := 2) scRBook.nd rfl (Or.inl rfl) (pe_lst pa_nil))
    (pss_cons (ps_for (passes_of rfl) rfl (pi_enumS rfl t.f_enumerate (pa_cons (pv 1) pa_nil) (pk_cons pe_int pk_nil)) (pg_tup rfl (pgs_cons (pg_name (i := 3) scRBook.nd rfl (Or.inl rfl)) (pgs_cons (pg_name (i := 4) scRBook.nd rfl (Or.inl rfl)) pgs_nil)))
      (pss_cons (ps_expr (pe_okX (ok_check t er) (hr.mono (by decide)) rfl (takes_of rfl rfl rfl rfl) (pa_cons (pv 4) (pa_cons (pv 3) pa_nil))))
    (pss_one (ps_expr (pe_bm PySem.F.plainAttrs_list PySem.F.slot_list_append PySem.F.type_list_append mt_append (pv 2) (pa_cons (pe_okX (ok_rblock t kf er) hr rfl (takes_of rfl rfl rfl rfl) (pa_cons (pv 4) (pa_cons (pv 3) pa_nil))) pa_nil))))))
    (pss_one (ps_ret (pe_make t.m_Book FB (hr.mono (by decide)) rfl t.g_Book bB .nil pass0 (pa_cons (pv 2) pa_nil)))))))), ?_⟩
  refine ⟨_, rfl, z, rfl, big6' hz6, _, _, rfl, rfl, _, rfl, ?_⟩
  refine ite2 (fun h1 => ?_) (fun h1 => ?_)
  · have : (z.length : Int) > 100000 := of_decide_eq_true h1
    exact mk_tl (by decide +kernel) (hbig (by omega))
  have hz : z.length ≤ 100000 := by
    have h2 : ¬ ((z.length : Int) > 100000) := fun q => h1 (decide_eq_true q)
    omega
  obtain ⟨hl, hO⟩ := hsm hz
  have lz : (linesL z).length ≤ 100002 := by
    have h9 := PyProof.Rows.split_le z nlS
    unfold linesL cutL
    split
    · rw [List.length_dropLast]; omega
    · omega
  refine ⟨_, rfl, z, rfl, (Nat.le_trans (show z.length + 2 ≤ 130000 by omega) (by decide)), fun H1 L s1 hL0 hL => ?_⟩
  generalize linesL z = ls at hL hl hO lz ⊢
  refine ⟨_, rfl, (by show 0 ≤ sizeLine; decide), fun N hN => ?_⟩
  have s2 : Same H1 (upd H1 N (.lst [])) := Same.new hN
  refine eqS_nil (ws := ls) (fun l hm => (hl l hm).2) (s2 _ _ hL) upd_same ⟨_, rfl, ?_⟩
  unfold mFull at hO
  by_cases h0 : ls = []
  · rw [decide_eq_true h0]
    rw [if_pos h0] at hO
    refine iteT (mk_err (by decide) (by decide) (by decide +kernel) ?_)
    exact Er.same hO (s1.trans s2)
  rw [decide_eq_false h0]
  rw [if_neg h0] at hO
  refine iteF ⟨(by show 0 ≤ sizeLine; decide), fun R hR => ?_⟩
  have s12 : Same H (upd H1 N (.lst [])) := s1.trans s2
  have hLN := s2 _ _ hL
  generalize upd H1 N (.lst []) = H2 at s2 s12 hLN hR ⊢
  have R0 : H R = none := Sx.Same.none s12 _ hR
  have LR' : L ≠ R := ne_of_none hLN hR
  have s3 : Same H (upd H2 R (.lst [])) := s12.trans (Same.new hR)
  refine ⟨_, rfl, L, ls.map V.str, rfl, rfl, SqL.of (by rw [upd_ne LR']; exact hLN), ?_⟩
  refine for_enumS (K := K) (a := L) (xs := ls.map V.str) (fun i σ' H' => ∃ (acc : List Bk) (x3 x4 : Option V), σ' = [some (V.str z), some (V.ref L), some (V.ref R), x3, x4] ∧ Same H H' ∧ H' L = some (.lst (ls.map V.str)) ∧ BksL (fresh H H') R acc ∧ acc.length = i ∧ KOut K Q E H (mBook (ls.drop i) i acc))
    ⟨[], none, none, rfl, s3, by rw [upd_ne LR']; exact hLN, ⟨[], by rw [fresh_of R0]; exact upd_same, rfl, fun i v b h => by cases h⟩, rfl, hO⟩ (fun i σ' H' _ ⟨_, _, _, _, _, q, _⟩ => SqL.of q) ?_ ?_
  · rintro i v T σ' H' hv ⟨acc, x3, x4, rfl, sm, hL2, hR2, al, hO2⟩ hT
    rw [List.getElem?_map] at hv
    obtain ⟨l, hl1, rfl⟩ := Option.map_eq_some_iff.mp hv
    have il : i < ls.length := (List.getElem?_eq_some_iff.mp hl1).1
    have ed : ls.drop i = l :: ls.drop (i + 1) := by
      obtain ⟨hlt, he⟩ := List.getElem?_eq_some_iff.mp hl1
      rw [List.drop_eq_getElem_cons hlt, he]
    rw [ed] at hO2
    have ll := (hl l (List.mem_of_getElem? hl1)).1
    have s1T : Same H' (upd H' T (.tup [.int ((i + 1 : Nat) : Int), .str l])) := Same.new hT
    have smT := sm.trans s1T
    have hLT := s1T _ _ hL2
    have up : ∀ {Ha Hb : Hp}, Same Ha Hb → Same (fresh H Ha) (fresh H Hb) := fun {Ha Hb} s => fresh_up (fun b hb => hb) s
    have hRT := hR2.same (up s1T)
    refine ⟨T, _, rfl, SqT.of upd_same, rfl, _, _, rfl, _, _, rfl, rfl, ?_⟩
    generalize upd H' T (.tup [.int ((i + 1 : Nat) : Int), .str l]) = H3 at s1T smT hLT hRT ⊢
    have ei : ((i + 1 : Nat) : Int) = (i : Int) + 1 := by omega
    rw [ei]
    unfold mBook at hO2
    have hnn : 0 ≤ (i : Int) + 1 ∧ (i : Int) + 1 < 10 ^ 10 := by constructor <;> omega
    refine ⟨_, rfl, _, rfl, l, _, rfl, hnn, by omega, fun good H4 s4 => ?_, fun j c hj hb hg => ?_⟩
    · have e0 : signE (sl l) = none := by
        cases q : signE (sl l) with
        | none => rfl
        | some j =>
          obtain ⟨c, h1, h2, _⟩ := signE_some q
          rw [good c (List.mem_of_getElem? h1)] at h2
          cases h2
      rw [e0] at hO2
      have sm4 := smT.trans s4
      have hR4 := hRT.same (up s4)
      obtain ⟨vs, r1, r2, r3⟩ := hR4
      have r1' := (fresh_some r1).2
      refine ⟨_, rfl, .inl ⟨rfl, _, SqL.of r1'⟩, ?_⟩
      refine ⟨_, rfl, _, rfl, l, _, rfl, by omega, hnn, ?_⟩
      cases em : mBlock l ((i : Int) + 1) with
      | ok b =>
        rw [em] at hO2
        intro H5 T2 s5 nT2 hT2
        have T20 : H T2 = none := Sx.Same.none sm4 _ nT2
        have r5 := s5 _ _ r1'
        have nTR : T2 ≠ R := ne_of hT2 r5 (by intro z; cases z)
        refine ⟨R, vs, .ref T2, rfl, rfl, r5, Nat.lt_of_le_of_lt (show vs.length ≤ 100002 by omega) (by decide), ⟨acc ++ [b], _, _, rfl, Same.put (sm4.trans s5) R0, ?_, ⟨vs ++ [.ref T2], by rw [fresh_of R0]; exact upd_same, by rw [List.length_append, List.length_append, r2]; rfl, fun k v b' a c => ?_⟩, by rw [List.length_append, al]; rfl, hO2⟩⟩
        · rw [upd_ne LR']
          exact s5 _ _ (s4 _ _ hLT)
        · by_cases hk : k < vs.length
          · rw [List.getElem?_append_left hk] at a
            rw [List.getElem?_append_left (by omega)] at c
            obtain ⟨U, eU, hU⟩ := r3 k v b' a c
            obtain ⟨u1, u2⟩ := fresh_some hU
            refine ⟨U, eU, ?_⟩
            rw [fresh_of u1, upd_ne (ne_of u2 r1' (by intro z; cases z))]
            exact s5 _ _ u2
          · rw [List.getElem?_append_right (by omega)] at a c
            have z0 : k - vs.length = 0 := by
              have := (List.getElem?_eq_some_iff.mp a).1
              rw [List.length_singleton] at this
              omega
            rw [z0] at a
            rw [← r2, z0] at c
            cases a
            cases c
            exact ⟨T2, rfl, by rw [fresh_of T20, upd_ne nTR]; exact hT2⟩
      | err c w' =>
        rw [em] at hO2
        exact Er.same hO2 sm4
    · have e0 : signE (sl l) = some j := by
        cases q : signE (sl l) with
        | none => rw [signE_none q c (List.mem_of_getElem? hj)] at hb; cases hb
        | some j2 =>
          obtain ⟨c2, h1, h2, h3⟩ := signE_some q
          rcases Nat.lt_trichotomy j j2 with q | q | q
          · rw [h3 j c q hj] at hb; cases hb
          · rw [q]
          · rw [hg j2 c2 q h1] at h2; cases h2
      rw [e0] at hO2
      exact Er.same hO2 smT
  · rintro σ' H' ⟨acc, x3, x4, rfl, sm, hL2, ⟨vs, r1, r2, r3⟩, al, hO2⟩
    rw [List.length_map, List.drop_length] at hO2
    have r1' := (fresh_some r1).2
    refine ⟨_, rfl, fun x dx hx hdx nex => ?_⟩
    have s4 : Same H' (upd (upd H' dx (.own x)) x (.ins (He.ga K "Book") dx [])) := fun b o e => by
      rw [upd_ne (ne_of_none e hx), upd_ne (ne_of_none e hdx)]
      exact e
    refine ⟨x, dx, R, vs, rfl, upd_same, s4 _ _ r1', fun H5 l' hl' h1 h2 fr => ⟨rfl, ?_⟩⟩
    have s5 : Same H' H5 := Same.made hx hdx fr
    have hl0 : H l' = none := Sx.Same.none (sm.trans s4) _ hl'
    refine hO2 _ H5 (sm.trans s5) ⟨x, dx, l', rfl, ?_, vs, ?_, r2, fun k v b a c => ?_⟩
    · rw [fresh_of (Sx.Same.none sm _ hx)]
      exact h1
    · rw [fresh_of hl0]
      exact h2
    · obtain ⟨U, eU, hU⟩ := r3 k v b a c
      obtain ⟨u1, u2⟩ := fresh_some hU
      exact ⟨U, eU, by rw [fresh_of u1]; exact s5 _ _ u2⟩
end
end Sx

set_option Elab.async false
set_option linter.all false
set_option maxRecDepth 100000
set_option maxHeartbeats 4000000
namespace Sx
open PySem PySem.Spec PyProof.Rows L2 SxA SxK
abbrev Row := Str × Int × Str
theorem pe_ok0 {X : Cx} {k : Nat} {x : Str} {sp : Sp} {p pos : Pos} (o : Ok X.prog X.w X.K X.mg X.base k x [] sp) (hr : Room k X.A) (hg : Gl X x) (hdb : (x == ("__debug__" : Str)) = false := by decide) :
    PE X (.Call (.Name x p) [] [] pos) (tCall sp [] E0 tNil) := by
  obtain ⟨fd, F, b, kp, hm⟩ := o
  exact pe_call0 F hr hg hm kp b .nil pass0 hdb
abbrev tJoinK (K : PySem.W.Frag) (to te : TE) : TE := tM1 (fun x xs H Q => ∃ a p, ∃ ys : List Str, x = .str a ∧ xs = [.ref p] ∧ (SqL K H p (ys.map V.str) ∨ SqT K H p (ys.map V.str)) ∧ (ys.map (·.length)).sum + ys.length * a.length ≤ 16777216 ∧ Q (.str (Txt.join a ys)) H) to te
/-- what _law_told tells of a text -/
def ToldR (Q : VK) (H : Hp) : KR → Prop
  | .ok _ => ∀ H', Same H H' → Q .non H'
  | .err l c w => ∀ H' T, Same H H' → ErT H' T l c w → Q (.ref T) H'
def spTold (K : PySem.W.Frag) : Sp := fun vs H Q _ => ∃ (a : Addr) (ls : List Str), vs = [.ref a] ∧ SqL K H a (ls.map V.str) ∧ ls.length ≤ 300 ∧ (∀ l ∈ ls, l.length ≤ 20000 ∨ ls.length ≤ 2 ∧ l.length ≤ 200000) ∧ ∃ z : Str, z = Txt.join nlS ls ∧ z.length ≤ 1000000 ∧ (100000 < z.length → ∀ H', Same H H' → Q (.str "text") H') ∧
  (z.length ≤ 100000 → (∀ l ∈ linesL z, l.length ≤ 100000 ∧ PyData.strOk l = true) ∧ ToldR Q H (mFull (linesL z)))
section
variable {P : Program} {w : World} {K : PySem.W.Frag} {mg : Str → Option Value} {base : Heap}
abbrev nsTold : List Str := ["lines", "error"]
theorem erL (l c : Int) (r : Str) : (erD l c r).lookup ("line" : Str) = some (.int l) := rfl
theorem erC (l c : Int) (r : Str) : (erD l c r).lookup ("column" : Str) = some (.int c) := rfl
theorem erR (l c : Int) (r : Str) : (erD l c r).lookup ("reason" : Str) = some (.str r) := rfl
end
abbrev rowV (r : Row) : List V := [.str r.1, .int r.2.1, .str r.2.2]
def RowsP (H : Hp) (ps : List Addr) (rs : List Row) : Prop := ps.length = rs.length ∧ ∀ (i : Nat) (p : Addr) (r : Row), ps[i]? = some p → rs[i]? = some r → H p = some (.tup (rowV r))
theorem RowsP.nil (H : Hp) : RowsP H [] [] := ⟨rfl, fun i p r h => by simp at h⟩
theorem RowsP.same {H H' : Hp} {ps : List Addr} {rs : List Row} (h : RowsP H ps rs) (s : Same H H') : RowsP H' ps rs := ⟨h.1, fun i p r a b => s _ _ (h.2 i p r a b)⟩
theorem RowsP.add {H : Hp} {p : Addr} {ps : List Addr} {rs : List Row} (h : RowsP H ps rs) (hp : H p = none) (r : Row) : RowsP (upd H p (.tup (rowV r))) (ps ++ [p]) (rs ++ [r]) := by
  refine ⟨by rw [List.length_append, List.length_append, h.1]; rfl, fun i q r' e1 e2 => ?_⟩
  by_cases c : i < ps.length
  · rw [List.getElem?_append_left c] at e1
    rw [List.getElem?_append_left (by rw [← h.1]; exact c)] at e2
    exact Same.new hp _ _ (h.2 i q r' e1 e2)
  · rw [List.getElem?_append_right (by omega)] at e1
    rw [List.getElem?_append_right (by rw [← h.1]; omega), ← h.1] at e2
    have z : i - ps.length = 0 := by
      have := (List.getElem?_eq_some_iff.mp e1).1
      rw [List.length_singleton] at this
      omega
    rw [z] at e1 e2
    cases e1
    cases e2
    exact upd_same
theorem RowsP.app {H : Hp} {ps qs : List Addr} {rs ts : List Row} (h : RowsP H ps rs) (g : RowsP H qs ts) : RowsP H (ps ++ qs) (rs ++ ts) := by
  refine ⟨by rw [List.length_append, List.length_append, h.1, g.1], fun i q r' e1 e2 => ?_⟩
  by_cases c : i < ps.length
  · rw [List.getElem?_append_left c] at e1
    rw [List.getElem?_append_left (by rw [← h.1]; exact c)] at e2
    exact h.2 i q r' e1 e2
  · rw [List.getElem?_append_right (by omega)] at e1
    rw [List.getElem?_append_right (by rw [← h.1]; omega), ← h.1] at e2
    exact g.2 _ q r' e1 e2
theorem addL {a b : Str} {n m : Nat} (h : a.length ≤ n) (hb : b.length ≤ m) (hn : n + m ≤ 1000) : a.length + b.length ≤ sizeLine := by
  have : 1000 ≤ sizeLine := by decide
  omega
theorem addNN {a b : Str} {n m : Nat} (h : a.length ≤ n) (hb : b.length ≤ m) : (a ++ b).length ≤ n + m := by rw [len_app]; omega
def spRows3 (rs : List Row) : Sp := fun vs H Q _ => vs = [] ∧ ∀ (R : Addr) H' (ps : List Addr), Same H H' → H R = none → H' R = some (.lst (ps.map V.ref)) → RowsP H' ps rs → Q (.ref R) H'
theorem RowsP.one {H : Hp} {p : Addr} (hp : H p = none) (r : Row) : RowsP (upd H p (.tup (rowV r))) [p] [r] := (RowsP.nil H).add hp r
theorem fold_size (c : Nat) : ∀ (m : Nat) (acc : Array Nat), ((List.replicate m #[c]).foldl (· ++ ·) acc).size = acc.size + m
  | 0, acc => rfl
  | m + 1, acc => by
    rw [List.replicate_succ, List.foldl_cons, fold_size c m, Array.size_append]
    show acc.size + 1 + m = _
    omega
theorem fold_list (c : Nat) : ∀ (m : Nat) (acc : Array Nat), ((List.replicate m #[c]).foldl (· ++ ·) acc).toList = acc.toList ++ List.replicate m c
  | 0, acc => by simp
  | m + 1, acc => by
    rw [List.replicate_succ, List.foldl_cons, fold_list c m, List.replicate_succ]
    simp
theorem mul_rep {c : Nat} {n : Int} (h : 2 ≤ n) : Txt.mul (sg c) n = pcS (List.replicate n.toNat c) := by
  have h1 : ¬ n < 1 := by omega
  have h2 : ¬ ((n == 1 || (sg c).length == 0) = true) := by
    have e : (sg c).length = 1 := rfl
    rw [e]
    simp
    omega
  refine sl_ext ?_
  rw [sl_pcS]
  unfold Txt.mul
  rw [if_neg h1, if_neg h2]
  show ((List.replicate n.toNat #[c]).foldl (· ++ ·) (#[] : Array Nat)).toList = _
  rw [fold_list]
  rfl
theorem mul_ok {c : Nat} {n : Int} (h : 2 ≤ n) (h2 : n ≤ 1000000) : MulOk (sg c) n := by
  have e : (sg c).length = 1 := rfl
  refine ⟨?_, fun _ _ => ?_, fun _ _ => ?_⟩
  · rw [decide_eq_false (by omega), decide_eq_false (by omega)]; rfl
  · rw [e]
    have : (1000000 : Int) ≤ (2 ^ 63 - 1) / n := by
      have : n * 1000000 ≤ 2 ^ 63 - 1 := by omega
      exact Int.le_ediv_of_mul_le (by omega) (by omega)
    omega
  · rw [e]
    have big : 1000000 ≤ sizeLine := by decide
    refine decide_eq_false ?_
    omega
theorem c0v {sp : Sp} {Q : VK} {E : XK} {σ : L2.St} {H : Hp} (h : sp [] H Q E) : (tNil : TA) σ H fun xs H2 => sp (xs ++ []) H2 Q E := h
theorem cutTake (xs : List V) (n : Nat) : cutV xs none (some ((n : Nat) : Int)) = xs.take n := by
  have e1 : HT.sIx xs.length 0 (Option.none) = 0 := rfl
  have e2 : HT.sIx xs.length xs.length (some (n : Int)) = min n xs.length := HT.sIx_nat _ _ _
  unfold cutV
  rw [e1, e2, List.drop_zero, Nat.sub_zero]
  by_cases c : n ≤ xs.length
  · rw [Nat.min_eq_left c]
  · rw [Nat.min_eq_right (by omega), List.take_length, List.take_of_length_le (by omega)]
theorem flat_one (x : V) : ∀ n : Nat, (List.replicate n [x]).flatten = List.replicate n x
  | 0 => rfl
  | n + 1 => by rw [List.replicate_succ, List.flatten_cons, flat_one x n, List.replicate_succ]; rfl
theorem c1v {sp : Sp} {a : V} {Q : VK} {E : XK} {σ : L2.St} {H : Hp} (h : sp [a] H Q E) : (tNil : TA) σ H fun xs H2 => (fun vs H1 => sp (vs ++ []) H1 Q E) (a :: xs) H2 := h
/-- a told error compared -/
theorem ne_er {K : PySem.W.Frag} {H : Hp} {T U : Addr} {l c : Int} {w : Str} {Q : VK} (h1 : ErT H T l c w) (h2 : ErT H U l c w) (hw : PyData.strOk w = true) (k : Q (.bl false) H) : rNeD K (.ref T) (.ref U) H Q :=
  ⟨_, _, dp_er h1, dp_er h2, shaped_er l c hw, shaped_er l c hw, by rw [eqv_er]; exact k⟩
theorem eq_er {K : PySem.W.Frag} {H : Hp} {T U : Addr} {l c : Int} {w : Str} {Q : VK} (h1 : ErT H T l c w) (h2 : ErT H U l c w) (hw : PyData.strOk w = true) (k : Q (.bl true) H) : rEqD K (.ref T) (.ref U) H Q :=
  ⟨_, _, dp_er h1, dp_er h2, shaped_er l c hw, shaped_er l c hw, by rw [eqv_er]; exact k⟩
end Sx

set_option Elab.async false
set_option linter.all false
set_option maxRecDepth 100000
set_option maxHeartbeats 2000000
namespace Sx
open PySem PySem.Spec PyProof.Rows L2 SxA SxK
def txL : List Nat := [97, 98, 32, 32, 126, 94, 36]
/-- no space ahead of the first sign or behind another space -/
def SpOk (l : List Nat) : Prop := ∀ j, l[j]? = some 32 → j ≠ 0 ∧ l[j - 1]? ≠ some 32
structure GoodTx (t : Str) : Prop where
  ne : sl t ≠ []
  short : (sl t).length ≤ 20
  sign : ∀ c ∈ sl t, c ∈ txL
  sp : SpOk (sl t)
  last : (sl t).getLast? ≠ some 32
theorem GoodTx.fine {t : Str} (g : GoodTx t) : faultF (sl t) = none := by
  refine find_no fun j hj => ?_
  have hs := g.short
  unfold faultB spareB
  rw [decide_eq_false (show ¬ j = 400 by omega), Bool.false_or]
  by_cases h : (sl t)[j]? = some 32
  · obtain ⟨a, b⟩ := g.sp j h
    have c : ¬ j + 1 = (sl t).length := fun e => g.last (by
      rw [List.getLast?_eq_getElem?, show (sl t).length - 1 = j by omega]
      exact h)
    rw [decide_eq_false a, decide_eq_false b, decide_eq_false c]
    simp
  · rw [decide_eq_false h]
    rfl
theorem atI_last {α : Type} {xs : List α} {x : α} : atI (xs ++ [x]) (-1) = some x := by
  have e : ixN (xs ++ [x]).length (-1) = some xs.length := by
    unfold ixN
    rw [List.length_append, if_neg (by decide)]
    show (if _ then _ else _) = _
    rw [if_pos (by show -((xs.length + 1 : Nat) : Int) ≤ -1; omega)]
    congr 1
    show ((-1 : Int) + ((xs.length + 1 : Nat) : Int)).toNat = _
    omega
  unfold atI
  rw [e]
  show (xs ++ [x])[xs.length]? = some x
  rw [List.getElem?_append_right (Nat.le_refl _), Nat.sub_self]
  rfl
theorem last_split {l : List Nat} (h : l ≠ []) : ∃ l0 c, l = l0 ++ [c] := ⟨l.dropLast, l.getLast h, (List.dropLast_concat_getLast h).symm⟩
theorem cut_last {z : Str} {l0 : List Nat} {c : Nat} (h : sl z = l0 ++ [c]) : sl (cutS z none (some (-1))) = l0 := by
  have zl : z.length = l0.length + 1 := by rw [sl_len, h, List.length_append]; rfl
  have e1 : HT.sIx z.length z.length (some (-1)) = l0.length := by
    show (if (-1 : Int) < 0 then ((-1 : Int) + (z.length : Int)).toNat else min ((-1 : Int)).toNat z.length) = _
    rw [if_pos (by decide), zl]
    omega
  unfold cutS
  rw [e1]
  show ((List.drop 0 (sl z)).take (l0.length - 0)) = _
  rw [List.drop_zero, Nat.sub_zero, h, List.take_left]
theorem SpOk.snoc {l : List Nat} {c : Nat} (h : SpOk l) (hc : c = 32 → l ≠ [] ∧ l.getLast? ≠ some 32) : SpOk (l ++ [c]) := by
  intro j hj
  by_cases q : j < l.length
  · rw [List.getElem?_append_left q] at hj
    obtain ⟨a, b⟩ := h j hj
    refine ⟨a, ?_⟩
    rw [List.getElem?_append_left (by omega)]
    exact b
  · have hj2 := (List.getElem?_eq_some_iff.mp hj).1
    rw [List.length_append, List.length_singleton] at hj2
    have e : j = l.length := by omega
    subst e
    rw [List.getElem?_append_right (Nat.le_refl _), Nat.sub_self] at hj
    obtain ⟨a, b⟩ := hc (Option.some.inj hj)
    have pos : 0 < l.length := List.length_pos_iff.mpr a
    refine ⟨by omega, ?_⟩
    rw [List.getElem?_append_left (by omega), ← List.getLast?_eq_getElem?]
    exact b
theorem SpOk.cut {l0 : List Nat} {c : Nat} (h : SpOk (l0 ++ [c])) : SpOk l0 := fun j hj => by
  have q := (List.getElem?_eq_some_iff.mp hj).1
  obtain ⟨a, b⟩ := h j (by rw [List.getElem?_append_left q]; exact hj)
  rw [List.getElem?_append_left (by omega)] at b
  exact ⟨a, b⟩
theorem eq_sp (c : Nat) : decide (V.str (⟨#[c]⟩ : Str) = V.str (Str.ofString " ")) = decide (c = 32) := by
  rw [decide_eq_decide]
  have es : Str.ofString " " = (⟨#[32]⟩ : Str) := by decide +kernel
  rw [es]
  constructor
  · intro h
    have h2 := congrArg (fun s : Str => s.cps.toList) (V.str.inj h)
    have h3 : [c] = [32] := h2
    exact (List.cons.inj h3).1
  · intro h; rw [h]
def spLText : Sp := fun vs H Q _ => ∃ (a L : Addr) (m : Int), vs = [.ref a, .int m] ∧ St H a L ∧ 1 ≤ m ∧ m ≤ 19 ∧ ∀ x H', GoodTx x → St H' a L → But a H H' → Q (.str x) H'
section
variable {P : Program} {w : World} {K : PySem.W.Frag} {mg : Str → Option Value} {base : Heap}
abbrev nsLText : List Str := ["state", "most", "text", "_law_turn", "sign"]
theorem scLText : FnScope nsLText ["state", "most"] (defScope sLawText) := ⟨rfl, rfl, rfl, by decide +kernel, rfl, by decide +kernel, by decide +kernel⟩
theorem ok_ltext (t : T K mg) : Ok P w K mg base 2 "_law_text" ["state", "most"] spLText := by
  refine mkOk t.d_law_text t.g_law_text scLText (fun vs H Q E h => ?_) (fun _ _ _ _ _ _ us hl => match us, hl with | [_, _], _ => rfl) fun cdv A outer s H vs Q E hr h => ?_
  · obtain ⟨a, L, m, rfl, _⟩ := h; rfl
  obtain ⟨a, L, m, rfl, hS, m1, m2, k⟩ := h
  refine ⟨_, pss_cons (ps_set (i := 2) scLText.nd rfl (Or.inl rfl) pe_str)
    (pss_cons (ps_for PassesOwn.never rfl (pi_range1 rfl t.f_range (pa_cons (pe_op op_add pe_int (pe_ok (ok_draw t) hr rfl (pa_cons (pv 0) (pa_cons (pv 1) pa_nil)))) pa_nil)) (pg_name (i := 3) scLText.nd rfl (Or.inl rfl))
      (pss_cons (ps_set (i := 4) scLText.nd rfl (Or.inl rfl) (pe_ix ix_str pe_str (pe_ok (ok_draw t) hr rfl (pa_cons (pv 0) (pa_cons pe_int pa_nil))) (fun _ _ => rfl)))
    (C8.pss_cut (ps_if (PW.pt (pw_and (pt_cmpR op_eq (pv 4) pe_str (nomark _)) (pw_and1 (PW.pt (pw_or (pt_cmpR op_eq (pv 2) pe_str (nomark _)) (pw_or1 (pt_cmpR op_eq (pe_ix ix_str (pv 2) (pe_un un_neg pe_int) (fun _ _ => rfl)) pe_str (nomark _))))))))
      (pss_one (ps_set (i := 4) scLText.nd rfl (Or.inl rfl) pe_str))
      pss_nil)
    (pss_one (ps_set (i := 2) scLText.nd rfl (Or.inl rfl) (pe_op op_add_str (pv 2) (pv 4)))))))
    (C8.pss_cut (ps_if (pt_cmpR op_eq (pe_ix ix_str (pv 2) (pe_un un_neg pe_int) (fun _ _ => rfl)) pe_str (nomark _))
      (pss_one (ps_set (i := 2) scLText.nd rfl (Or.inl rfl) (pe_op op_add_str (pe_slice sl_str (pv 2) po_none (po_some (pe_un un_neg pe_int))) pe_str)))
      pss_nil)
    (pss_one (ps_ret (pv 2))))), ?_⟩
  refine ⟨_, rfl, _, rfl, a, L, m, rfl, hS, by omega, by omega, fun v H1 v0 v1 S1 B1 => ?_⟩
  refine ⟨_, _, rfl, rfl, _, rfl, by omega, by omega, ?_⟩
  have eE : sl (Str.ofString "ab  ~^$") = txL := by decide +kernel
  refine for_range (lo := 0) (n := (1 + v).toNat) (fun i σ' H' => (∃ (x : Str) (o3 o4 : Option V), σ' = [some (.ref a), some (.int m), some (.str x), o3, o4] ∧ (sl x).length = i ∧ (∀ c ∈ sl x, c ∈ txL) ∧ SpOk (sl x)) ∧ St H' a L ∧ But a H H') ⟨⟨Str.ofString "", none, none, rfl, by decide +kernel, fun c hc => (by rw [sl_mt] at hc; cases hc), fun j hj => (by rw [sl_mt] at hj; cases hj)⟩, S1, B1⟩ ?_ ?_
  · rintro i σ' H' hi ⟨⟨x, o3, o4, rfl, xl, hx, sx⟩, S2, B2⟩
    refine ⟨_, rfl, a, L, 7, rfl, S2, by decide, by decide, fun u H3 u0 u1 S3 B3 => ?_⟩
    have hu : u.toNat < txL.length := by show u.toNat < 7; omega
    refine ⟨Str.ofString "ab  ~^$", u, txL[u.toNat], rfl, rfl, by decide +kernel, by rw [show (Str.ofString "ab  ~^$").cps.toList = txL from eE]; exact RZat hu u0, ?_⟩
    have hc : txL[u.toNat] ∈ txL := List.getElem_mem hu
    generalize txL[u.toNat] = c at hc
    refine ⟨fun σ2 H4 => (∃ (c : Nat) (o3 : Option V), σ2 = [some (.ref a), some (.int m), some (.str x), o3, some (.str (sg c))] ∧ c ∈ txL ∧ (c = 32 → sl x ≠ [] ∧ (sl x).getLast? ≠ some 32)) ∧ H4 = H3, ?_, ?_⟩
    · refine ⟨_, rfl, rfl, _, rfl, ?_⟩
      show (if decide (V.str (⟨#[c]⟩ : Str) = V.str (Str.ofString " ")) = true then _ else _)
      rw [eq_sp]
      by_cases h2 : c = 32
      · rw [decide_eq_true h2]
        refine iteT ⟨_, rfl, rfl, _, rfl, ?_⟩
        have put : (∃ (c : Nat) (o3' : Option V), [some (V.ref a), some (.int m), some (.str x), some (V.int (0 + (i : Int))), some (.str (Str.ofString "b"))] = [some (.ref a), some (.int m), some (.str x), o3', some (.str (sg c))] ∧ c ∈ txL ∧ (c = 32 → sl x ≠ [] ∧ (sl x).getLast? ≠ some 32)) := ⟨98, _, by rw [show Str.ofString "b" = sg 98 by decide +kernel], by decide, fun e => absurd e (by decide)⟩
        by_cases h3 : sl x = []
        · rw [show decide (V.str x = V.str (Str.ofString "")) = true from decide_eq_true (by rw [show x = Str.ofString "" from sl_ext (by rw [h3, sl_mt])])]
          exact iteT (iteT ⟨put, rfl⟩)
        rw [show decide (V.str x = V.str (Str.ofString "")) = false from decide_eq_false (fun e => h3 (by rw [V.str.inj e, sl_mt]))]
        obtain ⟨l0, d, ed⟩ := last_split h3
        refine iteF ⟨_, rfl, _, rfl, x, -1, d, rfl, rfl, small4 (by rw [sl_len]; omega), by rw [show x.cps.toList = l0 ++ [d] from ed]; exact atI_last, rfl, _, rfl, ?_⟩
        show (if decide (V.str (⟨#[d]⟩ : Str) = V.str (Str.ofString " ")) = true then _ else _)
        rw [eq_sp]
        by_cases h4 : d = 32
        · rw [decide_eq_true h4]
          exact iteT ⟨put, rfl⟩
        · rw [decide_eq_false h4]
          refine iteF ⟨⟨c, _, rfl, hc, fun _ => ⟨h3, fun e => h4 ?_⟩⟩, rfl⟩
          rw [ed, List.getLast?_concat] at e
          exact Option.some.inj e
      · rw [decide_eq_false h2]
        exact iteF (iteF ⟨⟨c, _, rfl, hc, fun e => absurd e h2⟩, rfl⟩)
    · rintro σ2 H4 ⟨⟨c, o3, rfl, hc, hsp⟩, rfl⟩
      refine ⟨_, rfl, _, rfl, _, _, rfl, rfl, ?_, ⟨x ++ sg c, _, _, rfl, ?_, fun d hd => ?_, ?_⟩, S3, B2.trans B3⟩
      · show x.length + 1 ≤ sizeLine
        exact small4 (by rw [sl_len]; omega)
      · rw [sl_app, sl_sg, List.length_append, xl]; rfl
      · rw [sl_app, sl_sg, List.mem_append] at hd
        rcases hd with hd | hd
        · exact hx d hd
        · rw [List.mem_singleton.mp hd]; exact hc
      · rw [sl_app, sl_sg]
        exact sx.snoc hsp
  · rintro σ' H' ⟨⟨x, o3, o4, rfl, xl, hx, sx⟩, S2, B2⟩
    have ne : sl x ≠ [] := fun e => by rw [e] at xl; simp at xl; omega
    obtain ⟨l0, d, ed⟩ := last_split ne
    have l0l : l0.length + 1 = (1 + v).toNat := by rw [ed, List.length_append] at xl; exact xl
    refine ⟨fun σ2 H4 => (∃ (y : Str), σ2 = [some (.ref a), some (.int m), some (.str y), o3, o4] ∧ GoodTx y) ∧ H4 = H', ?_, ?_⟩
    · refine ⟨_, rfl, _, rfl, x, -1, d, rfl, rfl, small4 (by rw [sl_len]; omega), by rw [show x.cps.toList = l0 ++ [d] from ed]; exact atI_last, rfl, _, rfl, ?_⟩
      show (if decide (V.str (⟨#[d]⟩ : Str) = V.str (Str.ofString " ")) = true then _ else _)
      rw [eq_sp]
      by_cases h4 : d = 32
      · rw [decide_eq_true h4]
        have e1 := cut_last ed
        have e2 : sl (Str.ofString "a") = [97] := by decide +kernel
        have e3 : sl (cutS x none (some (-1)) ++ Str.ofString "a") = l0 ++ [97] := by rw [sl_app, e1, e2]
        refine iteT ⟨_, rfl, _, rfl, -1, rfl, x, rfl, small4 (by rw [sl_len]; omega), _, _, rfl, rfl, ?_, ⟨_, rfl, ⟨?_, ?_, fun c hc => ?_, ?_, ?_⟩⟩, rfl⟩
        · show (cutS x none (some (-1))).length + 1 ≤ sizeLine
          rw [sl_len, e1]
          exact small4 (by omega)
        · rw [e3]; simp
        · rw [e3, List.length_append]; show l0.length + 1 ≤ 20; omega
        · rw [e3, List.mem_append] at hc
          rcases hc with hc | hc
          · exact hx c (by rw [ed]; exact List.mem_append_left _ hc)
          · rw [List.mem_singleton.mp hc]; decide
        · rw [e3]
          rw [ed] at sx
          exact sx.cut.snoc fun e => absurd e (by decide)
        · rw [e3, List.getLast?_concat]; decide
      · rw [decide_eq_false h4]
        exact iteF ⟨⟨x, rfl, ne, by omega, hx, sx, by rw [ed, List.getLast?_concat]; intro e; exact h4 (Option.some.inj e)⟩, rfl⟩
    · rintro σ2 H4 ⟨⟨y, rfl, gy⟩, rfl⟩
      exact ⟨_, rfl, k y _ gy S2 B2⟩
end
end Sx

set_option Elab.async false
set_option linter.all false
set_option maxRecDepth 100000
set_option maxHeartbeats 4000000
namespace Sx
open PySem PySem.Spec PyProof.Rows L2 SxA SxK
def GoodB : Bk → Prop
  | .brk => True
  | .plain w t => (w = "head" ∨ w = "par") ∧ GoodTx t
  | .num w k t => ((w = "item" ∧ 1 ≤ k ∧ k ≤ 3) ∨ (w = "note" ∧ 1 ≤ k ∧ k ≤ 99)) ∧ GoodTx t
structure BI (H H' : Hp) (a L R : Addr) (bs : List Bk) : Prop where
  st : St H' a L
  but : But a H H'
  ne : R ≠ a
  nl : R ≠ L
  new : H R = none
  el : ∃ vs, H' R = some (.lst vs) ∧ vs.length = bs.length ∧ ∀ (i : Nat) v b, vs[i]? = some v → bs[i]? = some b → ∃ T, v = .ref T ∧ H T = none ∧ H' T = some (.tup b.v)
theorem St.tup {H : Hp} {a L T : Addr} {xs : List V} (S : St H a L) (h : H T = some (.tup xs)) : T ≠ a := fun e => by
  rw [e, (S.choose_spec.choose_spec.choose_spec.choose_spec.choose_spec).at_] at h
  cases h
theorem BI.step {H H1 H2 : Hp} {a L R : Addr} {bs : List Bk} (h : BI H H1 a L R bs) (S : St H2 a L) (B : But a H1 H2) : BI H H2 a L R bs := by
  obtain ⟨vs, h1, h2, h3⟩ := h.el
  refine ⟨S, h.but.trans B, h.ne, h.nl, h.new, vs, B _ _ h1 h.ne, h2, fun i v b e1 e2 => ?_⟩
  obtain ⟨T, e, t0, t1⟩ := h3 i v b e1 e2
  exact ⟨T, e, t0, B _ _ t1 (St.tup h.st t1)⟩
theorem BI.same {H H1 H2 : Hp} {a L R : Addr} {bs : List Bk} (h : BI H H1 a L R bs) (s : Same H1 H2) : BI H H2 a L R bs := h.step (h.st.same s) (But.of s)
theorem BI.fresh {H H1 : Hp} {a L R T : Addr} {bs : List Bk} (h : BI H H1 a L R bs) (hT : H1 T = none) : H T = none := by
  obtain ⟨o, ha⟩ := h.st.hasA
  exact h.but.none ha hT
theorem BI.add {H H1 : Hp} {a L R T : Addr} {bs : List Bk} {vs : List V} {b : Bk} (h : BI H H1 a L R bs) (hv : H1 R = some (.lst vs)) (t0 : H T = none) (t1 : H1 T = some (.tup b.v)) : BI H (upd H1 R (.lst (vs ++ [.ref T]))) a L R (bs ++ [b]) := by
  obtain ⟨ws, h1, h2, h3⟩ := h.el
  obtain rfl : ws = vs := by rw [h1] at hv; cases hv; rfl
  have nTR : T ≠ R := ne_of t1 h1 (by intro z; cases z)
  refine ⟨h.st.write h.ne.symm h.nl.symm, fun c o e n => by rw [upd_ne (ne_of_none e h.new)]; exact h.but _ _ e n, h.ne, h.nl, h.new, _, upd_same, by rw [List.length_append, List.length_append, h2]; rfl, fun i v b' e1 e2 => ?_⟩
  by_cases hk : i < ws.length
  · rw [List.getElem?_append_left hk] at e1
    rw [List.getElem?_append_left (by omega)] at e2
    obtain ⟨U, e, u0, u1⟩ := h3 i v b' e1 e2
    exact ⟨U, e, u0, by rw [upd_ne (ne_of u1 h1 (by intro z; cases z))]; exact u1⟩
  · rw [List.getElem?_append_right (by omega)] at e1 e2
    have z0 : i - ws.length = 0 := by
      have := (List.getElem?_eq_some_iff.mp e1).1
      rw [List.length_singleton] at this
      omega
    rw [z0] at e1
    rw [← h2, z0] at e2
    cases e1
    cases e2
    exact ⟨T, rfl, t0, by rw [upd_ne nTR]; exact t1⟩
def spLBlocks : Sp := fun vs H Q _ => ∃ (a L : Addr) (m z : Int), vs = [.ref a, .int m, .int z] ∧ St H a L ∧ (1 ≤ m ∧ m ≤ 19) ∧ (1 ≤ z ∧ z ≤ 19) ∧ ∀ (R : Addr) (bs : List Bk) H', BI H H' a L R bs → (∀ b ∈ bs, GoodB b) → 1 ≤ bs.length → (bs.length : Int) ≤ m → Q (.ref R) H'
theorem GoodB.app {bs : List Bk} {b : Bk} (h : ∀ b ∈ bs, GoodB b) (g : GoodB b) : ∀ c ∈ bs ++ [b], GoodB c := fun c hc => by
  rcases List.mem_append.mp hc with q | q
  · exact h c q
  · rw [List.mem_singleton.mp q]; exact g
section
variable {P : Program} {w : World} {K : PySem.W.Frag} {mg : Str → Option Value} {base : Heap}
abbrev nsLB : List Str := ["state", "most", "size", "blocks", "_law_turn", "pick", "text"]
theorem scLB : FnScope nsLB ["state", "most", "size"] (defScope sLawBlocks) := ⟨rfl, rfl, rfl, by decide +kernel, rfl, by decide +kernel, by decide +kernel⟩
theorem ok_lblocks (t : T K mg) : Ok P w K mg base 3 "_law_blocks" ["state", "most", "size"] spLBlocks := by
  refine mkOk t.d_law_blocks t.g_law_blocks scLB (fun vs H Q E h => ?_) (fun _ _ _ _ _ _ us hl => match us, hl with | [_, _, _], _ => rfl) fun cdv A outer s H vs Q E hr h => ?_
  · obtain ⟨a, L, m, z, rfl, _⟩ := h; rfl
  obtain ⟨a, L, m, z, rfl, hS, hm, hz, k⟩ := h
  have hr1 : Room 1 _ := hr.mono (by decide)
  refine ⟨_, pss_cons (ps_set (i := 3) scLB.nd rfl (Or.inl rfl) (pe_lst pa_nil))
    (pss_cons (ps_for PassesOwn.never rfl (pi_range1 rfl t.f_range (pa_cons (pe_op op_add pe_int (pe_ok (ok_draw t) hr1 rfl (pa_cons (pv 0) (pa_cons (pv 1) pa_nil)))) pa_nil)) (pg_name (i := 4) scLB.nd rfl (Or.inl rfl))
      (pss_cons (ps_set (i := 5) scLB.nd rfl (Or.inl rfl) (pe_ok (ok_draw t) hr1 rfl (pa_cons (pv 0) (pa_cons pe_int pa_nil))))
    (pss_cons (ps_set (i := 6) scLB.nd rfl (Or.inl rfl) (pe_ok (ok_ltext t) hr rfl (pa_cons (pv 0) (pa_cons (pv 2) pa_nil))))
    (pss_one (ps_if (pt_cmpR op_lt (pv 5) pe_int (nomark _))
      (pss_one (ps_expr (pe_bm PySem.F.plainAttrs_list PySem.F.slot_list_append PySem.F.type_list_append mt_append (pv 3) (pa_cons (pe_tup (pa_cons (pe_ix (ix_listK (K := K) rfl) (pe_lst (pa_cons pe_str (pa_cons pe_str pa_nil))) (pv 5) (fun _ _ => rfl)) (pa_cons (pv 6) pa_nil))) pa_nil))))
      (pss_one (ps_if (pt_cmpR op_eq (pv 5) pe_int (nomark _))
      (pss_one (ps_expr (pe_bm PySem.F.plainAttrs_list PySem.F.slot_list_append PySem.F.type_list_append mt_append (pv 3) (pa_cons (pe_tup (pa_cons pe_str (pa_cons (pe_op op_add pe_int (pe_ok (ok_draw t) hr1 rfl (pa_cons (pv 0) (pa_cons pe_int pa_nil)))) (pa_cons (pv 6) pa_nil)))) pa_nil))))
      (pss_one (ps_if (pt_cmpR op_eq (pv 5) pe_int (nomark _))
      (pss_one (ps_expr (pe_bm PySem.F.plainAttrs_list PySem.F.slot_list_append PySem.F.type_list_append mt_append (pv 3) (pa_cons (pe_tup (pa_cons pe_str (pa_cons (pe_ix (ix_listK (K := K) rfl) (pe_lst (pa_cons (pe_op op_add pe_int (pe_ok (ok_draw t) hr1 rfl (pa_cons (pv 0) (pa_cons pe_int pa_nil)))) (pa_cons pe_int (pa_cons pe_int pa_nil)))) (pe_ok (ok_draw t) hr1 rfl (pa_cons (pv 0) (pa_cons pe_int pa_nil))) (fun _ _ => rfl)) (pa_cons (pv 6) pa_nil)))) pa_nil))))
      (pss_one (ps_expr (pe_bm PySem.F.plainAttrs_list PySem.F.slot_list_append PySem.F.type_list_append mt_append (pv 3) (pa_cons (pe_ix (ix_listK (K := K) rfl) (pe_lst (pa_cons (pe_tup (pa_cons pe_str (pa_cons (pv 6) pa_nil))) (pa_cons (pe_tup (pa_cons pe_str pa_nil)) pa_nil))) (pe_op op_sub (pv 5) pe_int) (fun _ _ => rfl)) pa_nil)))))))))))))
    (pss_one (ps_ret (pv 3)))), ?_⟩
  refine ⟨(by show 0 ≤ sizeLine; decide), fun R hR => ?_⟩
  obtain ⟨oa, ha⟩ := hS.hasA
  obtain ⟨oL, hL⟩ := hS.hasL
  have naR : a ≠ R := ne_of_none ha hR
  have nLR : L ≠ R := ne_of_none hL hR
  have b0 : BI H (upd H R (.lst [])) a L R [] := ⟨hS.write naR nLR, fun c o e n => by rw [upd_ne (ne_of_none e hR)]; exact e, naR.symm, nLR.symm, hR, [], upd_same, rfl, fun i v b e => by cases e⟩
  generalize upd H R (.lst []) = H1 at b0 ⊢
  refine ⟨_, rfl, _, rfl, a, L, m, rfl, b0.st, by omega, by omega, fun v H2 v0 v1 S2 B2 => ?_⟩
  have b2 := b0.step S2 B2
  refine ⟨_, _, rfl, rfl, _, rfl, by omega, by omega, ?_⟩
  refine for_range (lo := 0) (n := (1 + v).toNat) (fun i σ' H' => ∃ (bs : List Bk) (o4 o5 o6 : Option V), σ' = [some (.ref a), some (.int m), some (.int z), some (.ref R), o4, o5, o6] ∧ BI H H' a L R bs ∧ (∀ b ∈ bs, GoodB b) ∧ bs.length = i) ⟨[], _, _, _, rfl, b2, fun b h => (by cases h), rfl⟩ ?_ ?_
  · rintro i σ' H' hi ⟨bs, o4, o5, o6, rfl, bi, gb, bl⟩
    refine ⟨_, rfl, a, L, 6, rfl, bi.st, by decide, by decide, fun p H3 p0 p1 S3 B3 => ?_⟩
    have bi3 := bi.step S3 B3
    refine ⟨_, rfl, _, rfl, a, L, z, rfl, S3, hz.1, hz.2, fun x H4 gx S4 B4 => ?_⟩
    have bi4 := bi3.step S4 B4
    obtain ⟨ws, w1, w2, w3⟩ := bi4.el
    have small : ∀ {Hx : Hp} {vs : List V}, BI H Hx a L R bs → Hx R = some (.lst vs) → vs.length < sizeLine := fun {Hx vs} q hv => by
      obtain ⟨us, u1, u2, _⟩ := q.el
      have e : vs = us := by
        rw [u1] at hv
        cases hv
        rfl
      rw [e]
      exact Nat.lt_of_le_of_lt (show us.length ≤ 20 by omega) (by decide)
    -- the append of a new block
    have fin : ∀ {Hx : Hp} {T : Addr} {b : Bk}, BI H Hx a L R bs → H T = none → Hx T = some (.tup b.v) → GoodB b → ∃ (r : Addr) (vs : List V) (y : V), V.ref R = .ref r ∧ [V.ref T] = [y] ∧ Hx r = some (.lst vs) ∧ vs.length < sizeLine ∧ (∃ (bs' : List Bk) (o4 o5 o6 : Option V), [some (V.ref a), some (.int m), some (.int z), some (.ref R), some (V.int (0 + (i : Int))), some (.int p), some (.str x)] = [some (.ref a), some (.int m), some (.int z), some (.ref R), o4, o5, o6] ∧ BI H (upd Hx r (.lst (vs ++ [y]))) a L R bs' ∧ (∀ b ∈ bs', GoodB b) ∧ bs'.length = i + 1) := fun {Hx T b} q t0 t1 g => by
      obtain ⟨us, u1, u2, _⟩ := q.el
      exact ⟨R, us, _, rfl, rfl, u1, small q u1, bs ++ [b], _, _, _, rfl, q.add u1 t0 t1, GoodB.app gb g, by rw [List.length_append, bl]; rfl⟩
    refine ⟨_, rfl, _, _, rfl, rfl, _, rfl, ?_⟩
    have at2 : ∀ {y0 y1 : V} {u : Int}, 0 ≤ u → u < 2 → (u = 0 ∧ atI [y0, y1] u = some y0) ∨ (u = 1 ∧ atI [y0, y1] u = some y1) := fun {y0 y1 u} h0 h1 => by
      have : u = 0 ∨ u = 1 := by omega
      rcases this with rfl | rfl
      · exact .inl ⟨rfl, rfl⟩
      · exact .inr ⟨rfl, rfl⟩
    by_cases c0 : p < 2
    · rw [decide_eq_true c0]
      refine iteT ⟨_, rfl, .inl ⟨rfl, _, SqL.of w1⟩, (by show 2 ≤ sizeLine; decide), fun L1 hL1 => ?_⟩
      have bi5 := bi4.same (Same.new (o := .lst [.str "head", .str "par"]) hL1)
      rcases at2 (y0 := .str "head") (y1 := .str "par") p0 c0 with ⟨ep, e⟩ | ⟨ep, e⟩
      · refine ⟨_, rfl, L1, _, _, _, rfl, rfl, SqL.of upd_same, e, _, rfl, (by show 2 ≤ sizeLine; decide), fun T hT => ?_⟩
        exact fin (b := .plain "head" x) (bi5.same (Same.new hT)) (bi5.fresh hT) upd_same ⟨.inl rfl, gx⟩
      · refine ⟨_, rfl, L1, _, _, _, rfl, rfl, SqL.of upd_same, e, _, rfl, (by show 2 ≤ sizeLine; decide), fun T hT => ?_⟩
        exact fin (b := .plain "par" x) (bi5.same (Same.new hT)) (bi5.fresh hT) upd_same ⟨.inr rfl, gx⟩
    rw [decide_eq_false c0]
    refine iteF ⟨_, rfl, rfl, _, rfl, ?_⟩
    by_cases c1 : p = 2
    · rw [show decide (V.int p = V.int 2) = true from decide_eq_true (by rw [c1])]
      refine iteT ⟨_, rfl, .inl ⟨rfl, _, SqL.of w1⟩, _, rfl, a, L, 3, rfl, bi4.st, by decide, by decide, fun q H5 q0 q1 S5 B5 => ⟨_, _, rfl, rfl, _, rfl, (by show 3 ≤ sizeLine; decide), fun T hT => ?_⟩⟩
      have bi5 := bi4.step S5 B5
      refine fin (b := .num "item" (1 + q).toNat x) (bi5.same (Same.new hT)) (bi5.fresh hT) ?_ ⟨.inl ⟨rfl, by omega, by omega⟩, gx⟩
      rw [upd_same]
      show _ = some (HO.tup [.str "item", .int (((1 + q).toNat : Nat) : Int), .str x])
      rw [show (((1 + q).toNat : Nat) : Int) = 1 + q by omega]
    rw [show decide (V.int p = V.int 2) = false from decide_eq_false (fun e => c1 (V.int.inj e))]
    refine iteF ⟨_, rfl, rfl, _, rfl, ?_⟩
    by_cases c2 : p = 3
    · rw [show decide (V.int p = V.int 3) = true from decide_eq_true (by rw [c2])]
      refine iteT ⟨_, rfl, .inl ⟨rfl, _, SqL.of w1⟩, _, rfl, a, L, 99, rfl, bi4.st, by decide, by decide, fun q H5 q0 q1 S5 B5 => ⟨_, _, rfl, rfl, (by show 3 ≤ sizeLine; decide), fun L1 hL1 => ?_⟩⟩
      have bi5 := bi4.step S5 B5
      have bi6 := bi5.same (Same.new (o := .lst [.int (1 + q), .int 10, .int 99]) hL1)
      have hL1' := upd_at hL1 (.lst [.int (1 + q), .int 10, .int 99])
      obtain ⟨o5, ha5⟩ := bi5.st.hasA
      have nL1 : L1 ≠ a := (ne_of_none ha5 hL1).symm
      refine ⟨_, rfl, a, L, 3, rfl, bi6.st, by decide, by decide, fun r H7 r0 r1 S7 B7 => ?_⟩
      have bi7 := bi6.step S7 B7
      have hL7 := B7 _ _ hL1' nL1
      obtain ⟨n, n1, n2, e⟩ : ∃ n : Nat, 1 ≤ n ∧ n ≤ 99 ∧ atI [V.int (1 + q), .int 10, .int 99] r = some (.int (n : Int)) := by
        have : r = 0 ∨ r = 1 ∨ r = 2 := by omega
        rcases this with rfl | rfl | rfl
        · exact ⟨(1 + q).toNat, by omega, by omega, by rw [show (((1 + q).toNat : Nat) : Int) = 1 + q by omega]; rfl⟩
        · exact ⟨10, by decide, by decide, rfl⟩
        · exact ⟨99, by decide, by decide, rfl⟩
      refine ⟨L1, _, _, _, rfl, rfl, SqL.of hL7, e, _, rfl, (by show 3 ≤ sizeLine; decide), fun T hT => ?_⟩
      exact fin (b := .num "note" n x) (bi7.same (Same.new hT)) (bi7.fresh hT) upd_same ⟨.inr ⟨rfl, n1, n2⟩, gx⟩
    rw [show decide (V.int p = V.int 3) = false from decide_eq_false (fun e => c2 (V.int.inj e))]
    refine iteF ⟨_, rfl, .inl ⟨rfl, _, SqL.of w1⟩, _, rfl, (by show 2 ≤ sizeLine; decide), fun T1 h1 => ⟨(by show 1 ≤ sizeLine; decide), fun T2 h2 => ⟨(by show 2 ≤ sizeLine; decide), fun L1 hL1 => ?_⟩⟩⟩
    have bi5 := bi4.same (Same.new (o := .tup [.str "par", .str x]) h1)
    have bi6 := bi5.same (Same.new (o := .tup [.str "break"]) h2)
    have bi7 := bi6.same (Same.new (o := .lst [.ref T1, .ref T2]) hL1)
    have t1 := Same.new (o := .lst [.ref T1, .ref T2]) hL1 _ _ (Same.new (o := .tup [.str "break"]) h2 _ _ (upd_at h1 (.tup [.str "par", .str x])))
    have t2 := Same.new (o := .lst [.ref T1, .ref T2]) hL1 _ _ (upd_at h2 (.tup [.str "break"]))
    refine ⟨_, rfl, _, _, rfl, rfl, ?_⟩
    rcases at2 (y0 := .ref T1) (y1 := .ref T2) (u := p - 4) (by omega) (by omega) with ⟨ep, e⟩ | ⟨ep, e⟩
    · exact ⟨L1, _, _, _, rfl, rfl, SqL.of upd_same, e, fin (b := .plain "par" x) bi7 (bi4.fresh h1) t1 ⟨.inr rfl, gx⟩⟩
    · exact ⟨L1, _, _, _, rfl, rfl, SqL.of upd_same, e, fin (b := .brk) bi7 (bi5.fresh h2) t2 True.intro⟩
  · rintro σ' H' ⟨bs, o4, o5, o6, rfl, bi, gb, bl⟩
    exact ⟨_, rfl, k R bs H' bi gb (by omega) (by omega)⟩
end
end Sx

set_option Elab.async false
set_option linter.all false
set_option maxRecDepth 100000
set_option maxHeartbeats 2000000
namespace Sx
open PySem PySem.Spec PyProof.Rows L2 SxA SxK
/-! ### blocks, good or not -/
inductive Gk where
  | brk
  | two (w t : Str)
  | three (w : Str) (k : Int) (t : Str)
def Gk.v : Gk → List V
  | .brk => [.str "break"]
  | .two w t => [.str w, .str t]
  | .three w k t => [.str w, .int k, .str t]
def Bk.g : Bk → Gk
  | .brk => .brk
  | .plain w t => .two w t
  | .num w k t => .three w (k : Int) t
theorem Bk.gv (b : Bk) : b.g.v = b.v := by cases b <;> rfl
def GAt (H : Hp) (v : V) (g : Gk) : Prop := ∃ T, v = .ref T ∧ H T = some (.tup g.v)
theorem GAt.same {H H' : Hp} {v : V} {g : Gk} (h : GAt H v g) (s : Same H H') : GAt H' v g := by
  obtain ⟨T, e, h⟩ := h
  exact ⟨T, e, s _ _ h⟩
def GksV (H : Hp) (vs : List V) (gs : List Gk) : Prop := vs.length = gs.length ∧ ∀ (i : Nat) v g, vs[i]? = some v → gs[i]? = some g → GAt H v g
theorem GksV.same {H H' : Hp} {vs : List V} {gs : List Gk} (h : GksV H vs gs) (s : Same H H') : GksV H' vs gs := ⟨h.1, fun i v g a b => (h.2 i v g a b).same s⟩
theorem GksV.app {H : Hp} {vs us : List V} {gs hs : List Gk} (h : GksV H vs gs) (k : GksV H us hs) : GksV H (vs ++ us) (gs ++ hs) := by
  refine ⟨by rw [List.length_append, List.length_append, h.1, k.1], fun i v g a b => ?_⟩
  by_cases c : i < vs.length
  · rw [List.getElem?_append_left c] at a
    rw [List.getElem?_append_left (by rw [← h.1]; exact c)] at b
    exact h.2 i v g a b
  · rw [List.getElem?_append_right (by omega)] at a
    rw [List.getElem?_append_right (by rw [← h.1]; omega), ← h.1] at b
    exact k.2 _ v g a b
theorem GksV.one {H : Hp} {T : Addr} {g : Gk} (h : H T = some (.tup g.v)) : GksV H [.ref T] [g] := ⟨rfl, fun i v g' a b => by
  cases i with
  | zero => cases a; cases b; exact ⟨T, rfl, h⟩
  | succ i => simp at a⟩
def GksL (H : Hp) (l : Addr) (gs : List Gk) : Prop := ∃ vs, H l = some (.lst vs) ∧ GksV H vs gs
theorem GksL.same {H H' : Hp} {l : Addr} {gs : List Gk} (h : GksL H l gs) (s : Same H H') : GksL H' l gs := by
  obtain ⟨vs, a, b⟩ := h
  exact ⟨vs, s _ _ a, b.same s⟩
def BookG (K : PySem.W.Frag) (H : Hp) (v : V) (gs : List Gk) : Prop := ∃ x dx l, v = .ref x ∧ H x = some (.ins (He.ga K "Book") dx [("blocks", .ref l)]) ∧ GksL H l gs
theorem BookG.same {K : PySem.W.Frag} {H H' : Hp} {v : V} {gs : List Gk} (h : BookG K H v gs) (s : Same H H') : BookG K H' v gs := by
  obtain ⟨x, dx, l, e, h1, h2⟩ := h
  exact ⟨x, dx, l, e, s _ _ h1, h2.same s⟩
theorem BksL.g {H : Hp} {l : Addr} {bs : List Bk} (h : BksL H l bs) : GksL H l (bs.map Bk.g) := by
  obtain ⟨vs, a, b, c⟩ := h
  refine ⟨vs, a, by rw [List.length_map, b], fun i v g e1 e2 => ?_⟩
  rw [List.getElem?_map] at e2
  obtain ⟨b', hb, rfl⟩ := Option.map_eq_some_iff.mp e2
  obtain ⟨T, e, h⟩ := c i v b' e1 hb
  exact ⟨T, e, by rw [Bk.gv]; exact h⟩
theorem BookO.g {K : PySem.W.Frag} {H : Hp} {v : V} {bs : List Bk} (h : BookO K H v bs) : BookG K H v (bs.map Bk.g) := by
  obtain ⟨x, dx, l, e, h1, h2⟩ := h
  exact ⟨x, dx, l, e, h1, h2.g⟩
/-! ### as data -/
def dG : Gk → PyData
  | .brk => .tuple [.str "break"]
  | .two w t => .tuple [.str w, .str t]
  | .three w k t => .tuple [.str w, .int k, .str t]
def okG : Gk → Bool
  | .brk => true
  | .two w t => PyData.strOk w && PyData.strOk t
  | .three w _ t => PyData.strOk w && PyData.strOk t
theorem brkOk : PyData.strOk ("break" : Str) = true := by decide +kernel
theorem lay_g {g : Gk} (h : okG g = true) : PyData.canLay0 (dG g) = true := by
  cases g with
  | brk => simp [dG, PyData.canLay0, PyData.canLayAll0, brkOk]
  | two w t =>
    obtain ⟨a, b⟩ := Bool.and_eq_true_iff.mp h
    simp [dG, PyData.canLay0, PyData.canLayAll0, a, b]
  | three w k t =>
    obtain ⟨a, b⟩ := Bool.and_eq_true_iff.mp h
    simp [dG, PyData.canLay0, PyData.canLayAll0, a, b]
theorem dep_g (g : Gk) : PyData.depth (dG g) ≤ 5 := by cases g <;> simp [dG, PyData.depth, PyData.depthAll]
theorem shaped_g {g : Gk} (h : okG g = true) : SeqAt.shaped (dG g) = true := by
  have h1 := dep_g g
  unfold SeqAt.shaped
  simp [lay_g h]
  omega
def dGs (gs : List Gk) : PyData := .list (gs.map dG)
theorem lay_gs : ∀ {gs : List Gk}, (∀ g ∈ gs, okG g = true) → PyData.canLayAll0 (gs.map dG) = true
  | [], _ => by simp [PyData.canLayAll0]
  | x :: r, h => by
    have := lay_gs (gs := r) fun s hs => h s (List.mem_cons_of_mem _ hs)
    have hx := lay_g (h x List.mem_cons_self)
    simp [PyData.canLayAll0, this, hx]
theorem dep_gs : ∀ gs : List Gk, PyData.depthAll (gs.map dG) ≤ 6
  | [] => by simp [PyData.depthAll]
  | x :: r => by
    have h1 := dep_gs r
    have h2 := dep_g x
    simp [PyData.depthAll]
    omega
theorem shaped_gs {gs : List Gk} (h : ∀ g ∈ gs, okG g = true) : SeqAt.shaped (dGs gs) = true := by
  have h1 := dep_gs gs
  unfold SeqAt.shaped dGs
  simp [PyData.canLay0, PyData.depth, lay_gs h]
  omega
theorem dp_g {K : PySem.W.Frag} {H : Hp} {v : V} {g : Gk} (h : GAt H v g) : Dp K H v (dG g) := by
  obtain ⟨T, rfl, h⟩ := h
  cases g with
  | brk => exact .tup (SqT.of h) (.cons (.str _) .nil)
  | two w t => exact .tup (SqT.of h) (.cons (.str _) (.cons (.str _) .nil))
  | three w k t => exact .tup (SqT.of h) (.cons (.str _) (.cons (.int _) (.cons (.str _) .nil)))
theorem dpAll_gs {K : PySem.W.Frag} {H : Hp} : ∀ {vs : List V} {gs : List Gk}, GksV H vs gs → DpAll K H vs (gs.map dG)
  | [], [], _ => .nil
  | [], _ :: _, h => by have := h.1; simp at this
  | _ :: _, [], h => by have := h.1; simp at this
  | v :: vs, g :: gs, h => .cons (dp_g (h.2 0 v g rfl rfl)) (dpAll_gs ⟨by have := h.1; simpa using this, fun i v' g' a b => h.2 (i + 1) v' g' (by simpa using a) (by simpa using b)⟩)
theorem dp_gs {K : PySem.W.Frag} {H : Hp} {l : Addr} {gs : List Gk} (h : GksL H l gs) : Dp K H (.ref l) (dGs gs) := by
  obtain ⟨vs, a, b⟩ := h
  exact .lst (SqL.of a) (dpAll_gs b)
def eqGs (gs hs : List Gk) : Bool := PyData.eqv (dGs gs) (dGs hs)
theorem eqGs_comm (gs hs : List Gk) : eqGs gs hs = eqGs hs gs := PySem.W.eqv_comm _ _
theorem eqGs_self {gs : List Gk} (h : ∀ g ∈ gs, okG g = true) : eqGs gs gs = true := by
  refine SeqAt.eqv_refl_plain _ (PyData.plain_of_canLay0 _ ?_)
  unfold dGs
  simp [PyData.canLay0, lay_gs h]
theorem eq_gs {K : PySem.W.Frag} {H : Hp} {a b : Addr} {gs hs : List Gk} {Q : VK} (h1 : GksL H a gs) (h2 : GksL H b hs) (o1 : ∀ g ∈ gs, okG g = true) (o2 : ∀ g ∈ hs, okG g = true) (k : Q (.bl (eqGs gs hs)) H) : rEqD K (.ref a) (.ref b) H Q :=
  ⟨_, _, dp_gs h1, dp_gs h2, shaped_gs o1, shaped_gs o2, k⟩
theorem ne_gs {K : PySem.W.Frag} {H : Hp} {a b : Addr} {gs : List Gk} {Q : VK} (h1 : GksL H a gs) (h2 : GksL H b gs) (o1 : ∀ g ∈ gs, okG g = true) (k : Q (.bl false) H) : rNeD K (.ref a) (.ref b) H Q :=
  ⟨_, _, dp_gs h1, dp_gs h2, shaped_gs o1, shaped_gs o1, by rw [show PyData.eqv (dGs gs) (dGs gs) = true from eqGs_self o1]; exact k⟩
/-! ### same_book -/
def spSameBook (K : PySem.W.Frag) : Sp := fun vs H Q _ => ∃ (v u : V) (gs hs : List Gk), vs = [v, u] ∧ BookG K H v gs ∧ BookG K H u hs ∧ (∀ g ∈ gs, okG g = true) ∧ (∀ g ∈ hs, okG g = true) ∧ Q (.bl (eqGs gs hs)) H
theorem lk_blocks (l : Addr) : ([("blocks", .ref l)] : List (Str × V)).lookup ("blocks" : Str) = some (.ref l) := rfl
section
variable {P : Program} {w : World} {K : PySem.W.Frag} {mg : Str → Option Value} {base : Heap}
abbrev nsSameBook : List Str := ["book", "other"]
theorem scSameBook : FnScope nsSameBook ["book", "other"] (defScope sSameBook) := ⟨rfl, rfl, rfl, by decide +kernel, rfl, by decide +kernel, by decide +kernel⟩
theorem ok_same_book (t : T K mg) : Ok P w K mg base 1 "same_book" ["book", "other"] (spSameBook K) := by
  refine mkOk t.d_same_book t.g_same_book scSameBook (fun vs H Q E h => ?_) (fun _ _ _ _ _ _ us hl => match us, hl with | [_, _], _ => rfl) fun cdv A outer s H vs Q E hr h => ?_
  · obtain ⟨v, u, gs, hs, rfl, _⟩ := h; rfl
  obtain ⟨v, u, gs, hs, rfl, ⟨x, dx, l, rfl, hx, hl⟩, ⟨y, dy, m, rfl, hy, hm⟩, o1, o2, k⟩ := h
  refine ⟨_, pss_one (ps_ret (pe_cmpR (op_eqD (hu64 hr)) (pe_fld (pv 0) rfl) (pe_fld (pv 1) rfl) (nomark _))), ?_⟩
  exact ⟨_, rfl, x, _, dx, _, _, rfl, hx, t.c_Book, t.n_Book_blocks, lk_blocks _, _, rfl, y, _, dy, _, _, rfl, hy, t.c_Book, t.n_Book_blocks, lk_blocks _, eq_gs hl hm o1 o2 k⟩
/-! ### is_text -/
def goodTB (z : Str) : Bool := !decide (V.str z = V.str ("" : Str)) && ((sl z).all signB && (faultF (sl z)).isNone)
def spIsText : Sp := fun vs H Q _ => ∃ z : Str, vs = [.str z] ∧ z.length ≤ 1000 ∧ ∀ H', Same H H' → Q (.bl (goodTB z)) H'
abbrev nsIsText : List Str := ["text", "sign"]
theorem scIsText : FnScope nsIsText ["text"] (defScope sIsText) := ⟨rfl, rfl, rfl, by decide +kernel, rfl, by decide +kernel, by decide +kernel⟩
theorem ok_is_text (t : T K mg) : Ok P w K mg base 3 "is_text" ["text"] spIsText := by
  refine mkOk t.d_is_text t.g_is_text scIsText (fun vs H Q E h => ?_) (fun _ _ _ _ _ _ us hl => match us, hl with | [_], _ => rfl) fun cdv A outer s H vs Q E hr h => ?_
  · obtain ⟨z, rfl, _⟩ := h; rfl
  obtain ⟨z, rfl, hz, k⟩ := h
  have hr1 : Room 1 _ := hr.mono (by decide)
  have hr2 : Room 2 _ := hr.mono (by decide)
  refine ⟨_, pss_one (ps_ret (pe_and (pe_cmpR op_ne (pv 0) pe_str (nomark _)) (pe_and (pe_callB (cr_all rfl) rfl t.f_all (by decide +kernel) (pa_cons (pe_lc (own := [("sign", 1)]) (g := gName 1) (tt := tYes) rfl scIsText.nd (pi_str (pv 0)) (blkOk_by (own := [("sign", 1)]) (N := nsIsText) (sc := defScope sIsText) (by decide +kernel)) (fun _ _ _ _ _ => pg_name (i := 1) scIsText.nd rfl (Or.inl rfl)) (fun _ _ _ _ _ => pts_nil) (fun _ _ _ _ _ => (pe_ok (ok_sign t) hr1 rfl (pa_cons (pv 1) pa_nil)))) pa_nil)) (pe_one (pe_cmpR op_isN (pe_ok (ok_fault t) hr2 rfl (pa_cons (pv 0) pa_nil)) pe_non (nomark _)))))), ?_⟩
  have k' : ∀ (b : Bool) (H' : Hp), Same H H' → goodTB z = b → Q (.bl b) H' := fun b H' s e => e ▸ k H' s
  unfold goodTB at k'
  refine ⟨_, rfl, rfl, _, rfl, ?_⟩
  refine ite2 (fun h1 => ?_) (fun h1 => k' _ _ (Same.refl _) (by rw [Bool.not_eq_true] at h1; simp only [h1, Bool.false_and]))
  refine ⟨_, rfl, z, rfl, fun D hD => ?_⟩
  have zl := sl_len z
  have big : 1000 ≤ sizeLine := by decide
  refine lc_text (ys := (sl z).map fun c => V.bl (signB c)) hD (by simp) (by rw [List.length_map]; omega) (fun _ => rfl) (fun i c y H1 Q1 hc hy sm k1 => ?_) (fun H' sm hH => ?_)
  · have ey : y = .bl (signB c) := by
      rw [List.getElem?_map, hc] at hy
      exact (Option.some.inj hy).symm
    subst ey
    exact ⟨_, rfl, c, rfl, k1 _ (Same.refl _)⟩
  refine ⟨D, (sl z).map signB, rfl, sqD (by rw [hH]; simp), _, rfl, ?_⟩
  have e2 : ((sl z).map signB).all id = (sl z).all signB := by simp
  rw [e2]
  refine ite2 (fun h2 => ?_) (fun h2 => k' _ _ sm (by rw [Bool.not_eq_true] at h2; rw [h1, h2]; rfl))
  refine ⟨_, rfl, z, rfl, by omega, fun H2 s2 => ?_⟩
  refine ⟨rfl, k' _ _ (sm.trans s2) ?_⟩
  rw [h1, h2]
  cases faultF (sl z) <;> rfl
end
end Sx

set_option Elab.async false
set_option linter.all false
set_option maxRecDepth 100000
set_option maxHeartbeats 2000000
namespace Sx
open PySem PySem.Spec PyProof.Rows L2 SxA SxK
structure FineTx (t : Str) : Prop where
  ne : sl t ≠ []
  short : (sl t).length ≤ 400
  sign : ∀ c ∈ sl t, signB c = true
  fine : faultF (sl t) = none
theorem txL_sign : ∀ c ∈ txL, signB c = true := by decide
theorem GoodTx.fineT {t : Str} (g : GoodTx t) : FineTx t := ⟨g.ne, by have := g.short; omega, fun c h => txL_sign c (g.sign c h), g.fine⟩
def FineB : Bk → Prop
  | .brk => True
  | .plain w t => (w = "head" ∨ w = "par") ∧ FineTx t
  | .num w k t => ((w = "item" ∧ 1 ≤ k ∧ k ≤ 3) ∨ (w = "note" ∧ 1 ≤ k ∧ k ≤ 99)) ∧ FineTx t
theorem GoodB.fineB {b : Bk} (g : GoodB b) : FineB b := by
  cases b with
  | brk => exact True.intro
  | plain w t => exact ⟨g.1, g.2.fineT⟩
  | num w k t => exact ⟨g.1, g.2.fineT⟩
def strsB : Bk → List Str
  | .brk => ["break"]
  | .plain w t => [w, t]
  | .num w k t => [w, dgS (k : Int), t]
def lineB (b : Bk) : Str := Txt.join spS (strsB b)
theorem word_app {w r : List Nat} (h : 32 ∉ w) : wordF (w ++ 32 :: r) = w ∧ restF (w ++ 32 :: r) = some r := by
  have tw : (w ++ 32 :: r).takeWhile (fun c => decide (c ≠ 32)) = w ∧ (w ++ 32 :: r).dropWhile (fun c => decide (c ≠ 32)) = 32 :: r := by
    induction w with
    | nil => exact ⟨rfl, rfl⟩
    | cons c w ih =>
      have hc : c ≠ 32 := fun e => h (by rw [e]; exact List.mem_cons_self)
      obtain ⟨i1, i2⟩ := ih fun q => h (List.mem_cons_of_mem _ q)
      rw [List.cons_append, List.takeWhile_cons_of_pos (by simp [hc]), List.dropWhile_cons_of_pos (by simp [hc]), i1, i2]
      exact ⟨rfl, rfl⟩
  unfold wordF restF
  rw [tw.1, tw.2]
  exact ⟨rfl, rfl⟩
theorem num_item : ∀ k : Fin 4, 1 ≤ k.val → bnum "item" (sl (dgS (k.val : Int))) = some k.val := by decide +kernel
theorem num_note : ∀ k : Fin 100, 1 ≤ k.val → bnum "note" (sl (dgS (k.val : Int))) = some k.val := by decide +kernel
theorem num_fine : ∀ k : Fin 100, (sl (dgS (k.val : Int))).all (fun c => signB c && decide (c ≠ 32)) = true ∧ (dgS (k.val : Int)).length ≤ 2 := by decide +kernel
theorem sl_plain (w t : Str) : sl (lineB (.plain w t)) = sl w ++ 32 :: sl t := by
  unfold lineB strsB
  rw [sl_join]
  rfl
theorem sl_num (w t : Str) (k : Nat) : sl (lineB (.num w k t)) = sl w ++ 32 :: (sl (dgS (k : Int)) ++ 32 :: sl t) := by
  unfold lineB strsB
  rw [sl_join]
  rfl
theorem block_ok {b : Bk} (g : FineB b) {n : Int} (hn : n ≤ 200) : mBlock (lineB b) n = .ok b := by
  have n2 : ¬ n > 200 := by omega
  cases b with
  | brk =>
    have e : lineB .brk = ("break" : Str) := by decide +kernel
    rw [e]
    have e2 : pcS (wordF (sl ("break" : Str))) = ("break" : Str) := by decide +kernel
    unfold mBlock
    rw [e2, if_neg (fun q => by rcases q with q | q; exact n2 q; exact q (.inr (.inr rfl))), if_pos rfl, if_pos rfl]
  | plain w t =>
    obtain ⟨hw, gt⟩ := g
    have nw : 32 ∉ sl w := by rcases hw with rfl | rfl <;> decide +kernel
    have e := sl_plain w t
    obtain ⟨e1, e2⟩ := word_app (r := sl t) nw
    have ne : sl t ≠ [] := gt.ne
    unfold mBlock
    rw [e, e1, e2, ← pcS_of (x := w) rfl]
    have c1 : ¬ w = "break" := by rcases hw with rfl | rfl <;> decide +kernel
    have c2 : ¬ (w = "item" ∨ w = "note") := by rcases hw with rfl | rfl <;> decide +kernel
    rw [if_neg (fun q => by rcases q with q | q; exact n2 q; exact q (.inl hw)), if_neg c1]
    simp only
    rw [if_neg c2, if_neg ne]
    unfold fText
    rw [gt.fine, ← pcS_of (x := t) rfl]
  | num w k t =>
    obtain ⟨hw, gt⟩ := g
    have nw : 32 ∉ sl w := by rcases hw with ⟨rfl, _⟩ | ⟨rfl, _⟩ <;> decide +kernel
    have k99 : k < 100 := by rcases hw with ⟨_, a, b⟩ | ⟨_, a, b⟩ <;> omega
    have nk : 32 ∉ sl (dgS (k : Int)) := fun q => by
      have := List.all_eq_true.mp (num_fine ⟨k, k99⟩).1 32 q
      simp at this
    have e := sl_num w t k
    obtain ⟨e1, e2⟩ := word_app (r := sl (dgS (k : Int)) ++ 32 :: sl t) nw
    obtain ⟨e3, e4⟩ := word_app (r := sl t) nk
    have ne : sl t ≠ [] := gt.ne
    unfold mBlock
    rw [e, e1, e2, ← pcS_of (x := w) rfl]
    have c1 : ¬ w = "break" := by rcases hw with ⟨rfl, _⟩ | ⟨rfl, _⟩ <;> decide +kernel
    have c2 : w = "item" ∨ w = "note" := by
      rcases hw with ⟨h, _⟩ | ⟨h, _⟩
      · exact .inl h
      · exact .inr h
    have hb : bnum w (sl (dgS (k : Int))) = some k := by
      rcases hw with ⟨rfl, a, b⟩ | ⟨rfl, a, b⟩
      · exact num_item ⟨k, by omega⟩ a
      · exact num_note ⟨k, by omega⟩ a
    rw [if_neg (fun q => by rcases q with q | q; exact n2 q; exact q (.inr (.inl c2))), if_neg c1]
    simp only
    rw [if_pos c2, e4, e3, hb]
    simp only
    rw [if_neg ne]
    unfold fText
    rw [gt.fine, ← pcS_of (x := t) rfl]
theorem line_sign {b : Bk} (g : FineB b) : (∀ c ∈ sl (lineB b), signB c = true) ∧ (sl (lineB b)).length ≤ 420 ∧ sl (lineB b) ≠ [] := by
  cases b with
  | brk =>
    have e : sl (lineB .brk) = [98, 114, 101, 97, 107] := by decide +kernel
    rw [e]
    exact ⟨by decide, by decide, by decide⟩
  | plain w t =>
    obtain ⟨hw, gt⟩ := g
    have hs : (∀ c ∈ sl w, signB c = true) ∧ (sl w).length ≤ 4 := by rcases hw with rfl | rfl <;> decide +kernel
    rw [sl_plain]
    refine ⟨fun c hc => ?_, ?_, by simp⟩
    · rcases List.mem_append.mp hc with q | q
      · exact hs.1 c q
      · rcases List.mem_cons.mp q with q | q
        · rw [q]; rfl
        · exact gt.sign c q
    · have := gt.short
      rw [List.length_append, List.length_cons]
      omega
  | num w k t =>
    obtain ⟨hw, gt⟩ := g
    have hs : (∀ c ∈ sl w, signB c = true) ∧ (sl w).length ≤ 4 := by rcases hw with ⟨rfl, _⟩ | ⟨rfl, _⟩ <;> decide +kernel
    have k99 : k < 100 := by rcases hw with ⟨_, a, b⟩ | ⟨_, a, b⟩ <;> omega
    obtain ⟨f1, f2⟩ := num_fine ⟨k, k99⟩
    rw [sl_num]
    refine ⟨fun c hc => ?_, ?_, by simp⟩
    · rcases List.mem_append.mp hc with q | q
      · exact hs.1 c q
      · rcases List.mem_cons.mp q with q | q
        · rw [q]; rfl
        · rcases List.mem_append.mp q with q | q
          · have := List.all_eq_true.mp f1 c q
            exact (Bool.and_eq_true_iff.mp this).1
          · rcases List.mem_cons.mp q with q | q
            · rw [q]; rfl
            · exact gt.sign c q
    · have := gt.short
      rw [sl_len] at f2
      rw [List.length_append, List.length_cons, List.length_append, List.length_cons]
      have : (sl (dgS (k : Int))).length ≤ 2 := f2
      omega
theorem sign_none {l : List Nat} (h : ∀ c ∈ l, signB c = true) : signE l = none := by
  unfold signE
  rw [List.findIdx?_eq_none_iff]
  intro c hc
  rw [h c hc]
  rfl
theorem str_of_sign {z : Str} (h : ∀ c ∈ sl z, signB c = true) : PyData.strOk z = true := by
  unfold PyData.strOk
  rw [← Array.all_toList, List.all_eq_true]
  intro c hc
  have := h c hc
  unfold signB at this
  simp only [Bool.and_eq_true, decide_eq_true_eq] at this
  exact decide_eq_true (by omega)
/-! ### lines that are read -/
structure FineLn (z : Str) : Prop where
  len : z.length ≤ 500
  nl : 10 ∉ sl z
  ne : z ≠ ""
  ok : PyData.strOk z = true
theorem fine_line {b : Bk} (g : FineB b) : FineLn (lineB b) := by
  obtain ⟨h1, h2, h3⟩ := line_sign g
  refine ⟨by rw [sl_len]; omega, fun q => absurd (h1 10 q) (by decide), fun e => h3 (by rw [e]; decide +kernel), str_of_sign h1⟩
def RunB (ls : List Str) (bs : List Bk) : Prop := ∀ (rest : List Str) (n : Nat) (acc : List Bk), n + ls.length ≤ 200 → mBook (ls ++ rest) n acc = mBook rest (n + ls.length) (acc ++ bs)
theorem RunB.nil : RunB [] [] := fun rest n acc _ => by rw [List.append_nil]; rfl
theorem RunB.cons {z : Str} {b : Bk} {ls : List Str} {bs : List Bk} (h1 : signE (sl z) = none) (h2 : ∀ n : Int, n ≤ 200 → mBlock z n = .ok b) (h : RunB ls bs) : RunB (z :: ls) (b :: bs) := fun rest n acc hn => by
  rw [List.length_cons] at hn
  have e : mBook (z :: (ls ++ rest)) n acc = mBook (ls ++ rest) (n + 1) (acc ++ [b]) := by
    conv => lhs; unfold mBook
    rw [h1, h2 _ (by omega)]
  show mBook (z :: (ls ++ rest)) n acc = _
  rw [e, h rest (n + 1) (acc ++ [b]) (by omega), List.append_assoc, List.length_cons]
  rw [show n + 1 + ls.length = n + (ls.length + 1) by omega]
  rfl
theorem run_good : ∀ bs : List Bk, (∀ b ∈ bs, FineB b) → RunB (bs.map lineB) bs
  | [], _ => RunB.nil
  | b :: bs, h => RunB.cons (sign_none (line_sign (h b List.mem_cons_self)).1) (fun n hn => block_ok (h b List.mem_cons_self) hn) (run_good bs fun c hc => h c (List.mem_cons_of_mem _ hc))
theorem run_rep {z : Str} {b : Bk} (h1 : signE (sl z) = none) (h2 : ∀ n : Int, n ≤ 200 → mBlock z n = .ok b) : ∀ m, RunB (List.replicate m z) (List.replicate m b)
  | 0 => RunB.nil
  | m + 1 => RunB.cons h1 h2 (run_rep h1 h2 m)
theorem RunB.full {ls : List Str} {bs : List Bk} (h : RunB ls bs) (hn : ls ≠ []) (hl : ls.length ≤ 200) : mFull ls = .ok bs := by
  unfold mFull
  rw [if_neg hn]
  have := h [] 0 [] (by omega)
  rw [List.append_nil] at this
  rw [this]
  rfl
theorem FineTx.tb {t : Str} (g : FineTx t) : goodTB t = true := by
  unfold goodTB
  have n : ¬ V.str t = V.str ("" : Str) := fun e => g.ne (by rw [V.str.inj e]; decide +kernel)
  rw [decide_eq_false n, List.all_eq_true.mpr g.sign, g.fine]
  rfl
theorem FineTx.ok {t : Str} (g : FineTx t) : PyData.strOk t = true := str_of_sign g.sign
def okBlk : Gk → Bool
  | .brk => true
  | .two _ t => goodTB t
  | .three w k t => (decide (1 ≤ k) && decide (k ≤ mostZ w)) && goodTB t
def kindG : Gk → Prop
  | .brk => True
  | .two w t => (w = "head" ∨ w = "par") ∧ t.length ≤ 1000
  | .three w _ t => (w = "item" ∨ w = "note") ∧ t.length ≤ 1000
def okBook (gs : List Gk) : Bool := (decide (1 ≤ (gs.length : Int)) && decide ((gs.length : Int) ≤ 200)) && gs.all okBlk
theorem FineB.all {b : Bk} (g : FineB b) : okBlk b.g = true ∧ kindG b.g ∧ okG b.g = true := by
  cases b with
  | brk => exact ⟨rfl, True.intro, rfl⟩
  | plain w t =>
    obtain ⟨hw, gt⟩ := g
    have l := gt.short
    refine ⟨gt.tb, ⟨hw, by rw [sl_len]; omega⟩, Bool.and_eq_true_iff.mpr ⟨?_, gt.ok⟩⟩
    rcases hw with rfl | rfl <;> decide +kernel
  | num w k t =>
    obtain ⟨hw, gt⟩ := g
    have l := gt.short
    refine ⟨?_, ⟨?_, by rw [sl_len]; omega⟩, Bool.and_eq_true_iff.mpr ⟨?_, gt.ok⟩⟩
    · show ((decide (1 ≤ (k : Int)) && decide ((k : Int) ≤ mostZ w)) && goodTB t) = true
      rw [gt.tb, Bool.and_true, Bool.and_eq_true_iff]
      refine ⟨decide_eq_true (by rcases hw with ⟨_, a, b⟩ | ⟨_, a, b⟩ <;> omega), decide_eq_true ?_⟩
      rcases hw with ⟨rfl, a, b⟩ | ⟨rfl, a, b⟩
      · have e : mostZ "item" = 3 := by decide +kernel
        rw [e]; omega
      · have e : mostZ "note" = 99 := by decide +kernel
        rw [e]; omega
    · rcases hw with ⟨h, _⟩ | ⟨h, _⟩
      · exact .inl h
      · exact .inr h
    · rcases hw with ⟨rfl, _⟩ | ⟨rfl, _⟩ <;> decide +kernel
theorem shortJ {ls : List Str} (h1 : ls.length ≤ 190) (h2 : ∀ l ∈ ls, FineLn l) : (Txt.join nlS ls).length ≤ 100000 := by
  have := join_len nlS 500 ls fun l h => (h2 l h).len
  have nl1 : nlS.length = 1 := rfl
  rw [nl1] at this
  have : ls.length * (500 + 1) ≤ 190 * 501 := Nat.mul_le_mul_right _ h1
  omega
theorem elB {b : Bk} (g : FineB b) {i : Nat} {v : V} (h : b.v[i]? = some v) : ∃ s, (strsB b)[i]? = some s ∧ (v = .str s ∨ ∃ k : Int, v = .int k ∧ k.natAbs.log2 < 1920 ∧ s = dgS k) := by
  cases b with
  | brk =>
    match i, h with
    | 0, h => exact ⟨"break", rfl, .inl (Option.some.inj h).symm⟩
    | i + 1, h => simp [Bk.v] at h
  | plain w t =>
    match i, h with
    | 0, h => exact ⟨w, rfl, .inl (Option.some.inj h).symm⟩
    | 1, h => exact ⟨t, rfl, .inl (Option.some.inj h).symm⟩
    | i + 2, h => simp [Bk.v] at h
  | num w k t =>
    obtain ⟨hw, _⟩ := g
    have k99 : k < 100 := by rcases hw with ⟨_, a, b⟩ | ⟨_, a, b⟩ <;> omega
    match i, h with
    | 0, h => exact ⟨w, rfl, .inl (Option.some.inj h).symm⟩
    | 1, h =>
      refine ⟨dgS (k : Int), rfl, .inr ⟨(k : Int), (Option.some.inj h).symm, ?_, rfl⟩⟩
      by_cases n : k = 0
      · rw [n]; decide
      · exact (Nat.log2_lt (by omega)).mpr (Nat.lt_of_lt_of_le (show (k : Int).natAbs < 100 by omega) (by decide))
    | 2, h => exact ⟨t, rfl, .inl (Option.some.inj h).symm⟩
    | i + 3, h => simp [Bk.v] at h
theorem strs_len {b : Bk} (g : FineB b) : (strsB b).length = b.v.length ∧ (strsB b).length ≤ 3 ∧ ∀ s ∈ strsB b, s.length ≤ 400 := by
  cases b with
  | brk => exact ⟨rfl, by decide, fun s h => by rw [List.mem_singleton.mp h]; decide +kernel⟩
  | plain w t =>
    obtain ⟨hw, gt⟩ := g
    have h1 : w.length ≤ 400 := by rcases hw with rfl | rfl <;> decide +kernel
    have h2 := gt.short
    refine ⟨rfl, (by show 2 ≤ 3; decide), fun s h => ?_⟩
    rcases List.mem_cons.mp h with rfl | h
    · exact h1
    · rw [List.mem_singleton.mp h, sl_len]; exact h2
  | num w k t =>
    obtain ⟨hw, gt⟩ := g
    have h1 : w.length ≤ 400 := by rcases hw with ⟨rfl, _⟩ | ⟨rfl, _⟩ <;> decide +kernel
    have h2 := gt.short
    have k99 : k < 100 := by rcases hw with ⟨_, a, b⟩ | ⟨_, a, b⟩ <;> omega
    have h3 := (num_fine ⟨k, k99⟩).2
    refine ⟨rfl, (by show 3 ≤ 3; decide), fun s h => ?_⟩
    rcases List.mem_cons.mp h with rfl | h
    · exact h1
    · rcases List.mem_cons.mp h with rfl | h
      · exact Nat.le_trans h3 (by decide)
      · rw [List.mem_singleton.mp h, sl_len]; exact h2
end Sx

set_option Elab.async false
set_option linter.all false
set_option maxRecDepth 100000
set_option maxHeartbeats 2000000
namespace Sx
open PySem PySem.Spec PyProof.Rows L2 SxA SxK
def spIsBlock : Sp := fun vs H Q _ => ∃ (v : V) (g : Gk), vs = [v] ∧ GAt H v g ∧ kindG g ∧ ∀ H', Same H H' → Q (.bl (okBlk g)) H'
def spIsBook (K : PySem.W.Frag) : Sp := fun vs H Q _ => ∃ (v : V) (gs : List Gk), vs = [v] ∧ BookG K H v gs ∧ (∀ g ∈ gs, kindG g) ∧ gs.length ≤ 1000 ∧ ∀ H', Same H H' → Q (.bl (okBook gs)) H'
theorem inPl (wz : Str) : inV (V.str wz) [V.str "head", V.str "par"] = decide (wz = "head" ∨ wz = "par") := by
  have e : ∀ k : Str, eqV (.str k) (.str wz) = decide (wz = k) := fun k => by
    show (k == wz) = _
    by_cases h : wz = k
    · rw [h]; simp
    · rw [decide_eq_false h]
      exact beq_eq_false_iff_ne.mpr fun q => h q.symm
  unfold inV
  rw [Bool.decide_or, List.any_cons, List.any_cons, List.any_nil, e, e, Bool.or_false]
section
variable {P : Program} {w : World} {K : PySem.W.Frag} {mg : Str → Option Value} {base : Heap}
abbrev nsIsBlock : List Str := ["block"]
theorem scIsBlock : FnScope nsIsBlock ["block"] (defScope sIsBlock) := ⟨rfl, rfl, rfl, by decide +kernel, rfl, by decide +kernel, by decide +kernel⟩
theorem ok_is_block (t : T K mg) (kf : KF K w) : Ok P w K mg base 4 "is_block" ["block"] spIsBlock := by
  refine mkOk t.d_is_block t.g_is_block scIsBlock (fun vs H Q E h => ?_) (fun _ _ _ _ _ _ us hl => match us, hl with | [_], _ => rfl) fun cdv A outer s H vs Q E hr h => ?_
  · obtain ⟨v, g, rfl, _⟩ := h; rfl
  obtain ⟨v, g, rfl, ⟨T, rfl, hT⟩, hk, k⟩ := h
  have hr3 : Room 3 _ := hr.mono (by decide)
  refine ⟨_, pss_cons (ps_if (PW.pt (pw_and (pt_cmpR op_eq (pe_callB call_len_seq rfl t.f_len boot_len (pa_cons (pv 0) pa_nil)) pe_int (nomark _)) (pw_and1 (pt_cmpR (op_inK (K := K) rfl) (pe_ix (ix_tupK (K := K) rfl) (pv 0) pe_int (fun _ _ => rfl)) (pe_glob (v := .ref (He.ga K "PLAIN_BLOCKS")) rfl t.g_PLAIN_BLOCKS rfl) (by rfl)))))
      (pss_one (ps_ret (pe_ok (ok_is_text t) hr3 rfl (pa_cons (pe_ix (ix_tupK (K := K) rfl) (pv 0) pe_int (fun _ _ => rfl)) pa_nil))))
      pss_nil)
    (pss_cons (ps_if (PW.pt (pw_and (pt_cmpR op_eq (pe_callB call_len_seq rfl t.f_len boot_len (pa_cons (pv 0) pa_nil)) pe_int (nomark _)) (pw_and1 (pt_cmpR (op_inKD (K := K) (w := w) rfl rfl) (pe_ix (ix_tupK (K := K) rfl) (pv 0) pe_int (fun _ _ => rfl)) (pe_glob (v := .ref (He.ga K "MOST_NUMBERS")) rfl t.g_MOST_NUMBERS rfl) (by rfl)))))
      (pss_one (ps_ret (pe_and (pe_chain op_le op_le pe_int (pe_ix (ix_tupK (K := K) rfl) (pv 0) pe_int (fun _ _ => rfl)) (pe_ix ix_kdict (pe_glob (v := .ref (He.ga K "MOST_NUMBERS")) rfl t.g_MOST_NUMBERS rfl) (pe_ix (ix_tupK (K := K) rfl) (pv 0) pe_int (fun _ _ => rfl)) (fun _ _ => rfl))) (pe_one (pe_ok (ok_is_text t) hr3 rfl (pa_cons (pe_ix (ix_tupK (K := K) rfl) (pv 0) pe_int (fun _ _ => rfl)) pa_nil))))))
      pss_nil)
    (pss_one (ps_ret (pe_cmpR (op_eqD (hu64 hr)) (pv 0) (pe_tup (pa_cons pe_str pa_nil)) (nomark _))))), ?_⟩
  have hT' : SqT K H T g.v := SqT.of hT
  cases g with
  | brk =>
    refine ⟨_, rfl, T, _, rfl, .inr hT', rfl, _, rfl, iteF ?_⟩
    refine ⟨_, rfl, T, _, rfl, .inr hT', rfl, _, rfl, iteF ?_⟩
    refine ⟨_, rfl, (by show 1 ≤ sizeLine; decide), fun U hU => ?_⟩
    have s1 : Same H (upd H U (.tup [V.str "break"])) := Same.new hU
    refine ⟨dG .brk, dG .brk, dp_g ⟨T, rfl, s1 _ _ hT⟩, dp_g ⟨U, rfl, upd_same⟩, shaped_g rfl, shaped_g rfl, ?_⟩
    rw [show PyData.eqv (dG .brk) (dG .brk) = true from SeqAt.eqv_refl_plain _ (by decide)]
    exact k _ s1
  | two wz z =>
    obtain ⟨hw, hz⟩ := hk
    refine ⟨_, rfl, T, _, rfl, .inr hT', rfl, _, rfl, iteT ?_⟩
    refine ⟨_, rfl, T, _, _, _, rfl, rfl, hT', rfl, _, _, rfl, .inr (kf.pl _), rfl, rfl, _, rfl, ?_⟩
    show (if inV (V.str wz) [V.str "head", V.str "par"] = true then _ else _)
    rw [inPl, decide_eq_true hw]
    refine iteT ⟨_, rfl, T, _, _, _, rfl, rfl, hT', atI_nat (j := 1) rfl, z, rfl, hz, fun H' s' => k H' s'⟩
  | three wz n z =>
    obtain ⟨hw, hz⟩ := hk
    refine ⟨_, rfl, T, _, rfl, .inr hT', rfl, _, rfl, iteF ?_⟩
    refine ⟨_, rfl, T, _, rfl, .inr hT', rfl, _, rfl, iteT ?_⟩
    refine ⟨_, rfl, T, _, _, _, rfl, rfl, hT', rfl, _, wz, _, rfl, rfl, kf.has wz, _, rfl, ?_⟩
    rw [decide_eq_true (show wz ∈ (["item", "note"] : List Str) by simpa using hw)]
    refine iteT ?_
    have kd : KDct K w (He.ga K "MOST_NUMBERS") wz (.int (mostZ wz)) := by
      rcases hw with rfl | rfl
      · exact kf.item
      · exact kf.note
    have k' : ∀ (b : Bool) (H' : Hp), Same H H' → ((decide (1 ≤ n) && decide (n ≤ mostZ wz)) && goodTB z) = b → Q (.bl b) H' := fun b H' s e => by rw [← e]; exact k H' s
    refine ⟨_, rfl, T, _, _, _, rfl, rfl, hT', atI_nat (j := 1) rfl, _, _, rfl, rfl, _, rfl, ?_⟩
    refine ite2 (fun h1 => ?_) (fun h1 => ⟨_, rfl, iteF (k' _ _ (Same.refl _) (by rw [Bool.not_eq_true] at h1; simp only [h1, Bool.false_and]))⟩)
    refine ⟨_, rfl, T, _, _, _, rfl, rfl, hT', rfl, _, _, _, rfl, rfl, kd, _, _, rfl, rfl, _, rfl, ?_⟩
    refine ite2 (fun h2 => ?_) (fun h2 => k' _ _ (Same.refl _) (by rw [Bool.not_eq_true] at h2; simp only [h2, Bool.false_and, Bool.and_false]))
    refine ⟨_, rfl, T, _, _, _, rfl, rfl, hT', atI_nat (j := 2) rfl, z, rfl, hz, fun H' s' => k' _ _ s' ?_⟩
    rw [h1, h2]
    rfl
abbrev nsIsBook : List Str := ["book", "block"]
theorem scIsBook : FnScope nsIsBook ["book"] (defScope sIsBook) := ⟨rfl, rfl, rfl, by decide +kernel, rfl, by decide +kernel, by decide +kernel⟩
theorem ok_is_book (t : T K mg) (kf : KF K w) : Ok P w K mg base 5 "is_book" ["book"] (spIsBook K) := by
  obtain ⟨k1', hk⟩ := t.i_MOST_BLOCKS
  refine mkOk t.d_is_book t.g_is_book scIsBook (fun vs H Q E h => ?_) (fun _ _ _ _ _ _ us hl => match us, hl with | [_], _ => rfl) fun cdv A outer s H vs Q E hr h => ?_
  · obtain ⟨v, gs, rfl, _⟩ := h; rfl
  obtain ⟨v, gs, rfl, ⟨x, dx, l, rfl, hx, hl⟩, hg, hn, k⟩ := h
  have hr4 : Room 4 _ := hr.mono (by decide)
  refine ⟨_, pss_one (ps_ret (pe_and (pe_chain op_le op_le pe_int (pe_callB call_len_seq rfl t.f_len boot_len (pa_cons (pe_fld (pv 0) rfl) pa_nil)) (pgi rfl hk)) (pe_one (pe_callB (cr_all rfl) rfl t.f_all (by decide +kernel) (pa_cons (pe_lc (own := [("block", 1)]) (g := gName 1) (tt := tYes) rfl scIsBook.nd (pi_list (pe_fld (pv 0) rfl)) (blkOk_by (own := [("block", 1)]) (N := nsIsBook) (sc := defScope sIsBook) (by decide +kernel)) (fun _ _ _ _ _ => pg_name (i := 1) scIsBook.nd rfl (Or.inl rfl)) (fun _ _ _ _ _ => pts_nil) (fun _ _ _ _ _ => (pe_ok (ok_is_block t kf) hr4 rfl (pa_cons (pv 1) pa_nil)))) pa_nil))))), ?_⟩
  obtain ⟨vs, hvs, hgv⟩ := hl
  have k' : ∀ (b : Bool) (H' : Hp), Same H H' → okBook gs = b → Q (.bl b) H' := fun b H' s e => e ▸ k H' s
  unfold okBook at k'
  rw [← hgv.1] at k'
  refine ⟨_, rfl, x, _, dx, _, _, rfl, hx, t.c_Book, t.n_Book_blocks, lk_blocks _, l, _, rfl, .inl (SqL.of hvs), _, _, rfl, rfl, _, rfl, ?_⟩
  refine ite2 (fun h1 => ?_) (fun h1 => ⟨_, rfl, iteF (k' _ _ (Same.refl _) (by rw [Bool.not_eq_true] at h1; simp only [h1, Bool.false_and]))⟩)
  refine ⟨_, _, rfl, rfl, _, rfl, ?_⟩
  refine ite2 (fun h2 => ?_) (fun h2 => k' _ _ (Same.refl _) (by rw [Bool.not_eq_true] at h2; simp only [h2, Bool.false_and, Bool.and_false]))
  refine ⟨_, rfl, x, _, dx, _, _, rfl, hx, t.c_Book, t.n_Book_blocks, lk_blocks _, l, rfl, ⟨_, SqL.of hvs⟩, fun D hD => ?_⟩
  have big : 1000 ≤ sizeLine := by decide
  refine lc_known (xs := vs) (ys := (gs.map okBlk).map V.bl) hD (SqL.of hvs) (by rw [List.length_map, List.length_map, hgv.1]) (by rw [List.length_map, List.length_map]; omega) (fun _ => rfl) (fun i y z H2 Q1 hy hz sm k1 => ?_) (fun H2 sm hH => ?_)
  · rw [List.getElem?_map, List.getElem?_map] at hz
    obtain ⟨r, hr1, rfl⟩ := Option.map_eq_some_iff.mp hz
    obtain ⟨g, hg1, rfl⟩ := Option.map_eq_some_iff.mp hr1
    exact ⟨_, rfl, y, g, rfl, (hgv.2 i y g hy hg1).same sm, hg g (List.mem_of_getElem? hg1), fun H' s => k1 H' s⟩
  refine ⟨D, gs.map okBlk, rfl, sqD hH, k' _ _ sm ?_⟩
  rw [h1, h2]
  simp
end
end Sx

set_option Elab.async false
set_option linter.all false
set_option maxRecDepth 100000
set_option maxHeartbeats 2000000
namespace Sx
open PySem PySem.Spec PyProof.Rows L2 SxA SxK
theorem pe_joinK {X : Cx} {K : PySem.W.Frag} {o e : Expr} {to te : TE} {apos pos : Pos} (h : X.K = K) (ho : PE X o to) (he : PE X e te) (hs : starEach [e] X.env = [(false, eval e X.env)] := by rfl) (hbase : attributeBase o "join" X.env (eval o X.env) = eval o X.env := by rfl) (hline : (apos.endLine == pos.line) = true := by rfl) :
    PE X (.Call (.Attribute o "join" apos) [e] [] pos) (tJoinK K to te) := by
  subst h
  exact pe_join ho he hs hbase hline
theorem call_isiK {X : Cx} {K : PySem.W.Frag} (h : X.K = K) : CallR X (.builtin "isinstance") (rIsi K) := by
  subst h
  exact call_isi
theorem pi_tupK {X : Cx} {K : PySem.W.Frag} {tg it : Expr} {ta : TE} (h : X.K = K) (ha : PE X it ta) : PI X tg it (iTup K ta) := by
  subst h
  exact pi_tup ha
section
variable {P : Program} {w : World} {K : PySem.W.Frag} {mg : Str → Option Value} {base : Heap}
theorem scEnded : FnScope nsEnded ["lines"] (defScope sEnded) := ⟨rfl, rfl, rfl, by decide +kernel, rfl, by decide +kernel, by decide +kernel⟩
theorem ok_ended (t : T K mg) : Ok P w K mg base 1 "ended" ["lines"] (spEnded K) := by
  refine mkOk t.d_ended t.g_ended scEnded (fun vs H Q E h => ?_) (fun _ _ _ _ _ _ us hl => match us, hl with | [_], _ => rfl) fun cdv A outer s H vs Q E hr h => ?_
  · obtain ⟨a, ls, rfl, _⟩ := h; rfl
  obtain ⟨a, ls, rfl, hS, hn, hl, k⟩ := h
  refine ⟨_, pss_one (ps_ret (pe_join pe_str (pe_lc (own := [("line", 1)]) (g := gName 1) (tt := tYes) rfl scEnded.nd (pi_list (pv 0)) (blkOk_by (own := [("line", 1)]) (N := nsEnded) (sc := defScope sEnded) (by decide +kernel))
      (fun _ _ _ _ _ => pg_name (i := 1) scEnded.nd rfl (Or.inl rfl)) (fun _ _ _ _ _ => pts_nil) (fun _ _ _ _ _ => pe_op op_add_str (pv 1) pe_str)))), ?_⟩
  have lc : (Str.ofString "\n").length = 1 := by decide +kernel
  have le : (Str.ofString "").length = 0 := by decide +kernel
  have big : 4100 ≤ sizeLine := by decide
  refine ⟨⟨_, rfl⟩, _, rfl, a, rfl, ⟨_, hS⟩, fun D hD => ?_⟩
  refine lc_known (xs := ls.map V.str) (ys := ls.map fun l => V.str (l ++ Str.ofString "\n")) hD hS (by simp) (by simp; omega) (fun _ => rfl) (fun i x y H2 Q1 hx hy sm k1 => ?_) (fun H' sm hH => ?_)
  · rw [List.getElem?_map] at hx hy
    obtain ⟨d, hd, rfl⟩ := Option.map_eq_some_iff.mp hx
    rw [hd] at hy
    cases hy
    have h6 := hl d (List.mem_of_getElem? hd)
    exact ⟨_, rfl, _, _, rfl, rfl, (by rw [lc]; omega), k1 _ (Same.refl _)⟩
  · refine ⟨_, D, ls.map fun l => l ++ Str.ofString "\n", rfl, rfl, .inl (SqL.of (by rw [hH, List.map_map]; rfl)), ?_, k H' sm⟩
    have hs := lenSum_le (B := 4001) (ls := ls.map fun l => l ++ Str.ofString "\n") fun l h => by
      obtain ⟨l0, h0, rfl⟩ := List.mem_map.mp h
      have := hl l0 h0
      rw [len_app, lc]
      omega
    unfold lenSum at hs
    rw [le, List.length_map]
    rw [List.length_map] at hs
    have : ls.length * 4001 ≤ 4002 * 4001 := Nat.mul_le_mul_right _ hn
    omega
end
/-! ### write_block, write_book -/
def spWBlock : Sp := fun vs H Q _ => ∃ (v : V) (b : Bk), vs = [v] ∧ GAt H v b.g ∧ FineB b ∧ ∀ H', Same H H' → Q (.str (lineB b)) H'
def spWBook (K : PySem.W.Frag) : Sp := fun vs H Q _ => ∃ (v : V) (bs : List Bk), vs = [v] ∧ BookG K H v (bs.map Bk.g) ∧ (∀ b ∈ bs, FineB b) ∧ bs.length ≤ 300 ∧ ∀ H', Same H H' → Q (.str (endS (bs.map lineB))) H'
theorem strs_sum {b : Bk} (g : FineB b) : ((strsB b).map (·.length)).sum + (strsB b).length * (Str.ofString " ").length ≤ 16777216 := by
  obtain ⟨sl1, sl3, s4⟩ := strs_len g
  have hs := lenSum_le (B := 400) (ls := strsB b) s4
  unfold lenSum at hs
  have e1 : (Str.ofString " ").length = 1 := by decide +kernel
  rw [e1]
  omega
theorem elB2 {b : Bk} (g : FineB b) {i : Nat} {v : V} (h : b.v[i]? = some v) : ∃ s, (strsB b)[i]? = some s ∧ (v = .str s ∨ ∃ k : Int, v = .int k ∧ (0 ≤ k ∧ k < 10 ^ 10) ∧ k.natAbs.log2 < 1920 ∧ s = dgS k) := by
  obtain ⟨s, h1, h2⟩ := elB g h
  refine ⟨s, h1, ?_⟩
  rcases h2 with h2 | ⟨k, rfl, hk, rfl⟩
  · exact .inl h2
  · refine .inr ⟨k, rfl, ?_, hk, rfl⟩
    cases b with
    | brk => cases i with | zero => cases h | succ i => simp [Bk.v] at h
    | plain w t => match i, h with | 0, h => cases h | 1, h => cases h | i + 2, h => simp [Bk.v] at h
    | num w n t =>
      obtain ⟨hw, _⟩ := g
      have k99 : n < 100 := by rcases hw with ⟨_, a, b⟩ | ⟨_, a, b⟩ <;> omega
      match i, h with
      | 0, h => cases h
      | 1, h =>
        have e : (n : Int) = k := V.int.inj (Option.some.inj h)
        constructor <;> omega
      | 2, h => cases h
      | i + 3, h => simp [Bk.v] at h
theorem kit_ss {K : PySem.W.Frag} : PySem.W.kitOne K (.type "str") (.type "str") = some true := kit_ty (by decide +kernel)
theorem kit_is {K : PySem.W.Frag} : PySem.W.kitOne K (.type "int") (.type "str") = some false := kit_ty (by decide +kernel)
section
variable {P : Program} {w : World} {K : PySem.W.Frag} {mg : Str → Option Value} {base : Heap}
abbrev nsWriteBlock : List Str := ["block", "part"]
theorem scWriteBlock : FnScope nsWriteBlock ["block"] (defScope sWriteBlock) := ⟨rfl, rfl, rfl, by decide +kernel, rfl, by decide +kernel, by decide +kernel⟩
theorem ok_write_block (t : T K mg) : Ok P w K mg base 2 "write_block" ["block"] spWBlock := by
  refine mkOk t.d_write_block t.g_write_block scWriteBlock (fun vs H Q E h => ?_) (fun _ _ _ _ _ _ us hl => match us, hl with | [_], _ => rfl) fun cdv A outer s H vs Q E hr h => ?_
  · obtain ⟨v, b, rfl, _⟩ := h; rfl
  obtain ⟨v, b, rfl, ⟨T, rfl, hT⟩, g, k⟩ := h
  rw [Bk.gv] at hT
  have hr1 : Room 1 _ := hr.mono (by decide)
  refine ⟨_, pss_one (ps_ret (pe_joinK (K := K) rfl pe_str (pe_lc (own := [("part", 1)]) (g := gName 1) (tt := tYes) rfl scWriteBlock.nd (pi_tupK (K := K) rfl (pv 0)) (blkOk_by (own := [("part", 1)]) (N := nsWriteBlock) (sc := defScope sWriteBlock) (by decide +kernel)) (fun _ _ _ _ _ => pg_name (i := 1) scWriteBlock.nd rfl (Or.inl rfl)) (fun _ _ _ _ _ => pts_nil) (fun _ _ _ _ _ => (pe_ifExp (pt_val (pe_callB (id := "isinstance") (call_isiK (K := K) rfl) rfl t.f_isinstance (by decide +kernel) (pa_cons (pv 1) (pa_cons (pe_bltn (v := .ty "str") rfl t.f_str (by decide +kernel) rfl) pa_nil)))) (pv 1) (pe_ok (ok_number_word t) hr1 rfl (pa_cons (pv 1) pa_nil))))))), ?_⟩
  obtain ⟨sl1, sl3, s4⟩ := strs_len g
  have big : 100 ≤ sizeLine := by decide
  refine ⟨⟨_, rfl⟩, _, rfl, T, rfl, ⟨_, SqT.of hT⟩, fun D hD => ?_⟩
  refine lc_tup (K := K) (a := T) (xs := b.v) (g := gName 1) (fun j H' => H' D = some (.lst (((strsB b).take j).map V.str)) ∧ Same H H') ⟨upd_same, Same.new hD⟩ (fun j H5 _ z => SqT.of (z.2 _ _ hT)) ?_ ?_
  · rintro j v H5 hv ⟨hd, s5⟩
    obtain ⟨s', hs', hcase⟩ := elB2 g hv
    have jl := (List.getElem?_eq_some_iff.mp hv).1
    have fin : ∀ H6, Same H5 H6 → ∃ acc, H6 D = some (.lst acc) ∧ acc.length < sizeLine ∧ (upd H6 D (.lst (acc ++ [V.str s']))) D = some (.lst (((strsB b).take (j + 1)).map V.str)) ∧ Same H (upd H6 D (.lst (acc ++ [V.str s']))) := fun H6 s6 => by
      refine ⟨_, s6 _ _ hd, ?_, ?_, fun c o e => by rw [upd_ne (ne_of_none e hD)]; exact s6 _ _ (s5 _ _ e)⟩
      · rw [List.length_map, List.length_take]
        omega
      · rw [upd_same, List.take_add_one, hs', List.map_append]
        rfl
    refine ⟨rfl, ?_⟩
    rcases hcase with rfl | ⟨k', rfl, hk1, hk2, rfl⟩
    · exact ⟨_, rfl, _, _, _, _, _, rfl, .ty "str", .base (.str _), kit_ss, _, rfl, iteT ⟨_, rfl, fin _ (Same.refl _)⟩⟩
    · exact ⟨_, rfl, _, _, _, _, _, rfl, .ty "str", .base (.int _), kit_is, _, rfl, iteF ⟨_, rfl, k', rfl, hk1, fun H6 s6 => fin _ s6⟩⟩
  · rintro H5 ⟨hd, s5⟩
    rw [← sl1, List.take_length] at hd
    exact ⟨_, D, strsB b, rfl, rfl, .inl (SqL.of hd), strs_sum g, k H5 s5⟩
abbrev nsWriteBook : List Str := ["book", "block"]
theorem scWriteBook : FnScope nsWriteBook ["book"] (defScope sWriteBook) := ⟨rfl, rfl, rfl, by decide +kernel, rfl, by decide +kernel, by decide +kernel⟩
theorem ok_write_book (t : T K mg) : Ok P w K mg base 3 "write_book" ["book"] (spWBook K) := by
  refine mkOk t.d_write_book t.g_write_book scWriteBook (fun vs H Q E h => ?_) (fun _ _ _ _ _ _ us hl => match us, hl with | [_], _ => rfl) fun cdv A outer s H vs Q E hr h => ?_
  · obtain ⟨v, bs, rfl, _⟩ := h; rfl
  obtain ⟨v, bs, rfl, ⟨x, dx, l, rfl, hx, vs, hvs, hgv⟩, hg, hn, k⟩ := h
  have hr1 : Room 1 _ := hr.mono (by decide)
  have hr2 : Room 2 _ := hr.mono (by decide)
  refine ⟨_, pss_one (ps_ret (pe_ok (ok_ended t) hr1 rfl (pa_cons (pe_lc (own := [("block", 1)]) (g := gName 1) (tt := tYes) rfl scWriteBook.nd (pi_list (pe_fld (pv 0) rfl)) (blkOk_by (own := [("block", 1)]) (N := nsWriteBook) (sc := defScope sWriteBook) (by decide +kernel)) (fun _ _ _ _ _ => pg_name (i := 1) scWriteBook.nd rfl (Or.inl rfl)) (fun _ _ _ _ _ => pts_nil) (fun _ _ _ _ _ => (pe_ok (ok_write_block t) hr2 rfl (pa_cons (pv 1) pa_nil)))) pa_nil))), ?_⟩
  have big : 1000 ≤ sizeLine := by decide
  have hl := hgv.1
  rw [List.length_map] at hl
  refine ⟨_, rfl, x, _, dx, _, _, rfl, hx, t.c_Book, t.n_Book_blocks, lk_blocks _, l, rfl, ⟨_, SqL.of hvs⟩, fun D hD => ?_⟩
  refine lc_known (xs := vs) (ys := (bs.map lineB).map V.str) hD (SqL.of hvs) (by rw [List.length_map, List.length_map, hl]) (by rw [List.length_map, List.length_map]; omega) (fun _ => rfl) (fun i y z H2 Q1 hy hz sm k1 => ?_) (fun H2 sm hH => ?_)
  · rw [List.getElem?_map, List.getElem?_map] at hz
    obtain ⟨r, hr1, rfl⟩ := Option.map_eq_some_iff.mp hz
    obtain ⟨b, hb1, rfl⟩ := Option.map_eq_some_iff.mp hr1
    exact ⟨_, rfl, y, b, rfl, (hgv.2 i y b.g hy (by rw [List.getElem?_map, hb1]; rfl)).same sm, hg b (List.mem_of_getElem? hb1), fun H' s => k1 H' s⟩
  refine ⟨D, bs.map lineB, rfl, SqL.of hH, by rw [List.length_map]; omega, fun y hy => ?_, fun H' s => k H' (sm.trans s)⟩
  obtain ⟨b, hb, rfl⟩ := List.mem_map.mp hy
  exact Nat.le_trans (fine_line (hg b hb)).len (by decide)
end
end Sx

set_option Elab.async false
set_option linter.all false
set_option maxRecDepth 100000
set_option maxHeartbeats 4000000
namespace Sx
open PySem PySem.Spec PyProof.Rows L2 SxA SxK
/-! ### changed blocks -/
theorem GksV.but {H H' : Hp} {a L : Addr} {vs : List V} {gs : List Gk} (h : GksV H vs gs) (S : St H a L) (B : But a H H') : GksV H' vs gs := ⟨h.1, fun i v g e1 e2 => by
  obtain ⟨T, e, hT⟩ := h.2 i v g e1 e2
  exact ⟨T, e, B _ _ hT (St.tup S hT)⟩⟩
structure CH (gs : List Gk) (due : Bool) : Prop where
  kind : ∀ g ∈ gs, kindG g
  ok : ∀ g ∈ gs, okG g = true
  len : gs.length ≤ 300
  bk : okBook gs = due
  back : due = true → ∃ bs : List Bk, gs = bs.map Bk.g ∧ (∀ b ∈ bs, FineB b) ∧ 1 ≤ bs.length ∧ bs.length ≤ 200
theorem all_ok {bs : List Bk} (h : ∀ b ∈ bs, FineB b) : (bs.map Bk.g).all okBlk = true := by
  rw [List.all_eq_true]
  intro g hg
  obtain ⟨b, hb, rfl⟩ := List.mem_map.mp hg
  exact (h b hb).all.1
theorem CH.good {bs : List Bk} (h : ∀ b ∈ bs, FineB b) (h1 : 1 ≤ bs.length) (h2 : bs.length ≤ 200) : CH (bs.map Bk.g) true := by
  refine ⟨fun g hg => ?_, fun g hg => ?_, by rw [List.length_map]; omega, ?_, fun _ => ⟨bs, rfl, h, h1, h2⟩⟩
  · obtain ⟨b, hb, rfl⟩ := List.mem_map.mp hg
    exact (h b hb).all.2.1
  · obtain ⟨b, hb, rfl⟩ := List.mem_map.mp hg
    exact (h b hb).all.2.2
  · unfold okBook
    rw [all_ok h, List.length_map, decide_eq_true (show (1 : Int) ≤ (bs.length : Int) by omega), decide_eq_true (show (bs.length : Int) ≤ 200 by omega)]
    rfl
theorem CH.app {bs : List Bk} {x : Gk} {due : Bool} (h : ∀ b ∈ bs, FineB b) (h2 : bs.length ≤ 8) (k : kindG x) (o : okG x = true) (e : okBlk x = due) (b : due = true → ∃ b, x = b.g ∧ FineB b) : CH (bs.map Bk.g ++ [x]) due := by
  refine ⟨fun g hg => ?_, fun g hg => ?_, ?_, ?_, fun hd => ?_⟩
  · rcases List.mem_append.mp hg with hg | hg
    · obtain ⟨b, hb, rfl⟩ := List.mem_map.mp hg
      exact (h b hb).all.2.1
    · rw [List.mem_singleton.mp hg]; exact k
  · rcases List.mem_append.mp hg with hg | hg
    · obtain ⟨b, hb, rfl⟩ := List.mem_map.mp hg
      exact (h b hb).all.2.2
    · rw [List.mem_singleton.mp hg]; exact o
  · rw [List.length_append, List.length_map]; show bs.length + 1 ≤ 300; omega
  · unfold okBook
    have el : ((bs.map Bk.g ++ [x]).length : Int) = (bs.length : Int) + 1 := by rw [List.length_append, List.length_map]; rfl
    rw [el, decide_eq_true (show (1 : Int) ≤ (bs.length : Int) + 1 by omega), decide_eq_true (show (bs.length : Int) + 1 ≤ 200 by omega), List.all_append, all_ok h]
    simp [e]
  · obtain ⟨b0, rfl, fb⟩ := b hd
    refine ⟨bs ++ [b0], by rw [List.map_append]; rfl, fun c hc => ?_, by rw [List.length_append]; show 1 ≤ bs.length + 1; omega, by rw [List.length_append]; show bs.length + 1 ≤ 200; omega⟩
    rcases List.mem_append.mp hc with hc | hc
    · exact h c hc
    · rw [List.mem_singleton.mp hc]; exact fb
def aL : List Nat := List.replicate 400 97
theorem aL_len : aL.length = 400 := List.length_replicate
theorem aL_mem : ∀ c ∈ aL, c = 97 := fun c h => (List.mem_replicate.mp h).2
theorem fault_a {j : Nat} (h : j < 400) (tl : List Nat) : faultB (aL ++ tl) j = false := by
  have e : (aL ++ tl)[j]? = some 97 := by
    rw [List.getElem?_append_left (by rw [aL_len]; exact h)]
    unfold aL
    rw [List.getElem?_replicate, if_pos h]
  unfold faultB
  rw [e, decide_eq_false (show ¬ j = 400 by omega)]
  rfl
theorem fault_none : faultF aL = none := find_no fun j hj => by
  rw [aL_len] at hj
  have := fault_a hj []
  rw [List.append_nil] at this
  exact this
theorem fault_some {c : Nat} : faultF (aL ++ [c]) = some 400 := find_at (by rw [List.length_append, aL_len]; show 400 < 400 + 1; decide) (by unfold faultB; rw [decide_eq_true rfl]; rfl) fun j hj => fault_a hj _
theorem aL_sign : ∀ c ∈ aL, signB c = true := fun c h => by rw [aL_mem c h]; rfl
def aN (n : Nat) : Str := pcS (List.replicate n 97)
theorem aN_sl (n : Nat) : sl (aN n) = List.replicate n 97 := by unfold aN; rw [sl_pcS]
def tx8 : List Str := ["", " a", "a ", "a  b", "a\tb", aN 400, aN 401, aN 399 ++ Str.ofString " "]
theorem aN_fine : FineTx (aN 400) := by
  have e : sl (aN 400) = aL := aN_sl 400
  refine ⟨by rw [e]; intro q; have := aL_len; rw [q] at this; exact absurd this (by decide), by rw [e, aL_len]; decide, fun c hc => ?_, by rw [e]; exact fault_none⟩
  rw [e] at hc
  exact aL_sign c hc
structure TxP (z : Str) : Prop where
  good : goodTB z = decide (z = aN 400)
  len : z.length ≤ 1000
  ok : PyData.strOk z = true
theorem txp_bad {z : Str} (h : goodTB z = false) (l : z.length ≤ 1000) (o : PyData.strOk z = true) : TxP z := by
  refine ⟨?_, l, o⟩
  rw [h]
  refine (decide_eq_false fun e => ?_).symm
  rw [e, aN_fine.tb] at h
  cases h
theorem good_fault {z : Str} {i : Nat} (h : faultF (sl z) = some i) : goodTB z = false := by
  unfold goodTB
  rw [h]
  simp
theorem tx_ok : ∀ z ∈ tx8, TxP z := by
  have s401 : sl (aN 401) = aL ++ [97] := (aN_sl 401).trans List.replicate_succ'
  have s399 : sl (aN 399 ++ Str.ofString " ") = List.replicate 399 97 ++ [32] := by
    rw [sl_app, aN_sl]
    rfl
  have l399 : (List.replicate 399 97).length = 399 := List.length_replicate
  intro z hz
  rcases List.mem_cons.mp hz with rfl | hz
  · exact txp_bad (by decide +kernel) (by decide +kernel) (by decide +kernel)
  rcases List.mem_cons.mp hz with rfl | hz
  · exact txp_bad (by decide +kernel) (by decide +kernel) (by decide +kernel)
  rcases List.mem_cons.mp hz with rfl | hz
  · exact txp_bad (by decide +kernel) (by decide +kernel) (by decide +kernel)
  rcases List.mem_cons.mp hz with rfl | hz
  · exact txp_bad (by decide +kernel) (by decide +kernel) (by decide +kernel)
  rcases List.mem_cons.mp hz with rfl | hz
  · exact txp_bad (by decide +kernel) (by decide +kernel) (by decide +kernel)
  rcases List.mem_cons.mp hz with rfl | hz
  · exact ⟨by rw [aN_fine.tb, decide_eq_true rfl], by rw [sl_len, aN_sl, List.length_replicate]; decide, aN_fine.ok⟩
  rcases List.mem_cons.mp hz with rfl | hz
  · refine txp_bad (good_fault (by rw [s401]; exact fault_some)) (by rw [sl_len, aN_sl, List.length_replicate]; decide) (str_of_sign fun c h => ?_)
    rw [aN_sl] at h
    rw [(List.mem_replicate.mp h).2]
    decide
  · rw [List.mem_singleton.mp hz]
    refine txp_bad (good_fault (i := 399) ?_) (by rw [sl_len, s399, List.length_append, l399]; decide) (str_of_sign fun c h => ?_)
    · rw [s399]
      refine find_at (by rw [List.length_append, l399]; decide) ?_ fun j hj => ?_
      · have e : (List.replicate 399 97 ++ [32])[399]? = some 32 := by rw [List.getElem?_append_right (by rw [l399]; exact Nat.le_refl _), l399]; rfl
        unfold faultB spareB
        rw [e, List.length_append, l399]
        decide
      · have e : (List.replicate 399 97 ++ [32])[j]? = some 97 := by
          rw [List.getElem?_append_left (by rw [l399]; exact hj), List.getElem?_replicate, if_pos hj]
        unfold faultB
        rw [e, decide_eq_false (show ¬ j = 400 by omega)]
        rfl
    · rw [s399] at h
      rcases List.mem_append.mp h with h | h
      · rw [(List.mem_replicate.mp h).2]; decide
      · rw [List.mem_singleton.mp h]; decide
theorem aOne_fine : FineTx ("a" : Str) := by
  have e : sl ("a" : Str) = [97] := by decide +kernel
  refine ⟨by rw [e]; decide, by rw [e]; decide, fun c hc => ?_, by rw [e]; decide +kernel⟩
  rw [e] at hc
  rw [List.mem_singleton.mp hc]
  decide
theorem dec_str (x y : Str) : decide (V.str x = V.str y) = decide (x = y) := decide_eq_decide.mpr ⟨fun e => V.str.inj e, fun e => by rw [e]⟩
def spChanged : Sp := fun vs H Q _ => ∃ (a L R : Addr) (us : List V) (bs : List Bk), vs = [.ref a, .ref R] ∧ St H a L ∧ R ≠ a ∧ H R = some (.lst us) ∧ GksV H us (bs.map Bk.g) ∧ (∀ b ∈ bs, FineB b) ∧ 1 ≤ bs.length ∧ bs.length ≤ 8 ∧
  ∀ (T C : Addr) (gs : List Gk) (due : Bool) H', But a H H' → St H' a L → H' T = some (.tup [.ref C, .bl due]) → GksL H' C gs → C ≠ a → CH gs due → Q (.ref T) H'
def spLLine : Sp := fun vs H Q _ => ∃ (v : V) (b : Bk), vs = [v] ∧ GAt H v b.g ∧ FineB b ∧ ∀ H', Same H H' → Q (.str (lineB b)) H'
section
variable {P : Program} {w : World} {K : PySem.W.Frag} {mg : Str → Option Value} {base : Heap}
abbrev nsLawLine : List Str := ["block", "part"]
theorem scLawLine : FnScope nsLawLine ["block"] (defScope sLawLine) := ⟨rfl, rfl, rfl, by decide +kernel, rfl, by decide +kernel, by decide +kernel⟩
theorem ok_law_line (t : T K mg) : Ok P w K mg base 1 "_law_line" ["block"] spLLine := by
  refine mkOk t.d_law_line t.g_law_line scLawLine (fun vs H Q E h => ?_) (fun _ _ _ _ _ _ us hl => match us, hl with | [_], _ => rfl) fun cdv A outer s H vs Q E hr h => ?_
  · obtain ⟨v, b, rfl, _⟩ := h; rfl
  obtain ⟨v, b, rfl, ⟨T, rfl, hT⟩, g, k⟩ := h
  rw [Bk.gv] at hT
  refine ⟨_, pss_one (ps_ret (pe_joinK (K := K) rfl pe_str (pe_lc (own := [("part", 1)]) (g := gName 1) (tt := tYes) rfl scLawLine.nd (pi_tupK (K := K) rfl (pv 0)) (blkOk_by (own := [("part", 1)]) (N := nsLawLine) (sc := defScope sLawLine) (by decide +kernel)) (fun _ _ _ _ _ => pg_name (i := 1) scLawLine.nd rfl (Or.inl rfl)) (fun _ _ _ _ _ => pts_nil) (fun _ _ _ _ _ => (pe_callTy (call_or call_str_int SkE.call_str_str) rfl t.f_str (by decide +kernel) (pa_cons (pv 1) pa_nil)))))), ?_⟩
  obtain ⟨sl1, sl3, s4⟩ := strs_len g
  have big : 100 ≤ sizeLine := by decide
  refine ⟨⟨_, rfl⟩, _, rfl, T, rfl, ⟨_, SqT.of hT⟩, fun D hD => ?_⟩
  refine lc_tup (K := K) (a := T) (xs := b.v) (g := gName 1) (fun j H' => H' D = some (.lst (((strsB b).take j).map V.str)) ∧ Same H H') ⟨upd_same, Same.new hD⟩ (fun j H5 _ z => SqT.of (z.2 _ _ hT)) ?_ ?_
  · rintro j v H5 hv ⟨hd, s5⟩
    obtain ⟨s', hs', hcase⟩ := elB2 g hv
    have jl := (List.getElem?_eq_some_iff.mp hv).1
    have fin : ∃ acc, H5 D = some (.lst acc) ∧ acc.length < sizeLine ∧ (upd H5 D (.lst (acc ++ [V.str s']))) D = some (.lst (((strsB b).take (j + 1)).map V.str)) ∧ Same H (upd H5 D (.lst (acc ++ [V.str s']))) := by
      refine ⟨_, hd, ?_, ?_, fun c o e => by rw [upd_ne (ne_of_none e hD)]; exact s5 _ _ e⟩
      · rw [List.length_map, List.length_take]
        omega
      · rw [upd_same, List.take_add_one, hs', List.map_append]
        rfl
    refine ⟨rfl, ?_⟩
    rcases hcase with rfl | ⟨k', rfl, hk1, hk2, rfl⟩
    · exact ⟨_, rfl, .inr ⟨s', rfl, fin⟩⟩
    · exact ⟨_, rfl, .inl ⟨k', rfl, hk2, fin⟩⟩
  · rintro H5 ⟨hd, s5⟩
    rw [← sl1, List.take_length] at hd
    exact ⟨_, D, strsB b, rfl, rfl, .inl (SqL.of hd), strs_sum g, k H5 s5⟩
end
end Sx

set_option Elab.async false
set_option linter.all false
set_option maxRecDepth 100000
set_option maxHeartbeats 4000000
namespace Sx
open PySem PySem.Spec PyProof.Rows L2 SxA SxK
section
variable {P : Program} {w : World} {K : PySem.W.Frag} {mg : Str → Option Value} {base : Heap}
abbrev nsLawChanged : List Str := ["state", "blocks", "pick", "count", "text", "depth", "label"]
theorem scLawChanged : FnScope nsLawChanged ["state", "blocks"] (defScope sLawChanged) := ⟨rfl, rfl, rfl, by decide +kernel, rfl, by decide +kernel, by decide +kernel⟩
theorem ok_law_changed (t : T K mg) : Ok P w K mg base 2 "_law_changed" ["state", "blocks"] spChanged := by
  refine mkOk t.d_law_changed t.g_law_changed scLawChanged (fun vs H Q E h => ?_) (fun _ _ _ _ _ _ us hl => match us, hl with | [_, _], _ => rfl) fun cdv A outer s H vs Q E hr h => ?_
  · obtain ⟨a, L, R, us, bs, rfl, _⟩ := h; rfl
  obtain ⟨a, L, R, us, bs, rfl, hS, nRa, hR, hG, hF, hb1, hb8, k⟩ := h
  have hr1 : Room 1 _ := hr.mono (by decide)
  refine ⟨_, pss_cons (ps_set (i := 2) scLawChanged.nd rfl (Or.inl rfl) (pe_ok (ok_draw t) hr1 rfl (pa_cons (pv 0) (pa_cons pe_int pa_nil))))
    (pss_cons (ps_if (pt_cmpR op_eq (pv 2) pe_int (nomark _))
      (pss_one (ps_ret (pe_tup (pa_cons (pe_lst pa_nil) (pa_cons pe_bl pa_nil)))))
      pss_nil)
    (pss_cons (ps_if (pt_cmpR op_eq (pv 2) pe_int (nomark _))
      (pss_cons (ps_set (i := 3) scLawChanged.nd rfl (Or.inl rfl) (pe_op op_add pe_int (pe_ok (ok_draw t) hr1 rfl (pa_cons (pv 0) (pa_cons pe_int pa_nil)))))
    (pss_one (ps_ret (pe_tup (pa_cons (pe_op op_rep (pe_lst (pa_cons (pe_tup (pa_cons pe_str pa_nil)) pa_nil)) (pv 3)) (pa_cons (pe_cmpR op_eq (pv 3) pe_int (nomark _)) pa_nil))))))
      pss_nil)
    (pss_cons (ps_if (pt_cmpR op_lt (pv 2) pe_int (nomark _))
      (pss_cons (ps_set (i := 4) scLawChanged.nd rfl (Or.inl rfl) (pe_ix (ix_listK (K := K) rfl) (pe_lst (pa_cons pe_str (pa_cons pe_str (pa_cons pe_str (pa_cons pe_str (pa_cons pe_str (pa_cons (pe_op op_mulS pe_str pe_int) (pa_cons (pe_op op_mulS pe_str pe_int) (pa_cons (pe_op op_add_str (pe_op op_mulS pe_str pe_int) pe_str) pa_nil))))))))) (pe_ok (ok_draw t) hr1 rfl (pa_cons (pv 0) (pa_cons pe_int pa_nil))) (fun _ _ => rfl)))
    (pss_one (ps_ret (pe_tup (pa_cons (pe_op op_cat (pv 1) (pe_lst (pa_cons (pe_tup (pa_cons pe_str (pa_cons (pv 4) pa_nil))) pa_nil))) (pa_cons (pe_cmpR op_eq (pv 4) (pe_op op_mulS pe_str pe_int) (nomark _)) pa_nil))))))
      pss_nil)
    (pss_cons (ps_if (pt_cmpR op_eq (pv 2) pe_int (nomark _))
      (pss_cons (ps_set (i := 5) scLawChanged.nd rfl (Or.inl rfl) (pe_op op_sub (pe_ok (ok_draw t) hr1 rfl (pa_cons (pv 0) (pa_cons pe_int pa_nil))) pe_int))
    (pss_one (ps_ret (pe_tup (pa_cons (pe_op op_cat (pv 1) (pe_lst (pa_cons (pe_tup (pa_cons pe_str (pa_cons (pv 5) (pa_cons pe_str pa_nil)))) pa_nil))) (pa_cons (pe_chain op_le op_le pe_int (pv 5) pe_int) pa_nil))))))
      pss_nil)
    (pss_cons (ps_if (pt_cmpR op_eq (pv 2) pe_int (nomark _))
      (pss_cons (ps_set (i := 6) scLawChanged.nd rfl (Or.inl rfl) (pe_ix (ix_listK (K := K) rfl) (pe_lst (pa_cons pe_int (pa_cons pe_int (pa_cons pe_int (pa_cons pe_int (pa_cons (pe_un un_neg pe_int) pa_nil)))))) (pe_ok (ok_draw t) hr1 rfl (pa_cons (pv 0) (pa_cons pe_int pa_nil))) (fun _ _ => rfl)))
    (pss_one (ps_ret (pe_tup (pa_cons (pe_op op_cat (pv 1) (pe_lst (pa_cons (pe_tup (pa_cons pe_str (pa_cons (pv 6) (pa_cons pe_str pa_nil)))) pa_nil))) (pa_cons (pe_chain op_le op_le pe_int (pv 6) pe_int) pa_nil))))))
      pss_nil)
    (pss_one (ps_ret (pe_tup (pa_cons (pv 1) (pa_cons pe_bl pa_nil)))))))))), ?_⟩
  have hul : us.length = bs.length := by rw [hG.1, List.length_map]
  have big : 1000 ≤ sizeLine := by decide
  refine ⟨_, rfl, a, L, 9, rfl, hS, by decide, by decide, fun p H1 p0 p1 S1 B1 => ?_⟩
  have ieq : ∀ (x y : Int), decide (V.int x = V.int y) = decide (x = y) := fun x y => decide_eq_decide.mpr ⟨fun e => V.int.inj e, fun e => by rw [e]⟩
  have hR1 := B1 _ _ hR nRa
  -- the end of three ways
  have fin : ∀ {Hx : Hp} {T1 C T : Addr} {x : Gk} {due : Bool}, But a H Hx → St Hx a L → Hx T1 = some (.tup x.v) → Hx C = some (.lst (us ++ [V.ref T1])) → Hx T = some (.tup [.ref C, .bl due]) → kindG x → okG x = true → okBlk x = due → (due = true → ∃ b, x = b.g ∧ FineB b) → Q (.ref T) Hx := fun {Hx T1 C T x due} B S h1 hC hT kx ox e bk => by
    have nCa : C ≠ a := fun e => by
      obtain ⟨oa, ha⟩ := S.hasA
      have := S.choose_spec.choose_spec.choose_spec.choose_spec.choose_spec.at_
      rw [e, this] at hC
      have q := congrArg List.length (HO.lst.inj (Option.some.inj hC))
      have q2 := HO.lst.inj (Option.some.inj hC)
      rw [List.length_append, hul] at q
      have z := congrArg List.getLast? q2
      rw [List.getLast?_concat] at z
      cases z
    exact k T C _ due Hx B S hT ⟨_, hC, (hG.but hS B).app (GksV.one h1)⟩ nCa (CH.app hF hb8 kx ox e bk)
  refine ⟨_, rfl, rfl, _, rfl, ?_⟩
  rw [ieq]
  by_cases c0 : p = 0
  · rw [decide_eq_true c0]
    refine iteT ⟨(by show 0 ≤ sizeLine; decide), fun C hC => ⟨(by show 2 ≤ sizeLine; decide), fun T hT => ?_⟩⟩
    obtain ⟨oa, ha⟩ := S1.hasA
    have s2 : Same H1 (upd (upd H1 C (.lst [])) T (.tup [.ref C, .bl false])) := (Same.new hC).trans (Same.new hT)
    refine k T C [] false _ (B1.trans (But.of s2)) (S1.same s2) upd_same ⟨[], Same.new hT _ _ upd_same, rfl, fun i v g e => by cases e⟩ (ne_of_none ha hC).symm ?_
    exact ⟨fun g h => (by cases h), fun g h => (by cases h), by decide, by decide, fun h => (by cases h)⟩
  rw [decide_eq_false c0]
  refine iteF ⟨_, rfl, rfl, _, rfl, ?_⟩
  rw [ieq]
  by_cases c1 : p = 1
  · rw [decide_eq_true c1]
    refine iteT ⟨_, rfl, a, L, 2, rfl, S1, by decide, by decide, fun q H2 q0 q1 S2 B2 => ⟨_, _, rfl, rfl, ?_⟩⟩
    have more : ∀ (n : Nat) (due : Bool) (Hx : Hp) (U M T : Addr), But a H Hx → St Hx a L → M ≠ a → Hx U = some (.tup [.str "break"]) → Hx M = some (.lst (List.replicate n (V.ref U))) → Hx T = some (.tup [.ref M, .bl due]) → n = 200 ∧ due = true ∨ n = 201 ∧ due = false → Q (.ref T) Hx := fun n due Hx U M T B S nM hU hM hT h => by
      refine k T M (List.replicate n Gk.brk) due Hx B S hT ⟨_, hM, by rw [List.length_replicate, List.length_replicate], fun i v g e1 e2 => ?_⟩ nM ?_
      · have m1 := List.eq_of_mem_replicate (List.mem_of_getElem? e1)
        have m2 := List.eq_of_mem_replicate (List.mem_of_getElem? e2)
        exact ⟨U, m1, by rw [m2]; exact hU⟩
      · rcases h with ⟨rfl, rfl⟩ | ⟨rfl, rfl⟩
        · rw [show List.replicate 200 Gk.brk = (List.replicate 200 Bk.brk).map Bk.g by rw [List.map_replicate]; rfl]
          exact CH.good (fun b h => by rw [List.eq_of_mem_replicate h]; exact True.intro) (by rw [List.length_replicate]; decide) (by rw [List.length_replicate]; decide)
        · refine ⟨fun g h => by rw [List.eq_of_mem_replicate h]; exact True.intro, fun g h => by rw [List.eq_of_mem_replicate h]; rfl, by rw [List.length_replicate]; decide, ?_, fun h => (by cases h)⟩
          unfold okBook
          rw [List.length_replicate]
          rfl
    obtain ⟨oa2, ha2⟩ := S2.hasA
    refine ⟨(by show 1 ≤ sizeLine; decide), fun U hU => ⟨(by show 1 ≤ sizeLine; decide), fun M1 hM1 => ⟨_, rfl, ?_⟩⟩⟩
    have sU : Same H2 (upd H2 U (.tup [.str "break"])) := Same.new hU
    have hU1 := upd_at hU (.tup [.str "break"])
    generalize upd H2 U (.tup [.str "break"]) = H3 at sU hU1 hM1 ⊢
    have sM : Same H3 (upd H3 M1 (.lst [.ref U])) := Same.new hM1
    have hM1' := upd_at hM1 (.lst [.ref U])
    generalize upd H3 M1 (.lst [.ref U]) = H4 at sM hM1' ⊢
    have hq : q = 0 ∨ q = 1 := by omega
    rcases hq with rfl | rfl
    · refine ⟨M1, 200, _, rfl, rfl, hM1', by decide, by decide, (by show 1 * 200 ≤ sizeLine; decide), fun M hM => ?_⟩
      have hM2 := upd_at hM (.lst ((List.replicate ((200 : Int)).toNat [V.ref U]).flatten))
      have sM2 : Same H4 (upd H4 M (.lst ((List.replicate ((200 : Int)).toNat [V.ref U]).flatten))) := Same.new hM
      have nM : M ≠ a := (ne_of_none (sM _ _ (sU _ _ ha2)) hM).symm
      generalize upd H4 M (.lst ((List.replicate ((200 : Int)).toNat [V.ref U]).flatten)) = H5 at hM2 sM2 ⊢
      refine ⟨_, rfl, rfl, (by show 2 ≤ sizeLine; decide), fun T hT => ?_⟩
      have sT : Same H2 (upd H5 T (.tup [.ref M, .bl (decide (V.int (200 + 0) = V.int 200))])) := ((sU.trans sM).trans sM2).trans (Same.new hT)
      rw [show (List.replicate ((200 : Int)).toNat [V.ref U]).flatten = List.replicate 200 (V.ref U) from flat_one _ 200] at hM2
      exact more 200 true _ U M T ((B1.trans B2).trans (But.of sT)) (S2.same sT) nM (Same.new hT _ _ (sM2 _ _ (sM _ _ hU1))) (Same.new hT _ _ hM2) upd_same (.inl ⟨rfl, rfl⟩)
    · refine ⟨M1, 201, _, rfl, rfl, hM1', by decide, by decide, (by show 1 * 201 ≤ sizeLine; decide), fun M hM => ?_⟩
      have hM2 := upd_at hM (.lst ((List.replicate ((201 : Int)).toNat [V.ref U]).flatten))
      have sM2 : Same H4 (upd H4 M (.lst ((List.replicate ((201 : Int)).toNat [V.ref U]).flatten))) := Same.new hM
      have nM : M ≠ a := (ne_of_none (sM _ _ (sU _ _ ha2)) hM).symm
      generalize upd H4 M (.lst ((List.replicate ((201 : Int)).toNat [V.ref U]).flatten)) = H5 at hM2 sM2 ⊢
      refine ⟨_, rfl, rfl, (by show 2 ≤ sizeLine; decide), fun T hT => ?_⟩
      have sT : Same H2 (upd H5 T (.tup [.ref M, .bl (decide (V.int (200 + 1) = V.int 200))])) := ((sU.trans sM).trans sM2).trans (Same.new hT)
      rw [show (List.replicate ((201 : Int)).toNat [V.ref U]).flatten = List.replicate 201 (V.ref U) from flat_one _ 201] at hM2
      exact more 201 false _ U M T ((B1.trans B2).trans (But.of sT)) (S2.same sT) nM (Same.new hT _ _ (sM2 _ _ (sM _ _ hU1))) (Same.new hT _ _ hM2) upd_same (.inr ⟨rfl, rfl⟩)
  rw [decide_eq_false c1]
  refine iteF ⟨_, rfl, _, _, rfl, rfl, _, rfl, ?_⟩
  by_cases c2 : p < 4
  · rw [decide_eq_true c2]
    have ea : Str.ofString "a" = sg 97 := by decide +kernel
    have m400 : Txt.mul (Str.ofString "a") 400 = aN 400 := by rw [ea]; exact mul_rep (n := 400) (by decide)
    have m401 : Txt.mul (Str.ofString "a") 401 = aN 401 := by rw [ea]; exact mul_rep (n := 401) (by decide)
    have m399 : Txt.mul (Str.ofString "a") 399 = aN 399 := by rw [ea]; exact mul_rep (n := 399) (by decide)
    have o400 : MulOk (Str.ofString "a") 400 := by rw [ea]; exact mul_ok (by decide) (by decide)
    have o401 : MulOk (Str.ofString "a") 401 := by rw [ea]; exact mul_ok (by decide) (by decide)
    have o399 : MulOk (Str.ofString "a") 399 := by rw [ea]; exact mul_ok (by decide) (by decide)
    have l399 : (aN 399).length ≤ 399 := by rw [sl_len, aN_sl, List.length_replicate]; exact Nat.le_refl _
    refine iteT ⟨_, _, rfl, rfl, o400, _, _, rfl, rfl, o401, _, _, rfl, rfl, o399, _, _, rfl, rfl, by rw [m399]; exact addL (n := 399) (m := 1) l399 (by decide +kernel) (by decide), (by show 8 ≤ sizeLine; decide), fun L1 hL1 => ?_⟩
    rw [m400, m401, m399]
    have s2 : Same H1 (upd H1 L1 (.lst (tx8.map V.str))) := Same.new hL1
    have hL1' := upd_at hL1 (.lst (tx8.map V.str))
    obtain ⟨oa1, ha1⟩ := S1.hasA
    have nL1 : L1 ≠ a := (ne_of_none ha1 hL1).symm
    show _
    have S2 := S1.same s2
    have B2 := B1.trans (But.of s2)
    rw [show upd H1 L1 (.lst [V.str ("" : Str), .str " a", .str "a ", .str "a  b", .str "a\tb", .str (aN 400), .str (aN 401), .str (aN 399 ++ Str.ofString " ")]) = upd H1 L1 (.lst (tx8.map V.str)) from rfl]
    generalize upd H1 L1 (.lst (tx8.map V.str)) = H2 at s2 hL1' S2 B2 ⊢
    refine ⟨_, rfl, a, L, 8, rfl, S2, by decide, by decide, fun q H3 q0 q1 S3 B3 => ?_⟩
    obtain ⟨j, rfl⟩ : ∃ j : Nat, q = (j : Int) := ⟨q.toNat, by omega⟩
    have jl : j < tx8.length := by show j < 8; omega
    have hz : tx8[j]? = some tx8[j] := List.getElem?_eq_getElem jl
    have hzm := tx_ok _ (List.mem_of_getElem? hz)
    generalize tx8[j] = z at hz hzm
    refine ⟨L1, _, _, _, rfl, rfl, SqL.of (B3 _ _ hL1' nL1), atI_nat (j := j) (by rw [List.getElem?_map, hz]; rfl), ?_⟩
    have B03 := B2.trans B3
    refine ⟨_, rfl, _, rfl, (by show 2 ≤ sizeLine; decide), fun T1 hT1 => ⟨(by show 1 ≤ sizeLine; decide), fun L2 hL2 => ?_⟩⟩
    have sA : Same H3 (upd (upd H3 T1 (.tup [.str "par", .str z])) L2 (.lst [.ref T1])) := (Same.new hT1).trans (Same.new hL2)
    have hR3 := B03 _ _ hR nRa
    refine ⟨R, L2, _, _, rfl, rfl, sA _ _ hR3, upd_same, by rw [hul]; show bs.length + 1 ≤ sizeLine; omega, fun L3 hL3 => ?_⟩
    have sB := sA.trans (Same.new (o := .lst (us ++ [.ref T1])) hL3)
    refine ⟨_, rfl, _, _, rfl, rfl, o400, rfl, (by show 2 ≤ sizeLine; decide), fun T hT => ?_⟩
    rw [m400, dec_str]
    have sC := sB.trans (Same.new (o := .tup [.ref L3, .bl (decide (z = aN 400))]) hT)
    refine fin (x := .two "par" z) (B03.trans (But.of sC)) (S3.same sC) (Same.new hT _ _ (Same.new hL3 _ _ (Same.new hL2 _ _ (upd_at hT1 (.tup [.str "par", .str z]))))) (Same.new hT _ _ (upd_at hL3 (.lst (us ++ [.ref T1])))) upd_same ⟨.inr rfl, hzm.len⟩ (Bool.and_eq_true_iff.mpr ⟨by decide +kernel, hzm.ok⟩) hzm.good fun hd => ?_
    have ez : z = aN 400 := of_decide_eq_true hd
    rw [ez]
    exact ⟨.plain "par" (aN 400), rfl, .inr rfl, aN_fine⟩
  rw [decide_eq_false c2]
  -- a number
  have num : ∀ (wz : Str) (n : Int) (due : Bool) (Hx : Hp) (T1 C T : Addr), wz = "item" ∨ wz = "note" → But a H Hx → St Hx a L → Hx T1 = some (.tup [.str wz, .int n, .str "a"]) → Hx C = some (.lst (us ++ [V.ref T1])) → Hx T = some (.tup [.ref C, .bl due]) → (decide (1 ≤ n) && decide (n ≤ mostZ wz)) = due → Q (.ref T) Hx := fun wz n due Hx T1 C T hw B S h1 hC hT e => by
    have ok1 : PyData.strOk wz = true := by rcases hw with rfl | rfl <;> decide +kernel
    refine fin (x := .three wz n "a") B S h1 hC hT ⟨hw, by decide +kernel⟩ (Bool.and_eq_true_iff.mpr ⟨ok1, aOne_fine.ok⟩) ?_ fun hd => ?_
    · show ((decide (1 ≤ n) && decide (n ≤ mostZ wz)) && goodTB "a") = due
      rw [aOne_fine.tb, Bool.and_true, e]
    · rw [← e, Bool.and_eq_true_iff] at hd
      have h1 : 1 ≤ n := of_decide_eq_true hd.1
      have h2 : n ≤ mostZ wz := of_decide_eq_true hd.2
      refine ⟨.num wz n.toNat "a", ?_, ?_, aOne_fine⟩
      · show Gk.three wz n "a" = Gk.three wz ((n.toNat : Nat) : Int) "a"
        rw [show ((n.toNat : Nat) : Int) = n by omega]
      · rcases hw with rfl | rfl
        · have e : mostZ "item" = 3 := by decide +kernel
          exact .inl ⟨rfl, by omega, by omega⟩
        · have e : mostZ "note" = 99 := by decide +kernel
          exact .inr ⟨rfl, by omega, by omega⟩
  refine iteF ⟨_, rfl, rfl, _, rfl, ?_⟩
  rw [ieq]
  by_cases c3 : p = 4
  · rw [decide_eq_true c3]
    refine iteT ⟨_, rfl, a, L, 6, rfl, S1, by decide, by decide, fun q H2 q0 q1 S2 B2 => ⟨_, _, rfl, rfl, ?_⟩⟩
    have B02 := B1.trans B2
    have hR3 := B02 _ _ hR nRa
    refine ⟨_, rfl, _, rfl, (by show 3 ≤ sizeLine; decide), fun T1 hT1 => ⟨(by show 1 ≤ sizeLine; decide), fun L2 hL2 => ?_⟩⟩
    have sA : Same H2 (upd (upd H2 T1 (.tup [.str "item", .int (q - 1), .str "a"])) L2 (.lst [.ref T1])) := (Same.new hT1).trans (Same.new hL2)
    refine ⟨R, L2, _, _, rfl, rfl, sA _ _ hR3, upd_same, by rw [hul]; show bs.length + 1 ≤ sizeLine; omega, fun L3 hL3 => ?_⟩
    have sB := sA.trans (Same.new (o := .lst (us ++ [.ref T1])) hL3)
    have e3 : mostZ "item" = 3 := by decide +kernel
    refine ⟨_, rfl, _, _, rfl, rfl, _, rfl, ?_⟩
    by_cases d1 : 1 ≤ q - 1
    · rw [decide_eq_true d1]
      refine iteT ⟨_, _, rfl, rfl, (by show 2 ≤ sizeLine; decide), fun T hT => ?_⟩
      have sC := sB.trans (Same.new (o := .tup [.ref L3, .bl (decide (q - 1 ≤ 3))]) hT)
      exact num "item" (q - 1) _ _ T1 L3 T (.inl rfl) (B02.trans (But.of sC)) (S2.same sC) (Same.new hT _ _ (Same.new hL3 _ _ (Same.new hL2 _ _ (upd_at hT1 (.tup [.str "item", .int (q - 1), .str "a"]))))) (Same.new hT _ _ (upd_at hL3 (.lst (us ++ [.ref T1])))) upd_same (by rw [e3, decide_eq_true d1, Bool.true_and])
    · rw [decide_eq_false d1]
      refine iteF ⟨(by show 2 ≤ sizeLine; decide), fun T hT => ?_⟩
      have sC := sB.trans (Same.new (o := .tup [.ref L3, .bl false]) hT)
      exact num "item" (q - 1) _ _ T1 L3 T (.inl rfl) (B02.trans (But.of sC)) (S2.same sC) (Same.new hT _ _ (Same.new hL3 _ _ (Same.new hL2 _ _ (upd_at hT1 (.tup [.str "item", .int (q - 1), .str "a"]))))) (Same.new hT _ _ (upd_at hL3 (.lst (us ++ [.ref T1])))) upd_same (by rw [decide_eq_false d1, Bool.false_and])
  rw [decide_eq_false c3]
  refine iteF ⟨_, rfl, rfl, _, rfl, ?_⟩
  rw [ieq]
  by_cases c4 : p = 5
  · rw [decide_eq_true c4]
    refine iteT ⟨_, rfl, (by show 5 ≤ sizeLine; decide), fun L1 hL1 => ?_⟩
    have s1 : Same H1 (upd H1 L1 (.lst [.int 0, .int 1, .int 99, .int 100, .int (-1)])) := Same.new hL1
    have hL1' := upd_at hL1 (.lst [.int 0, .int 1, .int 99, .int 100, .int (-1)])
    obtain ⟨oa1, ha1⟩ := S1.hasA
    have nL1 : L1 ≠ a := (ne_of_none ha1 hL1).symm
    have Sx1 := S1.same s1
    have Bx1 := B1.trans (But.of s1)
    refine ⟨_, rfl, a, L, 5, rfl, Sx1, by decide, by decide, fun q H2 q0 q1 S2 B2 => ?_⟩
    have B02 := Bx1.trans B2
    have hR3 := B02 _ _ hR nRa
    obtain ⟨n, hn⟩ : ∃ n : Int, atI [V.int 0, .int 1, .int 99, .int 100, .int (-1)] q = some (.int n) := by
      have : q = 0 ∨ q = 1 ∨ q = 2 ∨ q = 3 ∨ q = 4 := by omega
      rcases this with rfl | rfl | rfl | rfl | rfl
      · exact ⟨0, rfl⟩
      · exact ⟨1, rfl⟩
      · exact ⟨99, rfl⟩
      · exact ⟨100, rfl⟩
      · exact ⟨-1, rfl⟩
    refine ⟨L1, _, _, _, rfl, rfl, SqL.of (B2 _ _ hL1' nL1), hn, ?_⟩
    refine ⟨_, rfl, _, rfl, (by show 3 ≤ sizeLine; decide), fun T1 hT1 => ⟨(by show 1 ≤ sizeLine; decide), fun L2 hL2 => ?_⟩⟩
    have sA : Same H2 (upd (upd H2 T1 (.tup [.str "note", .int n, .str "a"])) L2 (.lst [.ref T1])) := (Same.new hT1).trans (Same.new hL2)
    refine ⟨R, L2, _, _, rfl, rfl, sA _ _ hR3, upd_same, by rw [hul]; show bs.length + 1 ≤ sizeLine; omega, fun L3 hL3 => ?_⟩
    have sB := sA.trans (Same.new (o := .lst (us ++ [.ref T1])) hL3)
    have e3 : mostZ "note" = 99 := by decide +kernel
    refine ⟨_, rfl, _, _, rfl, rfl, _, rfl, ?_⟩
    by_cases d1 : 1 ≤ n
    · rw [decide_eq_true d1]
      refine iteT ⟨_, _, rfl, rfl, (by show 2 ≤ sizeLine; decide), fun T hT => ?_⟩
      have sC := sB.trans (Same.new (o := .tup [.ref L3, .bl (decide (n ≤ 99))]) hT)
      exact num "note" n _ _ T1 L3 T (.inr rfl) (B02.trans (But.of sC)) (S2.same sC) (Same.new hT _ _ (Same.new hL3 _ _ (Same.new hL2 _ _ (upd_at hT1 (.tup [.str "note", .int n, .str "a"]))))) (Same.new hT _ _ (upd_at hL3 (.lst (us ++ [.ref T1])))) upd_same (by rw [e3, decide_eq_true d1, Bool.true_and])
    · rw [decide_eq_false d1]
      refine iteF ⟨(by show 2 ≤ sizeLine; decide), fun T hT => ?_⟩
      have sC := sB.trans (Same.new (o := .tup [.ref L3, .bl false]) hT)
      exact num "note" n _ _ T1 L3 T (.inr rfl) (B02.trans (But.of sC)) (S2.same sC) (Same.new hT _ _ (Same.new hL3 _ _ (Same.new hL2 _ _ (upd_at hT1 (.tup [.str "note", .int n, .str "a"]))))) (Same.new hT _ _ (upd_at hL3 (.lst (us ++ [.ref T1])))) upd_same (by rw [decide_eq_false d1, Bool.false_and])
  rw [decide_eq_false c4]
  refine iteF ⟨_, rfl, (by show 2 ≤ sizeLine; decide), fun T hT => ?_⟩
  have sC := Same.new (o := .tup [.ref R, .bl true]) hT
  exact k T R _ true _ (B1.trans (But.of sC)) (S1.same sC) upd_same ⟨us, sC _ _ hR1, hG.but hS (B1.trans (But.of sC))⟩ nRa (CH.good hF hb1 (by omega))
end
end Sx

set_option Elab.async false
set_option linter.all false
set_option maxRecDepth 100000
set_option maxHeartbeats 4000000
namespace Sx
open PySem PySem.Spec PyProof.Rows L2 SxA SxK
/-! ### what stays when one list is changed -/
theorem GksV.bt {H H' : Hp} {g : Addr} {us zs : List V} {gs : List Gk} (h : GksV H us gs) (hg : H g = some (.lst zs)) (B : But g H H') : GksV H' us gs := ⟨h.1, fun i v b e1 e2 => by
  obtain ⟨T, e, hT⟩ := h.2 i v b e1 e2
  exact ⟨T, e, B _ _ hT (ne_of hT hg (by intro z; cases z))⟩⟩
theorem BookG.bt {K : PySem.W.Frag} {H H' : Hp} {g x dx lb : Addr} {us zs : List V} {gs : List Gk} (hx : H x = some (.ins (He.ga K "Book") dx [("blocks", .ref lb)])) (hl : H lb = some (.lst us)) (hv : GksV H us gs) (nl : lb ≠ g) (hg : H g = some (.lst zs)) (B : But g H H') :
    H' x = some (.ins (He.ga K "Book") dx [("blocks", .ref lb)]) ∧ H' lb = some (.lst us) ∧ GksV H' us gs := ⟨B _ _ hx (ne_of hx hg (by intro z; cases z)), B _ _ hl nl, hv.bt hg B⟩
theorem made_book {K : PySem.W.Frag} {H : Hp} {R x dx : Addr} {us : List V} {gs : List Gk} {Qx : Hp → Prop} {E : XK} (hR : H R = some (.lst us)) (hv : GksV H us gs) (hx : H x = none) (hdx : H dx = none)
    (k : ∀ H5 lb, Same H H5 → H lb = none → H5 x = some (.ins (He.ga K "Book") dx [("blocks", .ref lb)]) → H5 lb = some (.lst us) → GksV H5 us gs → Qx H5) :
    spBookI K [.ref x, .ref R] (upd (upd H dx (.own x)) x (.ins (He.ga K "Book") dx [])) (fun v H2 => v = .non ∧ Qx H2) E := by
  have s4 : Same H (upd (upd H dx (.own x)) x (.ins (He.ga K "Book") dx [])) := fun b o e => by
    rw [upd_ne (ne_of_none e hx), upd_ne (ne_of_none e hdx)]
    exact e
  refine ⟨x, dx, R, us, rfl, upd_same, s4 _ _ hR, fun H5 l' hl' h1 h2 fr => ⟨rfl, ?_⟩⟩
  have s5 : Same H H5 := Same.made hx hdx fr
  exact k H5 l' s5 (Sx.Same.none s4 _ hl') h1 h2 (hv.same s5)
theorem BookG.mk {K : PySem.W.Frag} {H : Hp} {x dx lb : Addr} {us : List V} {gs : List Gk} (hx : H x = some (.ins (He.ga K "Book") dx [("blocks", .ref lb)])) (hl : H lb = some (.lst us)) (hv : GksV H us gs) : BookG K H (.ref x) gs := ⟨x, dx, lb, rfl, hx, us, hl, hv⟩
/-! ### texts that are read -/
structure RdB (z : Str) (bs : List Bk) : Prop where
  len : z.length ≤ 100000
  lines : ∀ l ∈ linesL z, l.length ≤ 100000 ∧ PyData.strOk l = true
  full : mFull (linesL z) = .ok bs
theorem rd_of {z : Str} {bs : List Bk} (g : ∀ b ∈ bs, FineB b) (h1 : 1 ≤ bs.length) (h2 : bs.length ≤ 200) (hz : z.length ≤ 100000) (e : linesL z = bs.map lineB) : RdB z bs := by
  refine ⟨hz, fun l hl => ?_, ?_⟩
  · rw [e] at hl
    obtain ⟨b, hb, rfl⟩ := List.mem_map.mp hl
    have f := fine_line (g b hb)
    exact ⟨Nat.le_trans f.len (by decide), f.ok⟩
  · rw [e]
    exact (run_good bs g).full (by intro q; have := congrArg List.length q; rw [List.length_map] at this; exact absurd this (by show ¬ bs.length = 0; omega)) (by rw [List.length_map]; exact h2)
theorem endS_len {bs : List Bk} (g : ∀ b ∈ bs, FineB b) (h2 : bs.length ≤ 200) : (endS (bs.map lineB)).length ≤ 100000 := by
  have nl1 : nlS.length = 1 := rfl
  have j := join_len nlS 420 (bs.map lineB ++ [("" : Str)]) (fun z hz => by
    rcases List.mem_append.mp hz with q | q
    · obtain ⟨b, hb, rfl⟩ := List.mem_map.mp q
      rw [sl_len]
      exact (line_sign (g b hb)).2.1
    · rw [List.mem_singleton.mp q]; decide)
  rw [endS_join]
  rw [nl1, List.length_append, List.length_map, List.length_singleton] at j
  have : (bs.length + 1) * (420 + 1) ≤ 201 * 421 := Nat.mul_le_mul_right _ (by omega)
  omega
theorem rd_end {bs : List Bk} (g : ∀ b ∈ bs, FineB b) (h1 : 1 ≤ bs.length) (h2 : bs.length ≤ 200) (hz : (endS (bs.map lineB)).length ≤ 100000) : RdB (endS (bs.map lineB)) bs := rd_of g h1 h2 hz (lines_endS fun l hl => by
  obtain ⟨b, hb, rfl⟩ := List.mem_map.mp hl
  exact (fine_line (g b hb)).nl)
theorem cut_end {ls : List Str} (hn : ls ≠ []) : cutS (endS ls) none (some (-1)) = Txt.join nlS ls := by
  have e1 : endS ls = Txt.join nlS ls ++ nlS := by
    rw [endS_join, join_snoc _ _ _ hn, app_empty]
  have e2 : sl (endS ls) = sl (Txt.join nlS ls) ++ [10] := by rw [e1, sl_app]; rfl
  exact sl_ext (cut_last e2)
theorem rd_join {bs : List Bk} (g : ∀ b ∈ bs, FineB b) (h1 : 1 ≤ bs.length) (h2 : bs.length ≤ 190) : RdB (Txt.join nlS (bs.map lineB)) bs := by
  have nl1 : nlS.length = 1 := rfl
  refine rd_of g h1 (by omega) ?_ (lines_join (by intro q; have := congrArg List.length q; rw [List.length_map] at this; exact absurd this (by show ¬ bs.length = 0; omega)) (fun l hl => ?_) fun z hz => ?_)
  · have j := join_len nlS 500 (bs.map lineB) (fun z hz => by
      obtain ⟨b, hb, rfl⟩ := List.mem_map.mp hz
      exact (fine_line (g b hb)).len)
    rw [nl1, List.length_map] at j
    have : bs.length * (500 + 1) ≤ 190 * 501 := Nat.mul_le_mul_right _ h2
    omega
  · obtain ⟨b, hb, rfl⟩ := List.mem_map.mp hl
    exact (fine_line (g b hb)).nl
  · obtain ⟨b, hb, rfl⟩ := List.mem_map.mp (List.mem_of_getLast? hz)
    exact (fine_line (g b hb)).ne
theorem rbook_ok {K : PySem.W.Frag} {H : Hp} {Q : VK} {E : XK} {z : Str} {bs : List Bk} (r : RdB z bs) (k : ∀ v H', Same H H' → BookG K H' v (bs.map Bk.g) → Q v H') : spRBook K [.str z] H Q E := by
  have hz := r.len
  refine ⟨z, rfl, by omega, fun h => absurd hz (by omega), fun _ => ⟨r.lines, ?_⟩⟩
  rw [r.full]
  intro v H' s b
  exact k v H' s (b.same fresh_le).g
section
variable {P : Program} {w : World} {K : PySem.W.Frag} {mg : Str → Option Value} {base : Heap}
def spLaw (K : PySem.W.Frag) : Sp := fun vs H Q _ => ∃ (a : Addr) (ns : List Int), vs = [.ref a] ∧ SqL K H a (ns.map V.int) ∧ ns.length ≤ 63 ∧ ∀ H', Q (.bl true) H'
abbrev nsLaw : List Str := ["script", "state", "blocks", "given", "book", "text", "block", "other", "read", "changed", "due"]
theorem scLaw : FnScope nsLaw ["script"] (defScope sLaw) := ⟨rfl, rfl, rfl, by decide +kernel, rfl, by decide +kernel, by decide +kernel⟩
theorem mkFnX {x : Str} {st : Stmt} {N ps : List Str} {k : Nat} {sp : Sp} {fd : FuncData} (F : FunD K x x (defArgs st) (defBody st) (defScope st) [] [] (He.ga K x) fd) (S : FnScope N ps (defScope st)) (len : ∀ vs H Q E, sp vs H Q E → vs.length = ps.length)
    (body : ∀ (cdv : Value) (A : Around) (outer : List Env) (s : Shared) (H0 : Hp) (vs : List V) (Q : VK) (E : XK), Room k (A.deeper (envOfC x (defScope st) s.heap.objs.size (He.ga K x) cdv)) → sp vs H0 Q E →
      ∃ t, PSs (cxOf (L2.CX P w) P w K mg base N x (defScope st) (He.ga K x) cdv A outer s H0 E) (defBody st) t ∧ t { nx := fun _ H' => Q .non H', rt := Q } (start N vs) H0) : FnOk P w K mg base (L2.CX P w) (k + 1) (He.ga K x) fd ps sp :=
  F.ok S len body
theorem ok_law (t : T K mg) (kf : KF K w) (er : ErrC P K mg xTextError) (el : ErrC P K mg xTooLarge) {fd : FuncData} (F : FunD K "law" "law" (defArgs sLaw) (defBody sLaw) (defScope sLaw) [] [] (He.ga K "law") fd) : FnOk P w K mg base (L2.CX P w) 7 (He.ga K "law") fd ["script"] (spLaw K) := by
  obtain ⟨fdB, FB, bB⟩ := ok_bookI (P := P) (w := w) (base := base) t
  refine mkFnX F scLaw (fun vs H Q E h => ?_) fun cdv A outer s H vs Q E hr h => ?_
  · obtain ⟨a, ns, rfl, _⟩ := h; rfl
  obtain ⟨sc, ns, rfl, hS, hlen, k⟩ := h
  have hr1 : Room 1 _ := hr.mono (by decide)
  have hr2 : Room 2 _ := hr.mono (by decide)
  have hr3 : Room 3 _ := hr.mono (by decide)
  have hr5 : Room 5 _ := hr.mono (by decide)
  have hr6 : Room 6 _ := hr.mono (by decide)
  refine ⟨_, pss_cons (ps_set (i := 1) scLaw.nd rfl (Or.inl rfl) (pe_ok (ok_state t) hr1 rfl (pa_cons (pv 0) pa_nil)))
    (pss_cons (ps_set (i := 2) scLaw.nd rfl (Or.inl rfl) (pe_ok (ok_lblocks t) hr3 rfl (pa_cons (pv 1) (pa_cons pe_int (pa_cons pe_int pa_nil)))))
    (pss_cons (ps_set (i := 3) scLaw.nd rfl (Or.inl rfl) (pe_callTy call_list_of rfl t.f_list (by decide +kernel) (pa_cons (pv 2) pa_nil)))
    (pss_cons (ps_set (i := 4) scLaw.nd rfl (Or.inl rfl) (pe_make t.m_Book FB hr2 rfl t.g_Book bB .nil pass0 (pa_cons (pv 3) pa_nil)))
    (pss_cons (ps_set (i := 5) scLaw.nd rfl (Or.inl rfl) (pe_join pe_str (pe_lc (own := [("block", 6)]) (g := gName 6) (tt := tYes) rfl scLaw.nd (pi_list (pv 2)) (blkOk_by (own := [("block", 6)]) (N := nsLaw) (sc := defScope sLaw) (by decide +kernel)) (fun _ _ _ _ _ => pg_name (i := 6) scLaw.nd rfl (Or.inl rfl)) (fun _ _ _ _ _ => pts_nil) (fun _ _ _ _ _ => (pe_op op_add_str (pe_ok (ok_law_line t) hr1 rfl (pa_cons (pv 6) pa_nil)) pe_str)))))
    (pss_cons (ps_if (PW.pt (pw_or (pt_cmpR op_isnot_bl (pe_ok (ok_is_book t kf) hr5 rfl (pa_cons (pv 4) pa_nil)) pe_bl (nomark _)) (pw_or1 (pt_cmpR op_ne (pe_ok (ok_write_book t) hr3 rfl (pa_cons (pv 4) pa_nil)) (pv 5) (nomark _)))))
      (pss_one (ps_ret pe_bl))
      pss_nil)
    (pss_cons (ps_for (passes_of rfl) rfl (pi_list (pe_lst (pa_cons (pv 5) (pa_cons (pe_slice sl_str (pv 5) po_none (po_some (pe_un un_neg pe_int))) pa_nil)))) (pg_name (i := 7) scLaw.nd rfl (Or.inl rfl))
      (pss_cons (ps_set (i := 8) scLaw.nd rfl (Or.inl rfl) (pe_okX (ok_rbook t kf er el) hr6 rfl (takes_of rfl rfl rfl rfl) (pa_cons (pv 7) pa_nil)))
    (pss_one (ps_if (PW.pt (pw_or (pt_cmpR (op_neD (hu64 hr)) (pe_fld (pv 8) rfl) (pv 2) (nomark _)) (pw_or1 (pt_not (pt_val (pe_ok (ok_same_book t) hr1 rfl (pa_cons (pv 8) (pa_cons (pv 4) pa_nil))))))))
      (pss_one (ps_ret pe_bl))
      pss_nil))))
    (pss_cons (ps_expr (pe_bm PySem.F.plainAttrs_list PySem.F.slot_list_append PySem.F.type_list_append mt_append (pv 3) (pa_cons (pe_tup (pa_cons pe_str pa_nil)) pa_nil)))
    (pss_cons (ps_if (pt_cmpR (op_neD (hu64 hr)) (pe_fld (pv 4) rfl) (pv 2) (nomark _))
      (pss_one (ps_ret pe_bl))
      pss_nil)
    (pss_cons (ps_asg (pe_ok (ok_law_changed t) hr2 rfl (pa_cons (pv 1) (pa_cons (pv 2) pa_nil))) (pg_tup rfl (pgs_cons (pg_name (i := 9) scLaw.nd rfl (Or.inl rfl)) (pgs_cons (pg_name (i := 10) scLaw.nd rfl (Or.inl rfl)) pgs_nil))))
    (pss_cons (ps_if (PW.pt (pw_or (pt_cmpR op_ne (pe_ok (ok_is_book t kf) hr5 rfl (pa_cons (pe_make t.m_Book FB hr2 rfl t.g_Book bB .nil pass0 (pa_cons (pv 9) pa_nil)) pa_nil)) (pv 10) (nomark _)) (pw_or1 (pt_cmpR op_ne (pe_ok (ok_same_book t) hr1 rfl (pa_cons (pv 4) (pa_cons (pe_make t.m_Book FB hr2 rfl t.g_Book bB .nil pass0 (pa_cons (pv 9) pa_nil)) pa_nil))) (pe_cmpR (op_eqD (hu64 hr)) (pv 9) (pv 2) (nomark _)) (nomark _)))))
      (pss_one (ps_ret pe_bl))
      pss_nil)
    (pss_one (ps_ret (pe_or (pe_not (pv 10)) (pe_one (pe_cmpR (op_eqD (hu64 hr)) (pe_fld (pe_okX (ok_rbook t kf er el) hr6 rfl (takes_of rfl rfl rfl rfl) (pa_cons (pe_ok (ok_write_book t) hr3 rfl (pa_cons (pe_make t.m_Book FB hr2 rfl t.g_Book bB .nil pass0 (pa_cons (pv 9) pa_nil)) pa_nil)) pa_nil)) rfl) (pv 9) (nomark _)))))))))))))))), ?_⟩
  refine ⟨_, rfl, sc, ns, rfl, hS, fun a L H1 ha0 hL0 s1 S1 => ?_⟩
  refine ⟨_, rfl, a, L, 8, 12, rfl, S1, by decide, by decide, fun R bs H2 bi gb b1 b8 => ?_⟩
  have b8' : bs.length ≤ 8 := by omega
  have fb : ∀ b ∈ bs, FineB b := fun b h => (gb b h).fineB
  obtain ⟨us, w1, w2, w3⟩ := bi.el
  have G2 : GksV H2 us (bs.map Bk.g) := ⟨by rw [List.length_map, w2], fun i v g e1 e2 => by
    rw [List.getElem?_map] at e2
    obtain ⟨b', hb, rfl⟩ := Option.map_eq_some_iff.mp e2
    obtain ⟨T, e, _, h⟩ := w3 i v b' e1 hb
    exact ⟨T, e, by rw [Bk.gv]; exact h⟩⟩
  have okgs : ∀ g ∈ bs.map Bk.g, okG g = true := fun g hg => by
    obtain ⟨b, hb, rfl⟩ := List.mem_map.mp hg
    exact (fb b hb).all.2.2
  have kgs : ∀ g ∈ bs.map Bk.g, kindG g := fun g hg => by
    obtain ⟨b, hb, rfl⟩ := List.mem_map.mp hg
    exact (fb b hb).all.2.1
  have big : 100000 ≤ sizeLine := by decide
  have lgs : (bs.map Bk.g).length = bs.length := List.length_map _
  -- given, book
  refine ⟨_, rfl, R, us, rfl, .inl (SqL.of w1), fun g hg => ?_⟩
  have sg2 : Same H2 (upd H2 g (.lst us)) := Same.new hg
  have hg3 := upd_at hg (.lst us)
  have nRg : R ≠ g := ne_of_none w1 hg
  obtain ⟨oa2, ha2⟩ := bi.st.hasA
  obtain ⟨oL2, hL2⟩ := bi.st.hasL
  have nag : a ≠ g := ne_of_none ha2 hg
  have nLg : L ≠ g := ne_of_none hL2 hg
  have S3 := bi.st.same sg2
  have w3' := sg2 _ _ w1
  have G3 := G2.same sg2
  generalize upd H2 g (.lst us) = H3 at sg2 hg3 S3 w3' G3 ⊢
  refine ⟨_, rfl, fun x dx hx hdx nex => made_book hg3 G3 hx hdx fun H4 lb s4 hlb hx4 hlb4 G4 => ?_⟩
  have nlbg : lb ≠ g := (ne_of_none hg3 hlb).symm
  obtain ⟨oa3, ha3⟩ := S3.hasA
  have nlba : lb ≠ a := (ne_of_none ha3 hlb).symm
  have S4 := S3.same s4
  have w4 := s4 _ _ w3'
  have hg4 := s4 _ _ hg3
  -- text
  have lc : (Str.ofString "\n").length = 1 := by decide +kernel
  have le : (Str.ofString "").length = 0 := by decide +kernel
  refine ⟨⟨_, rfl⟩, _, rfl, R, rfl, ⟨_, SqL.of w4⟩, fun D hD => ?_⟩
  refine lc_known (xs := us) (ys := (bs.map lineB).map fun l => V.str (l ++ Str.ofString "\n")) hD (SqL.of w4) (by rw [List.length_map, List.length_map, w2]) (by rw [List.length_map, List.length_map]; omega) (fun _ => rfl) (fun i y z Hx Q1 hy hz sm k1 => ?_) (fun H5 s5 hH5 => ?_)
  · rw [List.getElem?_map, List.getElem?_map] at hz
    obtain ⟨r, hr1, rfl⟩ := Option.map_eq_some_iff.mp hz
    obtain ⟨b, hb1, rfl⟩ := Option.map_eq_some_iff.mp hr1
    have fl := (fine_line (fb b (List.mem_of_getElem? hb1))).len
    exact ⟨_, rfl, y, b, rfl, (G4.2 i y b.g hy (by rw [List.getElem?_map, hb1]; rfl)).same sm, fb b (List.mem_of_getElem? hb1), fun H' s => ⟨_, _, rfl, rfl, by rw [lc]; omega, k1 H' s⟩⟩
  refine ⟨_, D, (bs.map lineB).map fun l => l ++ Str.ofString "\n", rfl, rfl, .inl (SqL.of (by rw [hH5]; generalize bs.map lineB = ls; rw [List.map_map]; rfl)), ?_, ?_⟩
  · have hs := lenSum_le (B := 501) (ls := (bs.map lineB).map fun l => l ++ Str.ofString "\n") fun l h => by
      obtain ⟨l0, h0, rfl⟩ := List.mem_map.mp h
      obtain ⟨b, hb, rfl⟩ := List.mem_map.mp h0
      have := (fine_line (fb b hb)).len
      rw [len_app, lc]
      omega
    unfold lenSum at hs
    rw [le]
    rw [List.length_map, List.length_map] at hs ⊢
    omega
  have et : Txt.join (Str.ofString "") ((bs.map lineB).map fun l => l ++ Str.ofString "\n") = endS (bs.map lineB) := rfl
  rw [et]
  have S5 := S4.same s5
  have w5 := s5 _ _ w4
  have hg5 := s5 _ _ hg4
  have hx5 := s5 _ _ hx4
  have hlb5 := s5 _ _ hlb4
  have G5 := G4.same s5
  have okb : okBook (bs.map Bk.g) = true := (CH.good fb b1 (by omega)).bk
  have BG5 := BookG.mk hx5 hlb5 G5
  refine ⟨_, rfl, V.ref x, _, rfl, BG5, kgs, by rw [lgs]; omega, fun H6 s6 => ⟨_, true, rfl, rfl, _, rfl, ?_⟩⟩
  rw [okb]
  refine iteF ?_
  refine ⟨_, rfl, V.ref x, bs, rfl, BG5.same s6, fb, by omega, fun H7 s7 => ⟨_, rfl, rfl, _, rfl, ?_⟩⟩
  rw [show (!decide (V.str (endS (bs.map lineB)) = V.str (endS (bs.map lineB)))) = false by simp]
  refine iteF ?_
  have s57 := s6.trans s7
  have S7 := S5.same s57
  have w7 := s57 _ _ w5
  have hg7 := s57 _ _ hg5
  have hx7 := s57 _ _ hx5
  have hlb7 := s57 _ _ hlb5
  have G7 := G5.same s57
  have el := endS_len fb (show bs.length ≤ 200 by omega)
  have lnn : bs.map lineB ≠ [] := fun q => by
    have := congrArg List.length q
    rw [List.length_map] at this
    exact absurd this (by show ¬ bs.length = 0; omega)
  refine ⟨_, rfl, _, rfl, _, rfl, -1, rfl, endS (bs.map lineB), rfl, by omega, (by show 2 ≤ sizeLine; decide), fun p3 hp3 => ?_⟩
  rw [cut_end lnn]
  have rd1 := rd_end fb b1 (by omega) el
  have rd2 := rd_join fb b1 (show bs.length ≤ 190 by omega)
  have s8 : Same H7 (upd H7 p3 (.lst [V.str (endS (bs.map lineB)), V.str (Txt.join nlS (bs.map lineB))])) := Same.new hp3
  have hp8 := upd_at hp3 (.lst [V.str (endS (bs.map lineB)), V.str (Txt.join nlS (bs.map lineB))])
  have rdb : ∀ (i : Nat) (v : V), [V.str (endS (bs.map lineB)), V.str (Txt.join nlS (bs.map lineB))][i]? = some v → ∃ y, v = .str y ∧ RdB y bs := fun i v hv => by
    match i, hv with
    | 0, hv => exact ⟨_, (Option.some.inj hv).symm, rd1⟩
    | 1, hv => exact ⟨_, (Option.some.inj hv).symm, rd2⟩
    | i + 2, hv => exact absurd hv (by simp)
  generalize upd H7 p3 (.lst [V.str (endS (bs.map lineB)), V.str (Txt.join nlS (bs.map lineB))]) = H8 at s8 hp8 ⊢
  generalize [V.str (endS (bs.map lineB)), V.str (Txt.join nlS (bs.map lineB))] = texts at hp8 rdb
  have S8 := S7.same s8
  have w8 := s8 _ _ w7
  have hg8 := s8 _ _ hg7
  have hx8 := s8 _ _ hx7
  have hlb8 := s8 _ _ hlb7
  have G8 := G7.same s8
  refine ⟨_, rfl, ⟨_, SqL.of hp8⟩, ?_⟩
  refine for_list (K := K) (a := p3) (xs := texts) (fun i σ' H' => (∃ (x6 x7 x8 : Option V), σ' = [some (.ref sc), some (.ref a), some (.ref R), some (.ref g), some (.ref x), some (.str (endS (bs.map lineB))), x6, x7, x8, none, none]) ∧ Same H8 H')
    ⟨⟨_, _, _, rfl⟩, Same.refl _⟩ (fun i σ' H' _ q => SqL.of (q.2 _ _ hp8)) ?_ ?_
  · rintro i v σ' H9 hv ⟨⟨x6, x7, x8, rfl⟩, s9⟩
    obtain ⟨y, rfl, rd⟩ := rdb i v hv
    refine ⟨_, rfl, rbook_ok rd fun rv H10 s10 t10 => ?_⟩
    have s810 := s9.trans s10
    have G10 := G8.same s810
    have BG10 := BookG.mk (s810 _ _ hx8) (s810 _ _ hlb8) G10
    have t10' := t10
    obtain ⟨rx, rdx, rl, rfl, hrx, hrl⟩ := t10
    refine ⟨_, rfl, rx, _, rdx, _, _, rfl, hrx, t.c_Book, t.n_Book_blocks, lk_blocks _, _, rfl, ne_gs hrl ⟨us, s810 _ _ w8, G10⟩ okgs ⟨_, rfl, iteF ?_⟩⟩
    refine ⟨_, rfl, _, rfl, V.ref rx, V.ref x, _, _, rfl, t10', BG10, okgs, okgs, ?_⟩
    rw [eqGs_self okgs]
    refine ⟨_, rfl, iteF ?_⟩
    exact ⟨⟨_, _, _, rfl⟩, s810⟩
  rintro σ' H9 ⟨⟨x6, x7, x8, rfl⟩, s9⟩
  have S9 := S8.same s9
  have w9 := s9 _ _ w8
  have hg9 := s9 _ _ hg8
  have hx9 := s9 _ _ hx8
  have hlb9 := s9 _ _ hlb8
  have G9 := G8.same s9
  -- given.append
  refine ⟨_, rfl, .inl ⟨rfl, _, SqL.of hg9⟩, (by show 1 ≤ sizeLine; decide), fun U hU => ⟨g, us, _, rfl, rfl, Same.new hU _ _ hg9, by omega, ?_⟩⟩
  have sU : Same H9 (upd H9 U (.tup [.str "break"])) := Same.new hU
  have S10 := S9.same sU
  have w10 := sU _ _ w9
  have hg10 := sU _ _ hg9
  have hx10 := sU _ _ hx9
  have hlb10 := sU _ _ hlb9
  have G10 := G9.same sU
  generalize upd H9 U (.tup [.str "break"]) = H10 at sU S10 w10 hg10 hx10 hlb10 G10 ⊢
  have BT : But g H10 (upd H10 g (.lst (us ++ [V.ref U]))) := fun b o e n => by rw [upd_ne n]; exact e
  have S11 := S10.write (o := .lst (us ++ [V.ref U])) nag nLg
  obtain ⟨hx11, hlb11, G11⟩ := BookG.bt (K := K) hx10 hlb10 G10 nlbg hg10 BT
  have w11 := BT _ _ w10 nRg
  generalize upd H10 g (.lst (us ++ [V.ref U])) = H11 at S11 hx11 hlb11 G11 w11 ⊢
  refine ⟨_, rfl, x, _, dx, _, _, rfl, hx11, t.c_Book, t.n_Book_blocks, lk_blocks _, _, rfl, ne_gs ⟨us, hlb11, G11⟩ ⟨us, w11, G11⟩ okgs ⟨_, rfl, iteF ?_⟩⟩
  -- changed
  have nRa : R ≠ a := bi.ne
  refine ⟨_, rfl, _, rfl, a, L, R, us, bs, rfl, S11, nRa, w11, G11, fb, b1, b8', fun TT C gs due H12 B12 S12 hTT hC nCa ch => ?_⟩
  have hSa := S11
  obtain ⟨_, _, _, _, _, sa11⟩ := id S11
  obtain ⟨hx12, hlb12, G12⟩ := BookG.bt (K := K) hx11 hlb11 G11 nlba sa11.at_ B12
  have w12 := B12 _ _ w11 nRa
  have BG12 := BookG.mk hx12 hlb12 G12
  obtain ⟨cs, hcs, GC⟩ := hC
  refine ⟨TT, _, rfl, SqT.of hTT, rfl, _, _, rfl, _, _, rfl, rfl, ?_⟩
  -- is_book(Book(changed)) != due
  refine ⟨_, rfl, fun y dy hy hdy ney => made_book hcs GC hy hdy fun H13 lc1 s13 hlc1 hy13 hlc13 G13 => ?_⟩
  refine ⟨_, gs, rfl, BookG.mk hy13 hlc13 G13, ch.kind, by have := ch.len; omega, fun H14 s14 => ?_⟩
  rw [ch.bk]
  refine ⟨_, rfl, rfl, _, rfl, ?_⟩
  rw [show (!decide (V.bl due = V.bl due)) = false by simp]
  refine iteF ?_
  have s124 := s13.trans s14
  -- same_book
  refine ⟨_, rfl, _, rfl, fun z dz hz hdz nez => made_book (s124 _ _ hcs) (GC.same s124) hz hdz fun H15 lc2 s15 hlc2 hz15 hlc15 G15 => ?_⟩
  have s125 := s124.trans s15
  refine ⟨_, _, bs.map Bk.g, gs, rfl, BG12.same s125, BookG.mk hz15 hlc15 G15, okgs, ch.ok, ?_⟩
  refine ⟨_, rfl, _, rfl, eq_gs (gs := gs) (hs := bs.map Bk.g) ⟨cs, s125 _ _ hcs, GC.same s125⟩ ⟨us, s125 _ _ w12, G12.same s125⟩ ch.ok okgs ⟨rfl, _, rfl, ?_⟩⟩
  rw [eqGs_comm, show (!decide (V.bl (eqGs gs (bs.map Bk.g)) = V.bl (eqGs gs (bs.map Bk.g)))) = false by simp]
  refine iteF ?_
  -- the end
  cases due with
  | false => exact ⟨_, rfl, _, rfl, _, rfl, iteT (k _)⟩
  | true =>
    obtain ⟨bs', rfl, fb', c1, c2⟩ := ch.back rfl
    refine ⟨_, rfl, _, rfl, _, rfl, iteF ?_⟩
    refine ⟨_, rfl, fun v dv hv hdv nev => made_book (s125 _ _ hcs) (GC.same s125) hv hdv fun H16 lc3 s16 hlc3 hv16 hlc16 G16 => ?_⟩
    refine ⟨_, bs', rfl, BookG.mk hv16 hlc16 G16, fb', by omega, fun H17 s17 => ?_⟩
    refine rbook_ok (rd_end fb' c1 c2 (endS_len fb' c2)) fun rv H18 s18 t18 => ?_
    obtain ⟨rx, rdx, rl, rfl, hrx, hrl⟩ := t18
    have s128 := s125.trans (s16.trans (s17.trans s18))
    refine ⟨rx, _, rdx, _, _, rfl, hrx, t.c_Book, t.n_Book_blocks, lk_blocks _, _, rfl, eq_gs hrl ⟨cs, s128 _ _ hcs, GC.same s128⟩ ch.ok ch.ok ?_⟩
    rw [eqGs_self ch.ok]
    exact k _
end
end Sx

set_option Elab.async false
set_option linter.all false
set_option maxRecDepth 100000
set_option maxHeartbeats 0
namespace Sx
open PySem PySem.Spec PyProof.Rows L2 SxK
theorem FnOk.cx {P : Program} {w : World} {K : PySem.W.Frag} {mg : Str → Option Value} {base : Heap} {CX CX' : CXT} {k : Nat} {f : Addr} {fd : FuncData} {ps : List Str} {sp : Sp} (h : ∀ o H s E e s', CX o H s E e s' → CX' o H s E e s')
    (F : FnOk P w K mg base CX k f fd ps sp) : FnOk P w K mg base CX' k f fd ps sp :=
  ⟨F.len, fun A outer s H args us vs Q E hr he hb hv hs => codeAny_mono (F.run A outer s H args us vs Q E hr he hb hv hs) fun r s' hq => by
    cases r with
    | error e => exact h _ _ _ _ _ _ hq
    | ok f =>
      cases f with
      | ret u => exact hq
      | next => exact hq
      | brk => exact hq
      | cont => exact hq⟩
theorem facts {P : Program} (hfile : P.main.file = xTextError.file) (htop : (P.main.scope.names.lookup ("super" : Str)).isSome = false) {w : World} {K : PySem.W.Frag} {h : Heap} {mg : Str → Option Value} {f : Addr} (X : K.In h) (G : h.Ns mainGlobals mg) (hfa : mg ("law" : Str) = some (.ref f)) (c : SxK.SaysXU fa fn xs ts us ys w K) :
    ∃ fd : FuncData, (∀ (s : Shared) (v : Value), BindsTo s fd ⟨[v], []⟩ [("script", v)]) ∧ ∀ base : Heap, K.In base → base.Ns mainGlobals mg → FnOk P w K mg base (L2.CX P w) 7 f fd ["script"] (spLaw K) := by
  have t : T K mg := ⟨c.x, h, X, G⟩
  have kf : KF K w := ⟨fun z => c.has 0 (t := ("MOST_NUMBERS", [("item", .int 3), ("note", .int 99)])) rfl z, c.tab 0 (t := ("MOST_NUMBERS", [("item", .int 3), ("note", .int 99)])) rfl (x := "item") (d := .int 3) List.mem_cons_self, c.tab 0 (t := ("MOST_NUMBERS", [("item", .int 3), ("note", .int 99)])) rfl (x := "note") (d := .int 99) (List.mem_cons_of_mem _ List.mem_cons_self), fun H => c.tup 0 (t := ("PLAIN_BLOCKS", [.str "head", .str "par"])) rfl H⟩
  obtain ⟨fd, F⟩ := t.d_law
  have e := hfa.symm.trans t.g_law
  cases e
  have b := FunD.bindsA (ps := ["script"]) F fun _ _ _ _ _ _ us hl => match us, hl with | [_], _ => rfl
  exact ⟨fd, fun s v => b s [v] rfl, fun base _ _ => ok_law t kf (t.e_TextError hfile htop) (t.e_TooLarge hfile htop) F⟩
end Sx
open PySem PySem.W PySem.Calls PyProof.Rows
set_option maxRecDepth 100000 in
set_option maxHeartbeats 0 in
theorem PySem.Challenge.cw_sixdot_k04_whole_books_written_and_read_holds : PySem.Challenge.rw_sixdot_k04_whole_books_written_and_read.Holds := by
  w_on; o_law
  refine HandSHeadRun.head_any (r := OpenLaw.row PySem.Challenge.rw_sixdot_k04_whole_books_written_and_read) (q := view (OpenLaw.row PySem.Challenge.rw_sixdot_k04_whole_books_written_and_read).prog [42]) (H := Sx.hk) (ob := Sx.ob) (M := 4000) (loose := Sx.loose) (d := HandSHeadRun.topDef (OpenLaw.row PySem.Challenge.rw_sixdot_k04_whole_books_written_and_read).prog 42) (kwd := []) Sx.ob_eq
    (by kernel_rfl) (fun s => by kernel_rfl) Sx.run (by kernel_rfl) (by kernel_rfl) (by kernel_rfl) (by rfl) (by first | assumption | decide +kernel) (by decide +kernel) ⟨rfl, rfl, rfl, rfl, rfl, by decide +kernel⟩ ?hw ?hc
  case hw => w_witness2
  case hc =>
    refine L2.walk_ofE (l := PySem.Challenge.rw_sixdot_k04_whole_books_written_and_read) (n := 63) (k := 7) (x := "script") (CX := fun o H s E e s' => ∃ w, L2.CX (PySem.Challenge.rw_sixdot_k04_whole_books_written_and_read).prog w o H s E e s') rfl (by decide) (by kernel_rfl) ⟨rfl, by decide, by decide⟩ ?F ?C
    case C => exact fun H s e s' ⟨_, _, _, _, _, _, _, _, _, _, _, _, _, z⟩ => z
    intro w mg fa h Y G hmg0
    obtain ⟨K, KX, c⟩ := Y
    have hmg : mg ("law" : PySem.Str) = some (.ref fa) := by
      have e : (HandSHeadRun.topDef (OpenLaw.row PySem.Challenge.rw_sixdot_k04_whole_books_written_and_read).prog 42).name = ("law" : PySem.Str) := by kernel_rfl
      rw [← e]
      exact hmg0
    obtain ⟨fd, hb, hF⟩ := Sx.facts (P := (PySem.Challenge.rw_sixdot_k04_whole_books_written_and_read).prog) (w := w) (by kernel_rfl) (by kernel_rfl) KX G hmg c
    exact ⟨K, fd, Sx.spLaw K, KX, hb, fun H a ns hl _ hS => ⟨a, ns, rfl, hS, hl, fun _ => rfl⟩, fun base h1 h2 => Sx.FnOk.cx (fun _ _ _ _ _ _ z => ⟨w, z⟩) (hF base h1 h2)⟩
