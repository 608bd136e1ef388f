import PyProof.Rows.All
import Wide.All
import OpenK.AllK
import Wide.FinOn
import PyProof.Rows.SetFrom
import PyProof.StrWalks
import KE.KRevIter
import HandS.ForMost
import HandS.Rev
import HandS.RevTup
import HandS.Style
import HandS.Flow
import HandS.WideBits
import HandS.Codes
import HandS.IsInst
import HandS.Head0
import HandS.Head1
import HandS.Head2
import HandS.HeadEnd
import HandS.HeadHook1
import HandS.HeadHook2
import HandS.Defaults
import HandS.MakeKwOnly
import KE.KStateDown
import HandS.ForDict
import HandS.More
import HandS.Zip
import HandS.RevRange
import PyProof.Draws
import KE.KExcSuper
import HandS.Exc
import HandS.ExcInit
import HandS.ExcField
import HandS.ExcOwn
import HandS.FStr
import HandS.HeadHook3
import Wide.Once
import HandS.Text
import PyProof.JoinWalk
import HandS.TupAny
import HandS.Walk
import KE.KxText
import HandS.SetFor
import KE.DataMinMax
import HandS.SortKw
import HandS.DictComp
import HandS.Conv
import PySem.Challenge.RW_sixdot_k11_whole_numbers_show_the_best
set_option Elab.async false
set_option linter.all false
set_option maxRecDepth 100000
set_option maxHeartbeats 4000000
/-! rules that the layer lacks: len(set(text)), text * int, list(reversed(list)) -/
namespace SxA
open PySem PySem.Spec PyProof.Rows L2

/-! ### the different signs of a text, in the order in which they come -/
def stepD (acc : List Nat) (c : Nat) : List Nat := if c ∈ acc then acc else acc ++ [c]
def firsts (l : List Nat) : List Nat := l.foldl stepD []
theorem firsts_snoc (l : List Nat) (c : Nat) : firsts (l ++ [c]) = stepD (firsts l) c := by
  unfold firsts; rw [List.foldl_append]; rfl
theorem mem_step (acc : List Nat) (c k : Nat) : k ∈ stepD acc c ↔ k ∈ acc ∨ k = c := by
  unfold stepD
  by_cases h : c ∈ acc
  · rw [if_pos h]
    exact ⟨Or.inl, fun q => q.elim id fun e => by rw [e]; exact h⟩
  · rw [if_neg h, List.mem_append, List.mem_singleton]
theorem mem_fold : ∀ (l acc : List Nat) (k : Nat), k ∈ l.foldl stepD acc ↔ k ∈ acc ∨ k ∈ l
  | [], acc, k => by simp
  | c :: l, acc, k => by
    rw [List.foldl_cons, mem_fold l, mem_step, List.mem_cons]
    constructor
    · rintro ((h | h) | h)
      · exact .inl h
      · exact .inr (.inl h)
      · exact .inr (.inr h)
    · rintro (h | h | h)
      · exact .inl (.inl h)
      · exact .inl (.inr h)
      · exact .inr h
theorem mem_firsts (l : List Nat) (k : Nat) : k ∈ firsts l ↔ k ∈ l := by
  unfold firsts; rw [mem_fold]; simp
theorem firsts_take {l : List Nat} {i c : Nat} (h : l[i]? = some c) : firsts (l.take (i + 1)) = stepD (firsts (l.take i)) c := by
  rw [List.take_add_one, h]; exact firsts_snoc _ _
theorem firsts_count : ∀ (l : List Nat) (i : Nat), i ≤ l.length → (firsts (l.take i)).length ≤ i ∧ ((firsts (l.take i)).length = i ↔ (l.take i).Nodup)
  | l, 0, _ => by simp [firsts]
  | l, i + 1, hi => by
    have hc : l[i]? = some l[i] := List.getElem?_eq_getElem hi
    obtain ⟨a, b⟩ := firsts_count l i (by omega)
    rw [firsts_take hc]
    have et : l.take (i + 1) = l.take i ++ [l[i]] := by rw [List.take_add_one, hc]; rfl
    unfold stepD
    by_cases hm : l[i] ∈ firsts (l.take i)
    · rw [if_pos hm]
      refine ⟨by omega, fun q => by omega, fun nd => ?_⟩
      rw [et, List.nodup_append] at nd
      exact absurd rfl (nd.2.2 _ ((mem_firsts _ _).mp hm) _ (List.mem_singleton.mpr rfl))
    · rw [if_neg hm, List.length_append, List.length_singleton]
      refine ⟨by omega, ?_⟩
      rw [et, List.nodup_append]
      constructor
      · intro q
        refine ⟨b.mp (by omega), by simp, fun x hx y hy e => hm ?_⟩
        rw [List.mem_singleton] at hy
        rw [← hy, ← e]
        exact (mem_firsts _ _).mpr hx
      · intro q
        have := b.mpr q.1
        omega
/-- len(set(text)) -/
def kinds (z : Str) : Nat := (firsts z.cps.toList).length
theorem kinds_eq (z : Str) : kinds z = z.length ↔ z.cps.toList.Nodup := by
  have h := firsts_count z.cps.toList z.cps.toList.length (Nat.le_refl _)
  rw [List.take_length] at h
  have e : z.length = z.cps.toList.length := by simp [Str.length]
  unfold kinds
  rw [e]
  exact h.2
theorem kinds_le (z : Str) : kinds z ≤ z.length := by
  have h := firsts_count z.cps.toList z.cps.toList.length (Nat.le_refl _)
  rw [List.take_length] at h
  have e : z.length = z.cps.toList.length := by simp [Str.length]
  unfold kinds
  rw [e]
  exact h.1

/-! ### set(text) on the machine -/
abbrev sg (c : Nat) : Str := ⟨#[c]⟩
theorem sg_inj {a b : Nat} (h : sg a = sg b) : a = b := by
  have e : (#[a] : Array Nat) = #[b] := congrArg Str.cps h
  simpa using e
def hasD (l : List Nat) (k : Str) : Bool := l.any fun c => decide (k = sg c)
theorem hasD_sg (l : List Nat) (c : Nat) : hasD l (sg c) = decide (c ∈ l) := by
  unfold hasD
  by_cases h : c ∈ l
  · rw [decide_eq_true h]
    exact List.any_eq_true.mpr ⟨c, h, decide_eq_true rfl⟩
  · rw [decide_eq_false h]
    refine Bool.eq_false_iff.mpr fun q => ?_
    obtain ⟨d, hd, e⟩ := List.any_eq_true.mp q
    rw [sg_inj (of_decide_eq_true e)] at h
    exact h hd
theorem hasD_step (l : List Nat) (c : Nat) (k : Str) : hasD (stepD l c) k = (hasD l k || decide (k = sg c)) := by
  unfold stepD
  by_cases h : c ∈ l
  · rw [if_pos h]
    by_cases e : k = sg c
    · rw [e, hasD_sg, decide_eq_true h]
      rfl
    · rw [decide_eq_false e, Bool.or_false]
  · rw [if_neg h]
    unfold hasD
    rw [List.any_append]
    simp
theorem len_step (l : List Nat) (c : Nat) : (stepD l c).length = if hasD l (sg c) = true then l.length else l.length + 1 := by
  rw [hasD_sg]
  unfold stepD
  by_cases h : c ∈ l
  · rw [if_pos h, if_pos (decide_eq_true h)]
  · rw [if_neg h, if_neg (by rw [decide_eq_false h]; exact Bool.false_ne_true), List.length_append, List.length_singleton]
section
variable {prog : Program} {w : World} {A : Around} {E : Value → Shared → Prop}
/-- the set at S holds the signs l -/
def SetS (prog : Program) (w : World) (h : Heap) (S : Addr) (l : List Nat) : Prop := h.SetOf (strKind prog w) S (hasD l) l.length
theorem SetS.keep {h h' : Heap} {S : Addr} {l : List Nat} (p : SetS prog w h S l) (k : ∀ o, h.get? S = some o → h'.get? S = some o) : SetS prog w h' S l := by
  obtain ⟨o, es, ep, t, ho, r⟩ := p
  exact ⟨o, es, ep, t, k o ho, r⟩
theorem loopS {R : Result → Shared → Prop} {I : Addr} {fp wr : List Addr} {G : Array GenState → Array GenState → Prop} {x : Str} {St : Nat → Shared → Prop}
    (W : WalksS prog w A.in1 I fp wr G x.cps.size (SignAt x) St) (S : Addr) (away : S ∉ fp) (small : x.cps.size + 1 < scanBound) : ∀ (k i : Nat) (s : Shared), x.cps.size - i = k → i ≤ x.cps.size → St i s →
      SetS prog w s.heap S (firsts (x.cps.toList.take i)) → (∀ s', Moved (S :: wr) G s s' → SetS prog w s'.heap S (firsts x.cps.toList) → R (.ok (.ret .none)) s') →
      codeAny (model prog w) A (.builtin "set.update.loop" ⟨[.ref S, .ref I], []⟩) R s := by
  have awr : S ∉ wr := fun q => away (W.sub _ q)
  have more : ∀ b ∈ wr, b ∈ S :: wr := fun b hb => .tail _ hb
  intro k
  induction k with
  | zero =>
    intro i s hk hi st hS done
    obtain rfl : i = x.cps.size := by omega
    refine codeAny_builtin F.entry_set_update_loop ?_
    rw [Around.under_plainId F.plain_set_update_loop _]
    show wpAny _ A.in1 (pyNext (.ref I) >>= _) _ _ s
    refine wpAny_bind (W.done s _ _ st fun s' mv => ?_)
    show wpAny _ A.in1 (ret Value.none) _ _ s'
    have e : x.cps.toList.take x.cps.size = x.cps.toList := List.take_of_length_le (by simp)
    rw [e] at hS
    exact wpAny_pure (done s' (mv.mono more) (hS.keep fun o q => mv.heap S o awr q))
  | succ k ih =>
    intro i s hk hi st hS done
    have lt : i < x.cps.size := by omega
    refine codeAny_builtin F.entry_set_update_loop ?_
    rw [Around.under_plainId F.plain_set_update_loop _]
    show wpAny _ A.in1 (pyNext (.ref I) >>= _) _ _ s
    refine wpAny_bind (W.item i s _ _ lt st fun v s' hv st' mv => ?_)
    obtain ⟨c, u, hc, rfl⟩ := hv
    have hS' := hS.keep (h' := s'.heap) fun o q => mv.heap S o awr q
    show wpAny _ A.in1 (holding [Value.str (sg c) u] (setAdd S (.str (sg c) u)) >>= _) _ _ s'
    refine wpAny_bind (wpAny_holding ?_)
    unfold setAdd
    refine wpAny_holding ?_
    refine wpAny_bind ((strKind prog w).pyHash (k := sg c) (strKind_is _ _ _ _) ?_)
    have cnt := (firsts_count x.cps.toList i (by simp; omega)).1
    refine wpAny_setAddHashed_of (knd := strKind prog w) (s := { s' with toks := s'.toks + 1 }) (strKind_is _ _ _ _) rfl hS' (by omega) fun h' sb hS2 => ?_
    have hc2 : x.cps.toList[i]? = some c := by rw [Array.getElem?_toList]; exact hc
    have hS3 : SetS prog w h' S (firsts (x.cps.toList.take (i + 1))) := by
      rw [firsts_take hc2]
      exact SetOf_congr hS2 (fun k => (hasD_step _ c k).symm) (len_step _ c).symm
    refine wpAny_pure ⟨plainId_quiet F.plain_set_update_loop _, ih (i + 1) _ (by omega) lt (W.frame _ s' _ _ st' (Nat.le_succ _) fun b hb o e => ?_) hS3 fun s'' mv' hS'' => done s'' (Moved.trans W.gtrans ((mv.mono more).then_heap (Nat.le_succ _) fun b o hb e => ?_) mv') hS''⟩
    · rw [sb.2 b fun q : b = S => away (by rw [← q]; exact hb)]; exact e
    · rw [sb.2 b fun q : b = S => hb (by rw [q]; exact .head _)]; exact e
variable {s : Shared}
theorem sub_str_set : isSubtype (.type "str") (.type "set") = pure false := by rw [isSubtype_type]; kernel_rfl
theorem sub_str_frozenset : isSubtype (.type "str") (.type "frozenset") = pure false := by rw [isSubtype_type]; kernel_rfl
theorem call_set_text {x : Str} {tx : Tok} {Q : Value → Shared → Prop} (hh : A.handled = none) (small : x.cps.size + 1 < scanBound)
    (h : ∀ (h' : Heap) (tk : Nat), SetS prog w h' s.heap.objs.size (firsts x.cps.toList) → (∀ b o, b < s.heap.objs.size → s.heap.get? b = some o → h'.get? b = some o) → Q (.ref s.heap.objs.size) { s with heap := h', toks := tk }) :
    wpAny (model prog w) A (call (.type "set") [.str x tx]) Q E s := by
  obtain ⟨c, tl, hmro⟩ := F.called_set.mro
  have hmade := F.called_set.made
  have hsub := F.called_set.sub
  refine wpAny_call (codeAny_of_tree ?_)
  show wpAny _ _ (callAny (.type "set") _) _ _ _
  refine wpAny_pure ⟨Code.quiet_builtin _ (by decide +kernel), codeAny_builtin F.entry_type_call ?_⟩
  rw [Around.under_plain (weight_type_call_type "set" [.str x tx] []) rfl]
  have h1 := F.called_set.notType
  have h2 := F.called_set.canCreate
  have hct := PySem.F.typeCall_set_1 (.str x tx)
  repeat (any_goals (first | assumption | wp_step))
  refine codeAny_mono (code_set_new_1 (.str x tx) (E := E) (Q₁ := fun v s₁ => ∃ led : Bool, v = .ref s.heap.objs.size ∧ s₁ = { s with heap := s.heap.push { cls := .type "set", dict := none, data := .set #[] 0 (.fresh 0 0 led) } }) fun led => ⟨led, rfl, rfl⟩) fun r s₁ hr => ?_
  cases r with
  | error e => exact hr
  | ok fl =>
    cases fl with
    | ret v =>
      obtain ⟨led, rfl, rfl⟩ := hr
      have hS : (s.heap.push { cls := .type "set", dict := none, data := .set #[] 0 (.fresh 0 0 led) }).get? s.heap.objs.size = some { cls := .type "set", dict := none, data := .set #[] 0 (.fresh 0 0 led) } := Heap.get?_push_size _ rfl
      have hT : Shared.TypeIs { s with heap := s.heap.push { cls := .type "set", dict := none, data := .set #[] 0 (.fresh 0 0 led) } } (.ref s.heap.objs.size) "set" := ⟨_, hS, rfl⟩
      have hli := F.called_set.init.lookup
      have hbi := F.called_set.init.bind (.ref s.heap.objs.size)
      repeat (any_goals (first | assumption | wp_step))
      refine codeAny_mono (codeAny_call_builtin (R := wants (fun r s₂ => r = .none ∧ ∃ h' tk, s₂ = { s with heap := h', toks := tk } ∧ SetS prog w h' s.heap.objs.size (firsts x.cps.toList) ∧
          (∀ b o, b < s.heap.objs.size → s.heap.get? b = some o → h'.get? b = some o)) E) F.called_set.init.plain F.entry_set_init (check_set_init_1 hT ?_)) fun r₂ s₂ hr₂ => ?_
      · have hsls := sub_str_set
        have hslf := sub_str_frozenset
        have hne : (Value.type "str" == Value.type "dict") = false := by decide
        unfold Builtin.«set.__init__» noKeywords Builtin.Frozenset.updateFrom
        generalize hPI : pyIter = PI
        wp_walk
        subst hPI
        refine wpAny_pyIter_str fun o St W st => ?_
        refine wpAny_bind (wpAny_runValue ?_)
        have hh3 : A.in1.in1.in1.handled = none := by simp [hh]
        have away : s.heap.objs.size ∉ [(s.heap.push { cls := .type "set", dict := none, data := .set #[] 0 (.fresh 0 0 led) }).objs.size] := by
          rw [Heap.size_push, List.mem_singleton]
          exact Nat.ne_of_lt (Nat.lt_succ_self _)
        refine loopS ((W _ hh3).toS) s.heap.objs.size away small (x.cps.size - 0) 0 _ (by omega) (Nat.zero_le _) st ?hS0 ?hR
        case hS0 =>
          exact SetOf_congr ((PyProof.Rows.setObjOf_fresh (knd := strKind prog w) led).setOf (Heap.get?_push_of_some _ hS) (by unfold scanBound; omega)) (fun _ => rfl) rfl
        case hR =>
          intro s' mv hS'
          obtain ⟨h', g', d', tk', os'⟩ := s'
          have eg : g' = s.gens := mv.gens
          have ed : d' = s.drawn := mv.drawn
          have eo : os' = s.os := mv.os
          subst eg; subst ed; subst eo
          show wpAny _ _ _ _ _ _
          refine wpAny_pure ?_
          show wpAny _ _ (ret Value.none) _ _ _
          refine wpAny_pure ⟨rfl, h', tk', rfl, hS', fun b o hb e => ?_⟩
          have n1 : b ≠ s.heap.objs.size := Nat.ne_of_lt hb
          have n2 : b ≠ (s.heap.push { cls := .type "set", dict := none, data := .set #[] 0 (.fresh 0 0 led) }).objs.size := by
            rw [Heap.size_push]; exact Nat.ne_of_lt (Nat.lt_succ_of_lt hb)
          exact mv.heap b o (by simp only [List.mem_cons, List.mem_singleton, List.not_mem_nil, or_false, not_or]; exact ⟨n1, n2⟩) (Heap.get?_push_of_some _ (Heap.get?_push_of_some _ e))
      · cases r₂ with
        | error e => exact hr₂
        | ok fl₂ =>
          cases fl₂ with
          | ret r =>
            obtain ⟨rfl, h', tk, rfl, hS', hk'⟩ := hr₂
            repeat (any_goals (first | assumption | wp_step))
            exact h _ _ hS' hk'
          | _ => exact hr₂.elim
    | _ => exact hr.elim
end
/-! ### the rules -/
/-- len(set(text)) -/
def tKinds (ta : TE) : TE := fun σ H Q => ta σ H fun v H1 => ∃ z : Str, v = .str z ∧ z.length ≤ 4000 ∧ Q (.int (kinds z : Nat)) H1
theorem pe_kinds {X : Cx} {a : Expr} {ta : TE} {p p2 q pos : Pos} (hg : Gl X "len") (hm : X.mg "len" = none) (hg2 : Gl X "set") (hm2 : X.mg "set" = none) (ha : PE X a ta) (hc : X.calm = true := by rfl)
    (na : starEach [a] X.env = (false, eval a X.env) :: starEach [] X.env := by rfl) : PE X (.Call (.Name "len" p) [.Call (.Name "set" p2) [a] [] q] [] pos) (tKinds ta) := by
  constructor
  intro pins s σ H Q I h
  refine Call_ (ld_blt I hg hm boot_len (PyProof.Rows.callWith_builtin1 (PyProof.Rows.args_cons (Call_ (ld_blt I hg2 hm2 boot_set ?_)) rfl) rfl rfl))
  refine PyProof.Rows.callWith_type1 (PyProof.Rows.args_cons (thn (ha.run pins s σ H _ I h) fun v s1 ⟨y, H1, I1, r1, q1⟩ => PyProof.Rows.args_nil ?_) na) na rfl
  obtain ⟨z, rfl, hl, q1⟩ := q1
  obtain ⟨t, rfl⟩ := r1
  have hs : z.cps.size = z.length := rfl
  refine call_set_text (I1.ok.hd hc) (by rw [hs]; unfold scanBound; omega) fun h' tk hS hk => PyProof.Rows.args_nil ?_
  have kl := kinds_le z
  obtain ⟨o, es, ep, t2, ho, hex, hd, _, _, _, hf, hn⟩ := hS
  have hn2 : es.size = kinds z := hn
  have I2 : Inv X pins σ H1 { s1 with heap := h', toks := tk } := I1.kept fun b o e => hk b o (Heap.lt_size e) e
  exact call_len_set ho hex hd hf (by rw [hn2]; omega) ⟨.int (kinds z : Nat), H1, I2.tok _, ⟨_, by rw [hn2]⟩, q1⟩
/-- text * n -/
def rMulS : R2 := fun x y H Q => ∃ (z : Str) (n : Int), x = .str z ∧ y = .int n ∧ MulOk z n ∧ Q (.str (Txt.mul z n)) H
theorem op_mulS {X : Cx} : OpR X (binaryOp .Mult) rMulS := by
  intro pins s σ H x y v u Q I rx ry h
  obtain ⟨z, n, rfl, rfl, hz, q⟩ := h
  obtain ⟨t, rfl⟩ := rx
  obtain ⟨t', rfl⟩ := ry
  exact SB.mul hz fun t2 tk => ⟨.str (Txt.mul z n), H, I.tok _, ⟨_, rfl⟩, q⟩
end SxA

set_option Elab.async false
set_option linter.all false
set_option maxRecDepth 100000
set_option maxHeartbeats 4000000
namespace SxA
open PySem PySem.Spec PyProof.Rows L2
section
variable {prog : Program} {w : World} {A : Around} {E : Value → Shared → Prop} {s : Shared}
/-- list(it), it what reversed(a list) gave -/
theorem call_list_rev {it l : Addr} {items : Array Value} {Q : Value → Shared → Prop} (hh : A.handled = none) (hit : s.heap.IsRevIter it l ((items.size : Int) - 1)) (hl : s.heap.IsList l items) (hne : l ≠ it) (hn : items.size ≤ sizeLine)
    (hQ : ∀ (h' : Heap) (tk : Nat) (acc : Array Value) (c : Nat), (∀ b o, b ≠ it → s.heap.get? b = some o → h'.get? b = some o) → h'.get? s.heap.objs.size = some { cls := .type "list", dict := none, data := .seq acc c, slots := #[] } →
      ItemsOf (fun i v => items[items.size - 1 - i]? = some v) acc items.size → Q (.ref s.heap.objs.size) { s with heap := h', toks := tk }) :
    wpAny (model prog w) A (call (.type "list") [.ref it]) Q E s := by
  obtain ⟨oi, hoi, _⟩ := id hit
  obtain ⟨ol, hol, _⟩ := id hl
  have ni : s.heap.objs.size ≠ it := Nat.ne_of_gt (Heap.lt_size hoi)
  have nl : s.heap.objs.size ≠ l := Nat.ne_of_gt (Heap.lt_size hol)
  have away : s.heap.objs.size ∉ [it, l] := by
    simp only [List.mem_cons, List.not_mem_nil, or_false, not_or]
    exact ⟨ni, nl⟩
  refine callType_codes (Q₁ := fun v s₁ => v = .ref s.heap.objs.size ∧ s₁ = { s with heap := s.heap.push { cls := .type "list", data := .seq #[] } }) F.called_list (F.typeCall_list_1 _) F.entry_list_init (code_list_new _ ⟨rfl, rfl⟩) fun v s₁ h₁ => ?_
  obtain ⟨rfl, rfl⟩ := h₁
  have hS : (s.heap.push { cls := .type "list", data := .seq #[] }).get? s.heap.objs.size = some { cls := .type "list", data := .seq #[] } := Heap.get?_push_size _ rfl
  refine ⟨⟨_, hS, rfl⟩, F.args_list_init_2 _ _, ?_⟩
  show wpAny _ _ (do let old ← Builtin.List.listItems (.ref s.heap.objs.size); Builtin.List.listUpdate (.ref s.heap.objs.size) (fun _ => #[]); letGo old.toList.reverse; Builtin.List.listExtendWith (.ref s.heap.objs.size) (.ref it) .none) _ _ _
  refine wpAny_bind ?_
  unfold Builtin.List.listItems
  refine wpAny_bind (wpAny_seqItems hS rfl (wpAny_pure ?_))
  show wpAny _ _ (updateSeq s.heap.objs.size (fun _ => #[]) >>= fun _ => letGo (#[] : Array Value).toList.reverse >>= fun _ => Builtin.List.listExtendWith (.ref s.heap.objs.size) (.ref it) .none) _ _ _
  refine wpAny_bind (wpAny_updateSeq hS rfl ?_)
  have hS₂ := Heap.get?_update_self (Obj.mapSeq (fun _ => (#[] : Array Value))) hS rfl
  have oth : ∀ b o, b ≠ s.heap.objs.size → s.heap.get? b = some o → ((s.heap.push { cls := .type "list", data := .seq #[] }).update s.heap.objs.size (Obj.mapSeq (fun _ => (#[] : Array Value)))).get? b = some o :=
    fun b o hb e => (Heap.get?_update_other _ _ (Ne.symm hb)).trans (Heap.get?_push_of_some _ e)
  refine wpAny_bind (wpAny_letGo ?_)
  generalize hgh : (s.heap.push { cls := .type "list", data := .seq #[] }).update s.heap.objs.size (Obj.mapSeq (fun _ => (#[] : Array Value))) = g at hS₂ oth
  have hit1 : g.IsRevIter it l ((items.size : Int) - 1) := hit.at fun o e => oth _ _ ni.symm e
  have hl1 : g.IsList l items := hl.at fun o e => oth _ _ nl.symm e
  have hT : ({ s with heap := g } : Shared).TypeIs (.ref it) "list_reverseiterator" := Heap.IsRevIter.typeIs (s := { s with heap := g }) hit1
  have h1 : Builtin.List.listSameRef (.ref s.heap.objs.size) (.ref it) = false := by simp [Builtin.List.listSameRef, ni]
  have hh2 : A.in1.in1.handled = none := by simp [hh]
  have W := (Walks.listRev (prog := prog) (w := w) (A := A.in1.in1) hh2 it l hne items).toS
  unfold Builtin.List.listExtendWith
  refine wpAny_bind (wpAny_typeOf hT ?_)
  rw [if_neg (by rw [h1]; decide)]
  refine wpAny_bind (wpAny_pyIter_revIter (s := { s with heap := g }) hit1 (wpAny_bind (wpAny_holding ?_)))
  unfold Builtin.List.listLengthHint
  refine wpAny_bind (wpAny_specialOf hT RT.nolen_lri ?_)
  show wpAny _ _ (specialOf (Value.ref it) (Str.ofString "__length_hint__") >>= _) _ _ _
  refine wpAny_bind (wpAny_specialOf hT RT.hint_lri ?_)
  generalize hid : ("list_reverseiterator.__length_hint__" : String) = nm
  wp_delta
  rw [show splitId nm = some ("list_reverseiterator", "__length_hint__") from by subst hid; decide +kernel]
  subst hid
  refine wpAny_bind (wpAny_isInstance (b := true) hT (by rw [isSubtype_type]; kernel_rfl) (wpAny_pure ?_))
  rw [if_neg (by decide)]
  have e0 : ((items.size : Nat) : Int) - 1 - ((0 : Nat) : Int) = (items.size : Int) - 1 := by omega
  refine wpAny_pure ⟨plainId_quiet F.plain_extend_loop _, codeAny_extend_loopS W hn _ away _ items.size 0 _ _ _ rfl (Nat.zero_le _) ⟨Nat.zero_le _, by rw [e0]; exact hit1, hl1⟩ hS₂ (ItemsOf.nil _) fun s' acc' c' mv hS' hacc => ?_⟩
  rw [Moved.eq_with mv]
  refine ⟨rfl, hQ s'.heap s'.toks acc' c' (fun b o hb e => mv.heap b o (fun hmem => ?_) ?_) hS' hacc⟩
  · rcases List.mem_cons.mp hmem with e' | hmem
    · exact absurd (Heap.lt_size e) (by rw [e']; exact Nat.lt_irrefl _)
    · exact hb (List.mem_singleton.mp hmem)
  · exact oth b o (Nat.ne_of_lt (Heap.lt_size e)) e
end
/-- list(reversed(x)), x a list -/
def tListRev (K : PySem.W.Frag) (te : TE) : TE := fun σ H Q => te σ H fun v H1 => ∃ (a : Addr) (xs : List V), v = .ref a ∧ SqL K H1 a xs ∧ ∀ q, H1 q = none → Q (.ref q) (upd H1 q (.lst xs.reverse))
theorem pe_listRev {X : Cx} {e : Expr} {te : TE} {p p2 pos pos2 : Pos} (hg : Gl X "list") (hm : X.mg "list" = none) (hg2 : Gl X "reversed") (hm2 : X.mg "reversed" = none) (he : PE X e te) (hc : X.calm = true := by rfl)
    (hs : starEach [e] X.env = (false, eval e X.env) :: starEach [] X.env := by rfl)
    (hs2 : starEach [.Call (.Name "reversed" p2) [e] [] pos2] X.env = (false, eval (.Call (.Name "reversed" p2) [e] [] pos2) X.env) :: starEach [] X.env := by rfl) :
    PE X (.Call (.Name "list" p) [.Call (.Name "reversed" p2) [e] [] pos2] [] pos) (tListRev X.K te) := by
  constructor
  intro pins s σ H Q I h
  refine Call_ (ld_blt I hg hm boot_list (PyProof.Rows.callWith_type1 (args_cons (Call_ (ld_blt I hg2 hm2 PyProof.Rows.boot_reversed (PyProof.Rows.callWith_type1 (args_cons (thn (he.run pins s σ H _ I h) fun u s1 ⟨v, H1, I1, r1, q1⟩ => args_nil ?_) hs) hs rfl))) hs2) hs2 rfl))
  obtain ⟨a, xs, rfl, hq, q⟩ := q1
  obtain rfl : u = Value.ref a := r1
  obtain ⟨its, rv, pl, hz⟩ := I1.list hq
  refine call_reversed_list pl.isList (args_nil ?_)
  have hl := pl.isList
  obtain ⟨ol, hol, _⟩ := id hl
  have hne : a ≠ s1.heap.objs.size := Nat.ne_of_lt (Heap.lt_size hol)
  have hn : its.toArray.size ≤ sizeLine := by rw [List.size_toArray, ← rv.length]; exact hz
  have sz : (s1.heap.push (revObj a ((its.toArray.size : Int) - 1))).objs.size = s1.heap.objs.size + 1 := Heap.size_push _ _
  refine call_list_rev (s := { s1 with heap := s1.heap.push (revObj a ((its.toArray.size : Int) - 1)) }) (I1.ok.hd hc) ⟨_, Heap.get?_push_size _ rfl, rfl, rfl⟩ (hl.push _) hne hn fun h' tk acc c hk hS hi => ?_
  have e1 : acc.toList.toArray = acc := by simp
  refine ⟨.ref (s1.heap.push (revObj a ((its.toArray.size : Int) - 1))).objs.size, upd H1 _ (.lst xs.reverse), I1.laid (t' := tk) (fun b o e => hk b o (Nat.ne_of_lt (Heap.lt_size e)) (Heap.get?_push_of_some _ e)) (by rw [sz]; exact Nat.le_succ _)
    (show ObjOk X.prog X.w _ h' _ (.lst xs.reverse) from ⟨by rw [List.length_reverse]; exact hz, acc.toList, c, RT.vals_rev rv hi, by rw [e1]; exact hS⟩), rfl, q _ (I1.hok.fresh (by rw [sz]; exact Nat.le_succ _))⟩
end SxA

set_option Elab.async false
set_option linter.all false
set_option maxRecDepth 100000
set_option maxHeartbeats 1000000
namespace Sx
open PySem PySem.Spec PyProof.Rows L2 SxA
/-- a def of the top -/
abbrev Fd (K : PySem.W.Frag) (x : Str) (st : Stmt) : Prop := ∃ fd, FunD K x x (defArgs st) (defBody st) (defScope st) [] [] (He.ga K x) fd
section
variable {P : Program} {w : World} {K : PySem.W.Frag} {mg : Str → Option Value} {base : Heap}
def Ok (P : Program) (w : World) (K : PySem.W.Frag) (mg : Str → Option Value) (base : Heap) (k : Nat) (x : Str) (ps : List Str) (sp : Sp) : Prop :=
  ∃ fd, FnOk P w K mg base CX0 k (He.ga K x) fd ps sp ∧ Binds K fd ps [] ∧ PySem.W.keepIn K (.ref (He.ga K x)) = true ∧ mg x = some (.ref (He.ga K x))
theorem mkOk {x : Str} {st : Stmt} {N ps : List Str} {k : Nat} {sp : Sp} (d : Fd K x st) (hx : mg x = some (.ref (He.ga K x))) (S : FnScope N ps (defScope st)) (len : ∀ vs H Q E, sp vs H Q E → vs.length = ps.length)
    (bnd : ∀ (kV doc pm : Value) (an : Option Addr) (cdv ct : Value) (us : List Value), us.length = ps.length → bindArgs (PySem.W.fnOf x x (defArgs st) (defBody st) (defScope st) .none kV doc pm an cdv ct) ⟨us, []⟩ = pure (ps.zip us))
    (body : ∀ (cdv : Value) (A : Around) (outer : List Env) (s : Shared) (H0 : Hp) (vs : List V) (Q : VK) (E : XK), Room k (A.deeper (envOfC x (defScope st) s.heap.objs.size (He.ga K x) cdv)) → sp vs H0 Q E →
      ∃ t, PSs (cxOf CX0 P w K mg base N x (defScope st) (He.ga K x) cdv A outer s H0 E).nox (defBody st) t ∧ t { nx := fun _ H' => Q .non H', rt := Q } (start N vs) H0) : Ok P w K mg base (k + 1) x ps sp := by
  obtain ⟨fd, F⟩ := d
  refine ⟨fd, F.ok S len fun cdv A outer s H vs Q E hr h => ?_, F.bindsN bnd, F.kp, hx⟩
  obtain ⟨t, h1, h2⟩ := body cdv A outer s H vs Q E hr h
  exact ⟨t, h1.nox, h2⟩
theorem pe_ok {X : Cx} {k : Nat} {x : Str} {ps : List Str} {sp : Sp} {p pos : Pos} {e : Expr} {es : List Expr} {t : TA} (o : Ok X.prog X.w X.K X.mg X.base k x ps sp) (hr : Room k X.A) (hg : Gl X x) (ha : PA X (e :: es) t)
    (hdb : (x == ("__debug__" : Str)) = false := by decide) (hs : starEach (e :: es) X.env = (false, eval e X.env) :: starEach es X.env := by rfl) (hpl : ((backTo pos (starEach es X.env)).any (·.1)) = false := by rfl) :
    PE X (.Call (.Name x p) (e :: es) [] pos) (tCall sp [] E0 t) := by
  obtain ⟨fd, F, b, kp, hm⟩ := o
  exact pe_call F hr hg hm kp b .nil pass0 ha hdb hs hpl
def But (a : Addr) (H H' : Hp) : Prop := ∀ b o, H b = some o → b ≠ a → H' b = some o
theorem But.of {a : Addr} {H H' : Hp} (s : Same H H') : But a H H' := fun b o e _ => s b o e
theorem Same.new {H : Hp} {p : Addr} {o : HO} (h : H p = none) : Same H (upd H p o) := fun b o e => by
  rw [upd_ne (ne_of_none e h)]
  exact e
theorem Same.put {H0 H : Hp} {p : Addr} {o : HO} (s : Same H0 H) (h : H0 p = none) : Same H0 (upd H p o) := fun b o e => by
  rw [upd_ne (ne_of_none e h)]
  exact s b o e
theorem lc_text {z : Str} {ys : List V} {te : TE} {i0 : Nat} {vs : List Nat} {σ : L2.St} {H1 : Hp} {D : Addr} {Qd : Hp → Prop} (hD : H1 D = none) (hl : ys.length = z.cps.toList.length) (hz : ys.length ≤ sizeLine)
    (hw : ∀ c : Nat, wipe ((wipe σ vs).set i0 (some (.str (sg c)))) vs = wipe σ vs)
    (he : ∀ (i c : Nat) (y : V) (H : Hp) (Q : VK), z.cps.toList[i]? = some c → ys[i]? = some y → Same H1 H → (∀ H', Same H H' → Q y H') → te ((wipe σ vs).set i0 (some (.str (sg c)))) H Q)
    (hd : ∀ H, Same H1 H → H D = some (.lst ys) → Qd H) :
    ∃ W : Nat → Nat → Hp → Prop, (∃ m, W 0 m (upd H1 D (.lst []))) ∧ ∀ i m H, W i m H → ((Its z).stop i H ∧ Qd H) ∨ ((Its z).go i H ∧ ∃ Nx : Hp → Prop, (∀ H', Nx H' → ∃ m', m' < m ∧ W (i + 1) m' H') ∧
      ∀ x H', (Its z).yld i H x H' → (gName i0) x (wipe σ vs) H' fun σ2 H2 => wipe σ2 vs = wipe σ vs ∧ tYes σ2 H2 fun b H3 => if b = true then te σ2 H3 fun y H4 => ∃ acc, H4 D = some (.lst acc) ∧ acc.length < sizeLine ∧ Nx (upd H4 D (.lst (acc ++ [y]))) else Nx H3) := by
  have hsz : z.cps.size = ys.length := by rw [hl]; simp
  refine ⟨fun i m H => m = ys.length - i ∧ i ≤ ys.length ∧ Same H1 H ∧ H D = some (.lst (ys.take i)), ⟨ys.length, rfl, Nat.zero_le _, Same.new hD, upd_same⟩, ?_⟩
  rintro i m H ⟨rfl, hi, sm, hH⟩
  by_cases lt : i < ys.length
  · refine .inr ⟨by show i < z.cps.size; omega, fun H' => Same H1 H' ∧ H' D = some (.lst (ys.take (i + 1))), fun H' q => ⟨ys.length - (i + 1), by omega, rfl, lt, q.1, q.2⟩, ?_⟩
    rintro x H' ⟨rfl, c, hc, rfl⟩
    have hc2 : z.cps.toList[i]? = some c := by rw [Array.getElem?_toList]; exact hc
    have hy : ys[i]? = some ys[i] := List.getElem?_eq_getElem lt
    refine ⟨hw c, ?_⟩
    show te _ _ _
    refine he i c _ _ _ hc2 hy sm fun H4 s4 => ⟨ys.take i, s4 _ _ hH, ?_, ?_, ?_⟩
    · rw [List.length_take]; omega
    · exact Same.put (sm.trans s4) hD
    · rw [upd_same, List.take_add_one, hy]; rfl
  · have e : i = ys.length := by omega
    subst e
    refine .inl ⟨by show z.cps.size ≤ ys.length; omega, hd H sm ?_⟩
    rw [hH, List.take_length]
theorem lc_known {a : Addr} {xs ys : List V} {te : TE} {i0 : Nat} {vs : List Nat} {σ : L2.St} {H1 : Hp} {D : Addr} {Qd : Hp → Prop} (hD : H1 D = none) (hq : SqL K H1 a xs) (hl : ys.length = xs.length) (hz : ys.length ≤ sizeLine)
    (hw : ∀ v : V, wipe ((wipe σ vs).set i0 (some v)) vs = wipe σ vs)
    (he : ∀ (i : Nat) (x y : V) (H : Hp) (Q : VK), xs[i]? = some x → ys[i]? = some y → Same H1 H → (∀ H', Same H H' → Q y H') → te ((wipe σ vs).set i0 (some x)) H Q)
    (hd : ∀ H, Same H1 H → H D = some (.lst ys) → Qd H) :
    ∃ W : Nat → Nat → Hp → Prop, (∃ m, W 0 m (upd H1 D (.lst []))) ∧ ∀ i m H, W i m H → ((Itl K a).stop i H ∧ Qd H) ∨ ((Itl K a).go i H ∧ ∃ Nx : Hp → Prop, (∀ H', Nx H' → ∃ m', m' < m ∧ W (i + 1) m' H') ∧
      ∀ x H', (Itl K a).yld i H x H' → (gName i0) x (wipe σ vs) H' fun σ2 H2 => wipe σ2 vs = wipe σ vs ∧ tYes σ2 H2 fun b H3 => if b = true then te σ2 H3 fun y H4 => ∃ acc, H4 D = some (.lst acc) ∧ acc.length < sizeLine ∧ Nx (upd H4 D (.lst (acc ++ [y]))) else Nx H3) := by
  refine lc_list (K := K) (a := a) (xs := xs) (g := gName i0) (tt := tYes) (te := te) (fun i H => Same H1 H ∧ H D = some (.lst (ys.take i))) ⟨Same.new hD, upd_same⟩ (fun i H _ p => p.1.seq hq) ?_ ?_
  · rintro i x H hx ⟨sm, hH⟩
    have lt : i < ys.length := by rw [hl]; exact (List.getElem?_eq_some_iff.mp hx).1
    have hy : ys[i]? = some ys[i] := List.getElem?_eq_getElem lt
    refine ⟨hw x, ?_⟩
    show te _ _ _
    refine he i x _ _ _ hx hy sm fun H4 s4 => ⟨ys.take i, s4 _ _ hH, ?_, Same.put (sm.trans s4) hD, ?_⟩
    · rw [List.length_take]; omega
    · rw [upd_same, List.take_add_one, hy]; rfl
  · rintro H ⟨sm, hH⟩
    rw [← hl, List.take_length] at hH
    exact hd H sm hH
abbrev sl (z : Str) : List Nat := z.cps.toList
theorem sl_len (z : Str) : z.length = (sl z).length := by simp [Str.length]
theorem lt1 (a b : Nat) : decide ((⟨#[a]⟩ : Str).cps.toList < (⟨#[b]⟩ : Str).cps.toList) = decide (a < b) := by
  rw [decide_eq_decide]
  show [a] < [b] ↔ a < b
  rw [List.cons_lt_cons_iff]
  constructor
  · rintro (h | ⟨_, h⟩)
    · exact h
    · exact absurd h (List.not_lt_nil _)
  · exact Or.inl
theorem eq_sg (c e : Nat) : decide (V.str (sg c) = V.str (sg e)) = decide (c = e) := by
  rw [decide_eq_decide]
  exact ⟨fun h => sg_inj (V.str.inj h), fun h => by rw [h]⟩
theorem mkFn {x : Str} {st : Stmt} {N ps : List Str} {k : Nat} {sp : Sp} {fd : FuncData} (F : FunD K x x (defArgs st) (defBody st) (defScope st) [] [] (He.ga K x) fd) (S : FnScope N ps (defScope st)) (len : ∀ vs H Q E, sp vs H Q E → vs.length = ps.length)
    (body : ∀ (cdv : Value) (A : Around) (outer : List Env) (s : Shared) (H0 : Hp) (vs : List V) (Q : VK) (E : XK), Room k (A.deeper (envOfC x (defScope st) s.heap.objs.size (He.ga K x) cdv)) → sp vs H0 Q E →
      ∃ t, PSs (cxOf CX0 P w K mg base N x (defScope st) (He.ga K x) cdv A outer s H0 E).nox (defBody st) t ∧ t { nx := fun _ H' => Q .non H', rt := Q } (start N vs) H0) : FnOk P w K mg base CX0 (k + 1) (He.ga K x) fd ps sp := by
  refine F.ok S len fun cdv A outer s H vs Q E hr h => ?_
  obtain ⟨t, h1, h2⟩ := body cdv A outer s H vs Q E hr h
  exact ⟨t, h1.nox, h2⟩
theorem pgi {X : Cx} {x : Str} {i : Int} {k : Tok} {pos : Pos} (hg : Gl X x) (hm : X.mg x = some (.int i k)) (hd : (x == ("__debug__" : Str)) = false := by decide) : PE X (.Name x pos) (tC (.int i)) := pe_glob (v := .int i) hg hm ⟨_, rfl⟩ hd
theorem pgs {X : Cx} {x z : Str} {k : Tok} {pos : Pos} (hg : Gl X x) (hm : X.mg x = some (.str z k)) (hd : (x == ("__debug__" : Str)) = false := by decide) : PE X (.Name x pos) (tC (.str z)) := pe_glob (v := .str z) hg hm ⟨_, rfl⟩ hd
theorem op_notInK {X : Cx} {K : PySem.W.Frag} (h : X.K = K) : OpR X (compareOp .NotIn) (rIn K true) := by
  subst h
  exact op_notIn_seq
theorem small4 {n : Nat} (h : n ≤ 4000) : n ≤ sizeLine := Nat.le_trans h (by decide)
theorem sqD {D : Addr} {H : Hp} {ys : List V} (h : H D = some (.lst ys)) : SqL K H D ys := SqL.of h
theorem big6 {n : Nat} (h : n ≤ 1000000) : n ≤ sizeLine := Nat.le_trans h (by decide)
def off (a : Addr) (H : Hp) : Hp := fun b => if b = a then none else H b
def fresh (H H' : Hp) : Hp := fun b => match H b with
  | none => H' b
  | some _ => none
theorem off_ne {a b : Addr} {H : Hp} (h : b ≠ a) : off a H b = H b := if_neg h
theorem off_some {a b : Addr} {H : Hp} {o : HO} (h : off a H b = some o) : b ≠ a ∧ H b = some o := by
  unfold off at h
  by_cases e : b = a
  · rw [if_pos e] at h; cases h
  · rw [if_neg e] at h; exact ⟨e, h⟩
theorem fresh_of {H H' : Hp} {b : Addr} (h : H b = none) : fresh H H' b = H' b := by
  unfold fresh; rw [h]
theorem fresh_some {H H' : Hp} {b : Addr} {o : HO} (h : fresh H H' b = some o) : H b = none ∧ H' b = some o := by
  unfold fresh at h
  cases e : H b with
  | none => rw [e] at h; exact ⟨rfl, h⟩
  | some u => rw [e] at h; cases h
theorem off_le {a : Addr} {H : Hp} : Same (off a H) H := fun b o h => (off_some h).2
theorem off_up {a : Addr} {H H' : Hp} (s : Same H H') : Same (off a H) (off a H') := fun b o h => by
  obtain ⟨h1, h2⟩ := off_some h
  rw [off_ne h1]
  exact s _ _ h2
theorem off_but {a : Addr} {H H' : Hp} (s : But a H H') : Same (off a H) (off a H') := fun b o h => by
  obtain ⟨h1, h2⟩ := off_some h
  rw [off_ne h1]
  exact s _ _ h2 h1
theorem off_put (a : Addr) (H : Hp) (o : HO) : off a (upd H a o) = off a H := by
  funext b
  unfold off
  by_cases e : b = a
  · rw [if_pos e, if_pos e]
  · rw [if_neg e, if_neg e, upd_ne e]
theorem off_in {a : Addr} {H0 H : Hp} (s : Same H0 H) (h : H0 a = none) : Same H0 (off a H) := fun b o e => by
  rw [off_ne (ne_of_none e h)]
  exact s _ _ e
theorem fresh_le {H H' : Hp} : Same (fresh H H') H' := fun b o h => (fresh_some h).2
theorem fresh_off {a : Addr} {H H' : Hp} {u : HO} (h : H a = some u) : Same (fresh H H') (off a H') := fun b o e => by
  obtain ⟨h1, h2⟩ := fresh_some e
  rw [off_ne fun q => by rw [q, h] at h1; cases h1]
  exact h2
theorem fresh_up {H H1 H' H2 : Hp} (s : ∀ b, H1 b = none → H b = none) (s2 : Same H' H2) : Same (fresh H1 H') (fresh H H2) := fun b o e => by
  obtain ⟨h1, h2⟩ := fresh_some e
  rw [fresh_of (s b h1)]
  exact s2 _ _ h2
theorem Same.none {H H' : Hp} (s : Same H H') : ∀ b, H' b = Option.none → H b = Option.none := fun b h => s.free h
theorem put_new (f : Str) (v : V) : ∀ fs : List (Str × V), (∀ q ∈ fs, q.1 ≠ f) → putF f v fs = fs ++ [(f, v)]
  | [], _ => rfl
  | (g, x) :: r, h => by
    show (if g = f then (g, v) :: r else (g, x) :: putF f v r) = _
    rw [if_neg (h (g, x) (.head _)), put_new f v r fun q hq => h q (.tail _ hq)]
    rfl
theorem len_put (f : Str) (v : V) : ∀ fs : List (Str × V), (putF f v fs).length ≤ fs.length + 1
  | [] => Nat.le_refl _
  | (g, x) :: r => by
    show (if g = f then (g, v) :: r else (g, x) :: putF f v r).length ≤ _
    by_cases h : g = f
    · rw [if_pos h]; exact Nat.le_succ _
    · rw [if_neg h]; exact Nat.succ_le_succ (len_put f v r)
theorem len_put_lt {f : Str} {v : V} {fs : List (Str × V)} {n : Nat} (h : fs.length ≤ n) : (putF f v fs).length ≤ n + 1 := Nat.le_trans (len_put f v fs) (Nat.succ_le_succ h)
theorem lc_rel {a : Addr} {xs : List V} {te : TE} {i0 : Nat} {vs : List Nat} {σ : L2.St} {H1 : Hp} {D : Addr} {Qd : Hp → Prop} (Rel : Nat → V → Hp → Prop) (hm : ∀ i v H H', Rel i v H → Same H H' → Rel i v H') (hD : H1 D = none) (hq : SqL K H1 a xs) (hz : xs.length ≤ sizeLine)
    (hw : ∀ v : V, wipe ((wipe σ vs).set i0 (some v)) vs = wipe σ vs)
    (he : ∀ (i : Nat) (x : V) (H : Hp) (Q : VK) (acc : List V), xs[i]? = some x → Same H1 H → H D = some (.lst acc) → (∀ y H', Same H H' → Rel i y (fresh H H') → Q y H') → te ((wipe σ vs).set i0 (some x)) H Q)
    (hd : ∀ H ys, Same H1 H → H D = some (.lst ys) → ys.length = xs.length → (∀ i y, ys[i]? = some y → Rel i y (fresh H1 (off D H))) → Qd H) :
    ∃ W : Nat → Nat → Hp → Prop, (∃ m, W 0 m (upd H1 D (.lst []))) ∧ ∀ i m H, W i m H → ((Itl K a).stop i H ∧ Qd H) ∨ ((Itl K a).go i H ∧ ∃ Nx : Hp → Prop, (∀ H', Nx H' → ∃ m', m' < m ∧ W (i + 1) m' H') ∧
      ∀ x H', (Itl K a).yld i H x H' → (gName i0) x (wipe σ vs) H' fun σ2 H2 => wipe σ2 vs = wipe σ vs ∧ tYes σ2 H2 fun b H3 => if b = true then te σ2 H3 fun y H4 => ∃ acc, H4 D = some (.lst acc) ∧ acc.length < sizeLine ∧ Nx (upd H4 D (.lst (acc ++ [y]))) else Nx H3) := by
  refine lc_list (K := K) (a := a) (xs := xs) (g := gName i0) (tt := tYes) (te := te) (fun i H => Same H1 H ∧ ∃ ys, H D = some (.lst ys) ∧ ys.length = i ∧ ∀ j y, ys[j]? = some y → Rel j y (fresh H1 (off D H)))
    ⟨Same.new hD, [], upd_same, rfl, fun j y h => by simp at h⟩ (fun i H _ p => p.1.seq hq) ?_ ?_
  · rintro i x H hx ⟨sm, ys, hH, hl, hr⟩
    have lt : i < xs.length := (List.getElem?_eq_some_iff.mp hx).1
    refine ⟨hw x, ?_⟩
    show te _ _ _
    refine he i x _ _ ys hx sm hH fun y H4 s4 r4 => ⟨ys, s4 _ _ hH, by omega, Same.put (sm.trans s4) hD, ys ++ [y], upd_same, by rw [List.length_append, hl]; rfl, fun j v hj => ?_⟩
    rw [off_put]
    by_cases hji : j < ys.length
    · rw [List.getElem?_append_left hji] at hj
      exact hm _ _ _ _ (hr j v hj) (fresh_up (fun b h => h) (off_up s4))
    · rw [List.getElem?_append_right (by omega)] at hj
      have hj0 : j - ys.length = 0 := by
        have := (List.getElem?_eq_some_iff.mp hj).1
        rw [List.length_singleton] at this
        omega
      rw [hj0] at hj
      obtain rfl : y = v := Option.some.inj hj
      have e : j = i := by omega
      rw [e]
      refine hm _ _ _ _ r4 fun b o e => ?_
      obtain ⟨h1, h2⟩ := fresh_some e
      have hb : b ≠ D := fun q => by rw [q, hH] at h1; cases h1
      rw [fresh_of (Sx.Same.none sm b h1), off_ne hb]
      exact h2
  · rintro H ⟨sm, ys, hH, hl, hr⟩
    exact hd H ys sm hH hl hr
def pInts (cs : List Int) : PyData := .list (cs.map PyData.int)
theorem eqvAll_ints : ∀ xs ys : List Int, PyData.eqvAll (xs.map PyData.int) (ys.map PyData.int) = decide (xs = ys)
  | [], [] => rfl
  | [], y :: ys => by simp [PyData.eqvAll]
  | x :: xs, [] => by simp [PyData.eqvAll]
  | x :: xs, y :: ys => by
    rw [List.map_cons, List.map_cons, PyData.eqvAll, eqvAll_ints xs ys, PyData.eqv]
    by_cases h : x = y
    · subst h; simp
    · simp [h]
theorem eqv_ints (xs ys : List Int) : PyData.eqv (pInts xs) (pInts ys) = decide (xs = ys) := by
  unfold pInts
  rw [PyData.eqv]
  exact eqvAll_ints xs ys
theorem lay_ints : ∀ xs : List Int, PyData.canLayAll0 (xs.map PyData.int) = true
  | [] => rfl
  | x :: xs => by
    rw [List.map_cons, PyData.canLayAll0, lay_ints xs]
    rfl
theorem dep_ints : ∀ xs : List Int, PyData.depthAll (xs.map PyData.int) ≤ 1
  | [] => Nat.zero_le _
  | x :: xs => by
    rw [List.map_cons, PyData.depthAll]
    exact Nat.max_le.mpr ⟨by rw [PyData.depth]; decide, dep_ints xs⟩
theorem shaped_ints (xs : List Int) : SeqAt.shaped (pInts xs) = true := by
  unfold SeqAt.shaped pInts
  rw [PyData.canLay0, lay_ints, PyData.depth]
  have := dep_ints xs
  simp
  omega
theorem dpAll_ints (K : PySem.W.Frag) (H : Hp) : ∀ xs : List Int, DpAll K H (xs.map V.int) (xs.map PyData.int)
  | [] => .nil
  | x :: xs => .cons (.int x) (dpAll_ints K H xs)
theorem dp_ints {K : PySem.W.Frag} {H : Hp} {a : Addr} {xs : List Int} (h : SqL K H a (xs.map V.int)) : Dp K H (.ref a) (pInts xs) := .lst h (dpAll_ints K H xs)
theorem hu64 {A : Around} {k : Nat} (hr : Room k A) : A.units + 64 < cLine := by
  have := hr.un
  omega
theorem lc_zip {a b : Addr} {xs ys zs : List V} {te : TE} {i0 j0 : Nat} {vs : List Nat} {σ : L2.St} {H1 : Hp} {D : Addr} {Qd : Hp → Prop} (hD : H1 D = none) (hx : SqL K H1 a xs) (hy : SqL K H1 b ys) (hl : ys.length = xs.length) (hz : zs.length = xs.length) (hb : zs.length ≤ sizeLine)
    (hw : ∀ u v : V, wipe (((wipe σ vs).set i0 (some u)).set j0 (some v)) vs = wipe σ vs)
    (he : ∀ (i : Nat) (x y z : V) (H : Hp) (Q : VK), xs[i]? = some x → ys[i]? = some y → zs[i]? = some z → Same H1 H → (∀ H', Same H H' → Q z H') → te (((wipe σ vs).set i0 (some x)).set j0 (some y)) H Q)
    (hd : ∀ H, Same H1 H → H D = some (.lst zs) → Qd H) :
    ∃ W : Nat → Nat → Hp → Prop, (∃ m, W 0 m (upd H1 D (.lst []))) ∧ ∀ i m H, W i m H → ((Itz K a b).stop i H ∧ Qd H) ∨ ((Itz K a b).go i H ∧ ∃ Nx : Hp → Prop, (∀ H', Nx H' → ∃ m', m' < m ∧ W (i + 1) m' H') ∧
      ∀ x H', (Itz K a b).yld i H x H' → (gTup K 2 (gCons (gName i0) (gCons (gName j0) gNil))) x (wipe σ vs) H' fun σ2 H2 => wipe σ2 vs = wipe σ vs ∧ tYes σ2 H2 fun b H3 => if b = true then te σ2 H3 fun y H4 => ∃ acc, H4 D = some (.lst acc) ∧ acc.length < sizeLine ∧ Nx (upd H4 D (.lst (acc ++ [y]))) else Nx H3) := by
  refine ⟨fun i m H => m = zs.length - i ∧ i ≤ zs.length ∧ Same H1 H ∧ H D = some (.lst (zs.take i)), ⟨zs.length, rfl, Nat.zero_le _, Same.new hD, upd_same⟩, ?_⟩
  rintro i m H ⟨rfl, hi, sm, hH⟩
  by_cases lt : i < zs.length
  · have ex : xs[i]? = some (xs[i]'(by omega)) := List.getElem?_eq_getElem _
    have ey : ys[i]? = some (ys[i]'(by omega)) := List.getElem?_eq_getElem _
    have ez : zs[i]? = some zs[i] := List.getElem?_eq_getElem lt
    refine .inr ⟨⟨xs, ys, _, _, sm.seq hx, sm.seq hy, ex, ey⟩, fun H' => Same H1 H' ∧ H' D = some (.lst (zs.take (i + 1))), fun H' q => ⟨zs.length - (i + 1), by omega, rfl, lt, q.1, q.2⟩, ?_⟩
    rintro v H' ⟨T, x, y, rfl, hT, rfl, h1, h2⟩
    have hx2 := h1 _ (sm.seq hx)
    have hy2 := h2 _ (sm.seq hy)
    refine ⟨T, [x, y], rfl, SqT.of upd_same, rfl, x, _, rfl, y, _, rfl, rfl, hw x y, ?_⟩
    show te _ _ _
    have nDT : D ≠ T := ne_of_none hH hT
    refine he i x y _ _ _ hx2 hy2 ez (sm.trans (Same.new hT)) fun H4 s4 => ⟨zs.take i, s4 _ _ (by rw [upd_ne nDT]; exact hH), ?_, ?_, ?_⟩
    · rw [List.length_take]; omega
    · exact Same.put ((sm.trans (Same.new hT)).trans s4) hD
    · rw [upd_same, List.take_add_one, ez]; rfl
  · have e : i = zs.length := by omega
    subst e
    refine .inl ⟨⟨xs, ys, sm.seq hx, sm.seq hy, .inl (by omega)⟩, hd H sm ?_⟩
    rw [hH, List.take_length]
theorem lc_rangeF {lo : Int} {n : Nat} {f : Nat → Bool} {F : Nat → V} {tt : TT} {te : TE} {i0 : Nat} {vs : List Nat} {σ : L2.St} {H1 : Hp} {D : Addr} {Qd : Hp → Prop} (hD : H1 D = none) (hn : n ≤ sizeLine)
    (hw : ∀ u : V, wipe ((wipe σ vs).set i0 (some u)) vs = wipe σ vs)
    (ht : ∀ (i : Nat) (H : Hp) (Q : Bool → Hp → Prop), i < n → Same H1 H → Q (f i) H → tt ((wipe σ vs).set i0 (some (.int (lo + (i : Nat))))) H Q)
    (he : ∀ (i : Nat) (H : Hp) (Q : VK), i < n → Same H1 H → Q (F i) H → te ((wipe σ vs).set i0 (some (.int (lo + (i : Nat))))) H Q)
    (hd : ∀ H, Same H1 H → H D = some (.lst (((List.range n).filter f).map F)) → Qd H) :
    ∃ W : Nat → Nat → Hp → Prop, (∃ m, W 0 m (upd H1 D (.lst []))) ∧ ∀ i m H, W i m H → ((Itr lo n).stop i H ∧ Qd H) ∨ ((Itr lo n).go i H ∧ ∃ Nx : Hp → Prop, (∀ H', Nx H' → ∃ m', m' < m ∧ W (i + 1) m' H') ∧
      ∀ x H', (Itr lo n).yld i H x H' → (gName i0) x (wipe σ vs) H' fun σ2 H2 => wipe σ2 vs = wipe σ vs ∧ tt σ2 H2 fun b H3 => if b = true then te σ2 H3 fun y H4 => ∃ acc, H4 D = some (.lst acc) ∧ acc.length < sizeLine ∧ Nx (upd H4 D (.lst (acc ++ [y]))) else Nx H3) := by
  have step : ∀ i, ((List.range (i + 1)).filter f).map F = ((List.range i).filter f).map F ++ (if f i = true then [F i] else []) := fun i => by
    rw [List.range_succ, List.filter_append, List.map_append]
    by_cases h : f i = true
    · rw [if_pos h]; simp [List.filter_cons, h]
    · rw [if_neg h]; simp [List.filter_cons, h]
  have small : ∀ i, i < n → (((List.range i).filter f).map F).length < sizeLine := fun i h => by
    rw [List.length_map]
    have := List.length_filter_le f (List.range i)
    rw [List.length_range] at this
    omega
  refine lc_range (g := gName i0) (tt := tt) (te := te) (fun i H => Same H1 H ∧ H D = some (.lst (((List.range i).filter f).map F))) ⟨Same.new hD, upd_same⟩ ?_ (fun H q => hd H q.1 q.2)
  rintro i H hi ⟨sm, hH⟩
  refine ⟨hw _, ht i H _ hi sm ?_⟩
  by_cases h : f i = true
  · rw [if_pos h]
    refine he i H _ hi sm ⟨_, hH, small i hi, Same.put sm hD, ?_⟩
    rw [upd_same, step, if_pos h]
  · rw [if_neg h]
    exact ⟨sm, by rw [hH, step, if_neg h, List.append_nil]⟩
theorem eq_int (a b : Int) : decide (V.int a = V.int b) = decide (a = b) := by
  rw [decide_eq_decide]
  exact ⟨V.int.inj, congrArg V.int⟩
theorem eq_str (a b : Str) : decide (V.str a = V.str b) = decide (a = b) := by
  rw [decide_eq_decide]
  exact ⟨V.str.inj, congrArg V.str⟩
theorem lc_rangeS {lo : Int} {n : Nat} {f : Nat → Bool} {F : Nat → V} {tt : TT} {te : TE} {i0 : Nat} {vs : List Nat} {σ : L2.St} {H1 : Hp} {D : Addr} {Qd : Hp → Prop} (hD : H1 D = none) (hn : n ≤ sizeLine)
    (hw : ∀ u : V, wipe ((wipe σ vs).set i0 (some u)) vs = wipe σ vs)
    (ht : ∀ (i : Nat) (H : Hp) (Q : Bool → Hp → Prop), i < n → Same H1 H → (∀ H', Same H H' → Q (f i) H') → tt ((wipe σ vs).set i0 (some (.int (lo + (i : Nat))))) H Q)
    (he : ∀ (i : Nat) (H : Hp) (Q : VK), i < n → Same H1 H → Q (F i) H → te ((wipe σ vs).set i0 (some (.int (lo + (i : Nat))))) H Q)
    (hd : ∀ H, Same H1 H → H D = some (.lst (((List.range n).filter f).map F)) → Qd H) :
    ∃ W : Nat → Nat → Hp → Prop, (∃ m, W 0 m (upd H1 D (.lst []))) ∧ ∀ i m H, W i m H → ((Itr lo n).stop i H ∧ Qd H) ∨ ((Itr lo n).go i H ∧ ∃ Nx : Hp → Prop, (∀ H', Nx H' → ∃ m', m' < m ∧ W (i + 1) m' H') ∧
      ∀ x H', (Itr lo n).yld i H x H' → (gName i0) x (wipe σ vs) H' fun σ2 H2 => wipe σ2 vs = wipe σ vs ∧ tt σ2 H2 fun b H3 => if b = true then te σ2 H3 fun y H4 => ∃ acc, H4 D = some (.lst acc) ∧ acc.length < sizeLine ∧ Nx (upd H4 D (.lst (acc ++ [y]))) else Nx H3) := by
  have step : ∀ i, ((List.range (i + 1)).filter f).map F = ((List.range i).filter f).map F ++ (if f i = true then [F i] else []) := fun i => by
    rw [List.range_succ, List.filter_append, List.map_append]
    by_cases h : f i = true
    · rw [if_pos h]; simp [List.filter_cons, h]
    · rw [if_neg h]; simp [List.filter_cons, h]
  have small : ∀ i, i < n → (((List.range i).filter f).map F).length < sizeLine := fun i h => by
    rw [List.length_map]
    have := List.length_filter_le f (List.range i)
    rw [List.length_range] at this
    omega
  refine lc_range (g := gName i0) (tt := tt) (te := te) (fun i H => Same H1 H ∧ H D = some (.lst (((List.range i).filter f).map F))) ⟨Same.new hD, upd_same⟩ ?_ (fun H q => hd H q.1 q.2)
  rintro i H hi ⟨sm, hH⟩
  refine ⟨hw _, ht i H _ hi sm fun H' s' => ?_⟩
  have hH' := s' _ _ hH
  have sm' := sm.trans s'
  by_cases h : f i = true
  · rw [if_pos h]
    refine he i H' _ hi sm' ⟨_, hH', small i hi, Same.put sm' hD, ?_⟩
    rw [upd_same, step, if_pos h]
  · rw [if_neg h]
    exact ⟨sm', by rw [hH', step, if_neg h, List.append_nil]⟩
theorem pe_fldK {X : Cx} {K : PySem.W.Frag} {e : Expr} {f : Str} {pos : Pos} {ta : TE} (h : X.K = K) (ha : PE X e ta) (hb : attributeBase e f X.env (eval e X.env) = eval e X.env := by rfl) : PE X (.Attribute e f pos) (tFld K ta f) := by
  subst h
  exact pe_fld ha hb
def tTru (K : PySem.W.Frag) (ta : TE) : TT := fun σ H Q => ta σ H fun x H' => ∃ k, TruV K x H' k ∧ Q k H'
theorem pt_truthK {X : Cx} {K : PySem.W.Frag} {a : Expr} {ta : TE} (h : X.K = K) (ha : PE X a ta) (he : ∀ whole, isTrue a X.env whole = (do let v ← whole; standAt a.pos; holding [v] (truthy v)) := by intro _; rfl) :
    PT X a (tTru K ta) := by
  subst h
  exact pt_truth ha he
theorem op_inK {X : Cx} {K : PySem.W.Frag} (h : X.K = K) : OpR X (compareOp .In) (rIn K false) := by
  subst h
  exact op_in_seq
theorem But.refl (a : Addr) (H : Hp) : But a H H := fun _ _ e _ => e
theorem But.trans {a : Addr} {H H1 H2 : Hp} (x : But a H H1) (y : But a H1 H2) : But a H H2 := fun b o e hb => y b o (x b o e hb) hb
theorem But.put (a : Addr) (H : Hp) (o : HO) : But a H (upd H a o) := fun b u e hb => by rw [upd_ne hb]; exact e
theorem ix_tupK {X : Cx} {K : PySem.W.Frag} (h : X.K = K) : IxR X (rIxT K) := by
  subst h
  exact ix_tup
theorem ix_listK {X : Cx} {K : PySem.W.Frag} (h : X.K = K) : IxR X (rIxL K) := by
  subst h
  exact ix_list
theorem But.none {a b : Addr} {H H' : Hp} {o : HO} (s : But a H H') (h : H' a = some o) (hb : H' b = Option.none) : H b = Option.none := by
  cases e : H b with
  | none => rfl
  | some u =>
    have n : b ≠ a := fun q => by rw [q, h] at hb; cases hb
    rw [s b u e n] at hb
    cases hb
theorem sl_app (a b : Str) : sl (a ++ b) = sl a ++ sl b := by
  show (a.cps ++ b.cps).toList = _
  simp
theorem sl_sg (c : Nat) : sl (sg c) = [c] := rfl
theorem sl_mt : sl (Str.ofString "") = [] := by decide +kernel
theorem len_app (a b : Str) : (a ++ b).length = a.length + b.length := by
  rw [sl_len, sl_len, sl_len, sl_app, List.length_append]
theorem sl_ext {a b : Str} (h : sl a = sl b) : a = b := by
  obtain ⟨a⟩ := a
  obtain ⟨b⟩ := b
  have : a = b := by
    apply Array.ext'
    exact h
  rw [this]
theorem join_sg : ∀ zs : List Nat, sl (Txt.join (Str.ofString "") (zs.map sg)) = zs := by
  intro zs
  have e : Txt.join (Str.ofString "") (zs.map sg) = Str.join (Str.ofString "") (zs.map sg) := eq_of_beq (join_plain_closes _ _)
  rw [e]
  have e0 : Str.ofString "" = ⟨#[]⟩ := by decide +kernel
  rw [e0]
  induction zs with
  | nil => rfl
  | cons c r ih =>
    cases r with
    | nil => rfl
    | cons d r =>
      have e2 : Str.join ⟨#[]⟩ ((c :: d :: r).map sg) = sg c ++ ⟨#[]⟩ ++ Str.join ⟨#[]⟩ ((d :: r).map sg) := rfl
      rw [e2, sl_app, ih (eq_of_beq (join_plain_closes _ _)), sl_app]
      rfl
theorem lc_signs {z : Str} {tt : TT} {te : TE} {i0 : Nat} {vs : List Nat} {σ : L2.St} {H1 : Hp} {D : Addr} {Qd : Hp → Prop} (Pv : Nat → Hp → Prop) (h0 : Pv 0 (upd H1 D (.lst [])))
    (hs : ∀ (i c : Nat) (H : Hp), (sl z)[i]? = some c → Pv i H → wipe ((wipe σ vs).set i0 (some (.str (sg c)))) vs = wipe σ vs ∧ tt ((wipe σ vs).set i0 (some (.str (sg c)))) H fun b H3 => if b = true then te ((wipe σ vs).set i0 (some (.str (sg c)))) H3 fun y H4 => ∃ acc, H4 D = some (.lst acc) ∧ acc.length < sizeLine ∧ Pv (i + 1) (upd H4 D (.lst (acc ++ [y]))) else Pv (i + 1) H3)
    (hd : ∀ H, Pv (sl z).length H → Qd H) :
    ∃ W : Nat → Nat → Hp → Prop, (∃ m, W 0 m (upd H1 D (.lst []))) ∧ ∀ i m H, W i m H → ((Its z).stop i H ∧ Qd H) ∨ ((Its z).go i H ∧ ∃ Nx : Hp → Prop, (∀ H', Nx H' → ∃ m', m' < m ∧ W (i + 1) m' H') ∧
      ∀ x H', (Its z).yld i H x H' → (gName i0) x (wipe σ vs) H' fun σ2 H2 => wipe σ2 vs = wipe σ vs ∧ tt σ2 H2 fun b H3 => if b = true then te σ2 H3 fun y H4 => ∃ acc, H4 D = some (.lst acc) ∧ acc.length < sizeLine ∧ Nx (upd H4 D (.lst (acc ++ [y]))) else Nx H3) := by
  have hsz : z.cps.size = (sl z).length := by simp
  refine ⟨fun i m H => m = (sl z).length - i ∧ i ≤ (sl z).length ∧ Pv i H, ⟨(sl z).length, rfl, Nat.zero_le _, h0⟩, ?_⟩
  rintro i m H ⟨rfl, hi, p⟩
  by_cases lt : i < (sl z).length
  · refine .inr ⟨by show i < z.cps.size; omega, Pv (i + 1), fun H' q => ⟨(sl z).length - (i + 1), by omega, rfl, lt, q⟩, ?_⟩
    rintro x H' ⟨rfl, c, hc, rfl⟩
    exact hs i c _ (by rw [Array.getElem?_toList]; exact hc) p
  · have e : i = (sl z).length := by omega
    subst e
    exact .inl ⟨by show z.cps.size ≤ (sl z).length; omega, hd H p⟩
theorem for_signs {z : Str} {g : TG} {tb : TS} {D : Ends} {σ : L2.St} {H : Hp} (Pv : Nat → L2.St → Hp → Prop) (h0 : Pv 0 σ H)
    (hs : ∀ (i c : Nat) (σ : L2.St) (H : Hp), (sl z)[i]? = some c → Pv i σ H → g (.str (sg c)) σ H fun σ2 H2 => tb { D with nx := Pv (i + 1), ct := Pv (i + 1), bk := D.nx } σ2 H2) (hd : ∀ σ H, Pv (sl z).length σ H → D.nx σ H) :
    ∃ W : Nat → Nat → L2.St → Hp → Prop, (∃ m, W 0 m σ H) ∧ ∀ i m σ H, W i m σ H → ((Its z).stop i H ∧ D.nx σ H) ∨ ((Its z).go i H ∧ ∃ N : L2.St → Hp → Prop, (∀ σ' H', N σ' H' → ∃ m', m' < m ∧ W (i + 1) m' σ' H') ∧
      ∀ v H', (Its z).yld i H v H' → g v σ H' fun σ2 H2 => tb { D with nx := N, ct := N, bk := D.nx } σ2 H2) := by
  have hsz : z.cps.size = (sl z).length := by simp
  refine ⟨fun i m σ H => m = (sl z).length - i ∧ i ≤ (sl z).length ∧ Pv i σ H, ⟨(sl z).length, rfl, Nat.zero_le _, h0⟩, ?_⟩
  rintro i m σ H ⟨rfl, hi, p⟩
  by_cases lt : i < (sl z).length
  · refine .inr ⟨by show i < z.cps.size; omega, Pv (i + 1), fun σ' H' q => ⟨(sl z).length - (i + 1), by omega, rfl, lt, q⟩, ?_⟩
    rintro x H' ⟨rfl, c, hc, rfl⟩
    exact hs i c σ _ (by rw [Array.getElem?_toList]; exact hc) p
  · have e : i = (sl z).length := by omega
    subst e
    exact .inl ⟨by show z.cps.size ≤ (sl z).length; omega, hd σ H p⟩
theorem RZat {l : List Nat} {u : Int} (h : u.toNat < l.length) (h0 : 0 ≤ u) : atI l u = some l[u.toNat] := by
  have h2 := atI_nat (xs := l) (j := u.toNat) (List.getElem?_eq_getElem h)
  have e : ((u.toNat : Nat) : Int) = u := by omega
  rw [e] at h2
  exact h2
theorem map_snoc {α β : Type} (f : α → β) (l : List α) (x : α) : (l ++ [x]).map f = l.map f ++ [f x] := by simp
end
end Sx

set_option Elab.async false
set_option linter.all false
set_option maxRecDepth 100000
set_option maxHeartbeats 1000000
namespace Sx
open PySem PySem.Spec PyProof.Rows L2 SxA
/-! ### classes: methods that do not raise, and what is made -/
section
variable {P : Program} {w : World} {K : PySem.W.Frag} {mg : Str → Option Value} {base : Heap}
def Met (P : Program) (w : World) (K : PySem.W.Frag) (mg : Str → Option Value) (base : Heap) (k : Nat) (C m : Str) (ps : List Str) (sp : Sp) : Prop :=
  ∃ fd, FnOk P w K mg base CX0 k (He.ma K (He.ga K C) m) fd ps sp ∧ Binds K fd ps []
theorem mkMet {C m qual : Str} {st : Stmt} {N ps : List Str} {k : Nat} {sp : Sp} (d : ∃ fd, FunD K m qual (defArgs st) (defBody st) (defScope st) [] [] (He.ma K (He.ga K C) m) fd) (S : FnScope N ps (defScope st)) (len : ∀ vs H Q E, sp vs H Q E → vs.length = ps.length)
    (bnd : ∀ (kV doc pm : Value) (an : Option Addr) (cdv ct : Value) (us : List Value), us.length = ps.length → bindArgs (PySem.W.fnOf m qual (defArgs st) (defBody st) (defScope st) .none kV doc pm an cdv ct) ⟨us, []⟩ = pure (ps.zip us))
    (body : ∀ (cdv : Value) (A : Around) (outer : List Env) (s : Shared) (H0 : Hp) (vs : List V) (Q : VK) (E : XK), Room k (A.deeper (envOfC qual (defScope st) s.heap.objs.size (He.ma K (He.ga K C) m) cdv)) → sp vs H0 Q E →
      ∃ t, PSs (cxOf CX0 P w K mg base N qual (defScope st) (He.ma K (He.ga K C) m) cdv A outer s H0 E).nox (defBody st) t ∧ t { nx := fun _ H' => Q .non H', rt := Q } (start N vs) H0) : Met P w K mg base (k + 1) C m ps sp := by
  obtain ⟨fd, F⟩ := d
  refine ⟨fd, F.ok S len fun cdv A outer s H vs Q E hr h => ?_, F.bindsN bnd⟩
  obtain ⟨t, h1, h2⟩ := body cdv A outer s H vs Q E hr h
  exact ⟨t, h1.nox, h2⟩
theorem pe_met {X : Cx} {k : Nat} {C m : Str} {ps : List Str} {sp : Sp} {apos pos : Pos} {o e : Expr} {es : List Expr} {ta : TE} {t : TA} {pl : Sem Bool} (M : Met X.prog X.w X.K X.mg X.base k C m ps sp) (c : Cls X.K (He.ga X.K C)) (hm : Meth X.K (He.ga X.K C) m (He.ma X.K (He.ga X.K C) m))
    (hr : Room k X.A) (he : PE X o ta) (ha : PA X (e :: es) t)
    (hst : starEach (e :: es) X.env = (false, eval e X.env) :: starEach es X.env := by rfl) (hpl : (backTo pos (starEach es X.env)).any (·.1) = false := by rfl)
    (ht : eval (.Call (.Attribute o m apos) (e :: es) [] pos) X.env = (do
      let ov ← eval o X.env
      standAt apos.atName
      let (f, first) ← holding [ov] (getMethod ov m pl)
      callWith pos f first (backTo pos (starEach (e :: es) X.env)) (backToKw pos (keywordEach [] X.env))) := by rfl) :
    PE X (.Call (.Attribute o m apos) (e :: es) [] pos) (tMeth (He.ga X.K C) m sp [] E0 ta t) := by
  obtain ⟨fd, F, b⟩ := M
  exact pe_meth he c hm F hr b .nil pass0 ha hst hpl ht
theorem pe_met0 {X : Cx} {k : Nat} {C m : Str} {ps : List Str} {sp : Sp} {apos pos : Pos} {o : Expr} {ta : TE} {pl : Sem Bool} (M : Met X.prog X.w X.K X.mg X.base k C m ps sp) (c : Cls X.K (He.ga X.K C)) (hm : Meth X.K (He.ga X.K C) m (He.ma X.K (He.ga X.K C) m))
    (hr : Room k X.A) (he : PE X o ta)
    (ht : eval (.Call (.Attribute o m apos) [] [] pos) X.env = (do
      let ov ← eval o X.env
      standAt apos.atName
      let (f, first) ← holding [ov] (getMethod ov m pl)
      callWith pos f first (backTo pos (starEach [] X.env)) (backToKw pos (keywordEach [] X.env))) := by rfl) :
    PE X (.Call (.Attribute o m apos) [] [] pos) (tMeth (He.ga X.K C) m sp [] E0 ta tNil) := by
  obtain ⟨fd, F, b⟩ := M
  exact pe_meth0 he c hm F hr b .nil pass0 ht
theorem pe_metK {X : Cx} {K : PySem.W.Frag} {k : Nat} {C m : Str} {ps : List Str} {sp : Sp} {apos pos : Pos} {o e : Expr} {es : List Expr} {ta : TE} {t : TA} {pl : Sem Bool} (h : X.K = K) (M : Met X.prog X.w K X.mg X.base k C m ps sp) (c : Cls K (He.ga K C)) (hm : Meth K (He.ga K C) m (He.ma K (He.ga K C) m))
    (hr : Room k X.A) (he : PE X o ta) (ha : PA X (e :: es) t)
    (hst : starEach (e :: es) X.env = (false, eval e X.env) :: starEach es X.env := by rfl) (hpl : (backTo pos (starEach es X.env)).any (·.1) = false := by rfl)
    (ht : eval (.Call (.Attribute o m apos) (e :: es) [] pos) X.env = (do
      let ov ← eval o X.env
      standAt apos.atName
      let (f, first) ← holding [ov] (getMethod ov m pl)
      callWith pos f first (backTo pos (starEach (e :: es) X.env)) (backToKw pos (keywordEach [] X.env))) := by rfl) :
    PE X (.Call (.Attribute o m apos) (e :: es) [] pos) (tMeth (He.ga K C) m sp [] E0 ta t) := by
  subst h
  exact pe_met M c hm hr he ha hst hpl ht
theorem pe_met0K {X : Cx} {K : PySem.W.Frag} {k : Nat} {C m : Str} {ps : List Str} {sp : Sp} {apos pos : Pos} {o : Expr} {ta : TE} {pl : Sem Bool} (h : X.K = K) (M : Met X.prog X.w K X.mg X.base k C m ps sp) (c : Cls K (He.ga K C)) (hm : Meth K (He.ga K C) m (He.ma K (He.ga K C) m))
    (hr : Room k X.A) (he : PE X o ta)
    (ht : eval (.Call (.Attribute o m apos) [] [] pos) X.env = (do
      let ov ← eval o X.env
      standAt apos.atName
      let (f, first) ← holding [ov] (getMethod ov m pl)
      callWith pos f first (backTo pos (starEach [] X.env)) (backToKw pos (keywordEach [] X.env))) := by rfl) :
    PE X (.Call (.Attribute o m apos) [] [] pos) (tMeth (He.ga K C) m sp [] E0 ta tNil) := by
  subst h
  exact pe_met0 M c hm hr he ht
theorem pe_mk {X : Cx} {k : Nat} {C : Str} {ps : List Str} {sp : Sp} {p pos : Pos} {e : Expr} {es : List Expr} {t : TA} (M : Met X.prog X.w X.K X.mg X.base k C "__init__" ps sp) (m : Mk X.K (He.ga X.K C) (He.ma X.K (He.ga X.K C) "__init__")) (hm : X.mg C = some (.ref (He.ga X.K C)))
    (hr : Room (k + 1) X.A) (hg : Gl X C) (ha : PA X (e :: es) t)
    (hdb : (C == ("__debug__" : Str)) = false := by decide) (he : starEach (e :: es) X.env = (false, eval e X.env) :: starEach es X.env := by rfl) (hpl : (backTo pos (starEach es X.env)).any (·.1) = false := by rfl) :
    PE X (.Call (.Name C p) (e :: es) [] pos) (tMake (He.ga X.K C) sp [] E0 t) := by
  obtain ⟨fd, F, b⟩ := M
  exact pe_make m F hr hg hm b .nil pass0 ha hdb he hpl
end
end Sx

set_option Elab.async false
set_option linter.all false
set_option maxRecDepth 100000
set_option maxHeartbeats 4000000
/-! rules that the layer lacks: enumerate over a text; two except clauses of which the first one has a name; super().__init__ of an own exception -/
namespace SxK
open PySem PySem.Spec PyProof.Rows L2
abbrev sgn (c : Nat) : Str := ⟨#[c]⟩
/-! ### for i, c in enumerate(text) -/
def Ise (z : Str) : It :=
  ⟨fun i _ => i < z.cps.size, fun i H v H' => ∃ T c, v = .ref T ∧ H T = none ∧ H' = upd H T (.tup [.int (i : Nat), .str (sgn c)]) ∧ z.cps[i]? = some c, fun i _ => z.cps.size ≤ i⟩
theorem drawsT {P : Program} {w : World} {A : Around} (hh : A.handled = none) (it : Addr) (z : Str) (t : Tok) : Draws P w A it [it] z.cps.size (SignAt z) (fun i h => h.IsStrIter it (strIterType z) z t i) := by
  unfold strIterType
  cases z.cps.all (· < 128)
  · exact Draws.strWide hh it z t
  · exact Draws.strAscii hh it z t
theorem turn_enumT {P : Program} {w : World} {K : PySem.W.Frag} {elts : List Expr} {kk : Nat} {tpos : Pos} (z : Str) (t : Tok) (e it : Addr) :
    Turn P w K (.Tuple elts kk tpos) (Ise z) [e, it] e (fun i h => (∃ old, IsEnum h e it ((i : Nat) : Int) old) ∧ h.IsStrIter it (strIterType z) z t i ∧ e ≠ it ∧ i ≤ z.cps.size) where
  mem := List.mem_cons_self
  obj := fun i h st b hb => by
    obtain ⟨⟨old, he⟩, ⟨o, ho, hcl, hdt⟩, _, _⟩ := st
    rcases List.mem_cons.mp hb with q | q
    · subst q; exact ⟨_, he, fun v n => nomatch n⟩
    · rw [List.mem_singleton.mp q]; exact ⟨o, ho, fun v n => by rw [hdt] at n; cases n⟩
  keep := fun i h h' st k => by
    obtain ⟨⟨old, he⟩, ⟨o, ho, r⟩, hne, hle⟩ := st
    exact ⟨⟨old, k e List.mem_cons_self _ he⟩, ⟨o, k it (List.mem_cons_of_mem _ List.mem_cons_self) o ho, r⟩, hne, hle⟩
  item := by
    intro X hP hw hK hc i pins s σ H E I hf st hg
    subst hP hw hK
    obtain ⟨⟨old, he⟩, hit, hne, hle⟩ := st
    have el : e < s.heap.objs.size := Heap.lt_size he
    have il : it < s.heap.objs.size := by
      obtain ⟨_, q, _⟩ := id hit
      exact Heap.lt_size q
    have D : Draws X.prog X.w X.A.in1 it [it] z.cps.size (SignAt z) (fun i h => h.IsStrIter it (strIterType z) z t i) := drawsT (A := X.A.in1) (show X.A.in1.handled = none from I.ok.hd hc) it z t
    refine wpAny_pyNext_enum_itemD D he hit hg hne (fun q => hne (List.mem_singleton.mp q)) fun x h' tk hx ho hit' hT hsz hk => ?_
    obtain ⟨c, u, hcz, rfl⟩ := hx
    refine ⟨_, rfl, wpAny_letOwnedTupleGo_enum (s := { s with heap := h', toks := tk + 1 }) ho fun h2 he2 sb => ?_⟩
    have hT2 : h2.get? s.heap.objs.size = some { cls := .type "tuple", data := .seq #[.int i tk, .str ⟨#[c]⟩ u] } := (sb.2 _ (Nat.ne_of_gt el)).trans hT
    have nw : ObjOk X.prog X.w (upd H s.heap.objs.size (.tup [.int (i : Nat), .str (sgn c)])) h2 s.heap.objs.size (.tup [.int (i : Nat), .str (sgn c)]) :=
      ⟨(by show 2 ≤ sizeLine; decide), [.int i tk, .str ⟨#[c]⟩ u], .cons ⟨_, rfl⟩ (.cons ⟨_, rfl⟩ .nil), ⟨_, hT2, rfl, _, rfl⟩⟩
    have I1 : Inv X pins σ (upd H s.heap.objs.size (.tup [.int (i : Nat), .str (sgn c)])) { s with heap := h2, toks := tk + 1 } :=
      I.turnedNew (ch := [e, it]) (fun b ob hb q => by
        have b1 : b ≠ e := fun n => hb (by rw [n]; exact List.mem_cons_self)
        have b2 : b ≠ it := fun n => hb (by rw [n]; exact List.mem_cons_of_mem _ List.mem_cons_self)
        exact (sb.2 b b1).trans (hk b ob b1 b2 q)) hf (Nat.le_refl _) nw
    have e1 : ((i + 1 : Nat) : Int) = (i : Int) + 1 := by omega
    refine ⟨.ref s.heap.objs.size, _, I1, rfl, ⟨_, c, rfl, I.hok.fresh (Nat.le_refl _), rfl, hcz⟩, ⟨⟨_, by rw [e1]; exact he2⟩, ?_, hne, Nat.succ_le_of_lt hg⟩, fun b hb => ?_⟩
    · obtain ⟨o, ho2, r⟩ := hit'
      exact ⟨o, (sb.2 it (Ne.symm hne)).trans ho2, r⟩
    · have lt : b < s.heap.objs.size := by
        rcases List.mem_cons.mp hb with q | q
        · rw [q]; exact el
        · rw [List.mem_singleton.mp q]; exact il
      rw [upd_ne (Nat.ne_of_lt lt)]
      exact (hf b hb).1
  done := by
    intro X hP hw hK hc i pins s σ H E I hf st hg
    subst hP hw hK
    obtain ⟨⟨old, he⟩, hit, hne, hle⟩ := st
    have D : Draws X.prog X.w X.A.in1 it [it] z.cps.size (SignAt z) (fun i h => h.IsStrIter it (strIterType z) z t i) := drawsT (A := X.A.in1) (show X.A.in1.handled = none from I.ok.hd hc) it z t
    obtain ⟨f0, f1, f2, f3, f4, f5⟩ := hf it (List.mem_cons_of_mem _ List.mem_cons_self)
    have ei : i = z.cps.size := Nat.le_antisymm hle hg
    subst ei
    exact wpAny_pyNext_enum_endD D he hit fun h' eb => ⟨rfl, I.turned (t' := s.toks) (fun b o hb q => eb b o hb q) f0 f1 f3 f4 f5⟩
  self := fun A i s Q E st h => by
    obtain ⟨⟨_, he⟩, _⟩ := st
    exact wpAny_pyIter_enum he h
def iEnumT (ta : TA) : TI := fun σ H R => ta σ H fun vs H1 => ∃ z : Str, vs = [.str z] ∧ R (Ise z) H1
theorem pi_enumT {X : Cx} {e : Expr} {ta : TA} {p pos tpos : Pos} {elts : List Expr} {kk : Nat} (hg : Gl X "enumerate") (hm : X.mg "enumerate" = none) (ha : PA X [e] ta) (hs : starEach [e] X.env = [(false, eval e X.env)] := by rfl) :
    PI X (.Tuple elts kk tpos) (.Call (.Name "enumerate" p) [e] [] pos) (iEnumT ta) := by
  refine ⟨fun pins s σ H R I h => ?_⟩
  refine Call_ (ld_blt I hg hm boot_enumerate (PyProof.Rows.callWith_type1 (thn (ha.run pos pins s σ H _ I h) fun us s1 ⟨vs, H1, I1, r1, z, ez, q⟩ => ?_) hs rfl))
  subst ez
  cases r1 with
  | cons r rr =>
    cases rr
    obtain ⟨t, rfl⟩ := r
    have gt : ∀ b, b ∈ [s1.heap.objs.size + 1, s1.heap.objs.size] → s1.heap.objs.size ≤ b := fun b hb => by
      rcases List.mem_cons.mp hb with n | n
      · rw [n]; exact Nat.le_add_right _ _
      · rw [List.mem_singleton.mp n]; exact Nat.le_refl _
    refine call_enumerate_str fun h' he hit hsz hk => wpAny_pyIter_enum he ?_
    exact ⟨s1.heap.objs.size + 1, [s1.heap.objs.size + 1, s1.heap.objs.size], _, _, H1, rfl, I1.kept (t' := s1.toks) hk, turn_enumT z t (s1.heap.objs.size + 1) s1.heap.objs.size,
      ⟨⟨.none, he⟩, hit, Nat.succ_ne_self _, Nat.zero_le _⟩, fun b hb => I1.fpOk (gt b hb) (I1.hok.fresh (gt b hb)), q⟩
theorem for_enumT {z : Str} {g : TG} {tb : TS} {D : Ends} {σ : L2.St} {H : Hp} (Pv : Nat → L2.St → Hp → Prop) (h0 : Pv 0 σ H)
    (hs : ∀ (i c : Nat) (T : Addr) (σ : L2.St) (H : Hp), z.cps.toList[i]? = some c → Pv i σ H → H T = none → g (.ref T) σ (upd H T (.tup [.int (i : Nat), .str (sgn c)])) fun σ2 H2 => tb { D with nx := Pv (i + 1), ct := Pv (i + 1), bk := D.nx } σ2 H2)
    (hd : ∀ σ H, Pv z.cps.toList.length σ H → D.nx σ H) :
    ∃ W : Nat → Nat → L2.St → Hp → Prop, (∃ m, W 0 m σ H) ∧ ∀ i m σ H, W i m σ H → ((Ise z).stop i H ∧ D.nx σ H) ∨ ((Ise z).go i H ∧ ∃ N : L2.St → Hp → Prop, (∀ σ' H', N σ' H' → ∃ m', m' < m ∧ W (i + 1) m' σ' H') ∧
      ∀ v H', (Ise z).yld i H v H' → g v σ H' fun σ2 H2 => tb { D with nx := N, ct := N, bk := D.nx } σ2 H2) := by
  have hsz : z.cps.size = z.cps.toList.length := by simp
  refine ⟨fun i m σ H => m = z.cps.toList.length - i ∧ i ≤ z.cps.toList.length ∧ Pv i σ H, ⟨z.cps.toList.length, rfl, Nat.zero_le _, h0⟩, ?_⟩
  rintro i m σ H ⟨rfl, hi, p⟩
  by_cases lt : i < z.cps.toList.length
  · refine .inr ⟨by show i < z.cps.size; omega, Pv (i + 1), fun σ' H' q => ⟨z.cps.toList.length - (i + 1), by omega, rfl, lt, q⟩, ?_⟩
    rintro v H' ⟨T, c, rfl, hT, rfl, hc⟩
    exact hs i c T σ _ (by rw [Array.getElem?_toList]; exact hc) p hT
  · have e : i = z.cps.toList.length := by omega
    subst e
    exact .inl ⟨by show z.cps.size ≤ z.cps.toList.length; omega, hd σ H p⟩
end SxK

set_option Elab.async false
set_option linter.all false
set_option maxRecDepth 100000
set_option maxHeartbeats 4000000
namespace SxK
open PySem PySem.Spec PyProof.Rows L2
/-! ### try with clauses of which the first one, with a name, takes every exception that is due -/
/-- the ends behind a suite whose name in slot i goes -/
def dropAt (i : Nat) (D : Ends) : Ends := { nx := fun σ' H' => D.nx (σ'.set i none) H', rt := D.rt, bk := fun σ' H' => D.bk (σ'.set i none) H', ct := fun σ' H' => D.ct (σ'.set i none) H' }
def wFirst (K : PySem.W.Frag) (c : Value) (i : Nat) (ts : Addr → Value → Option Addr → TS) (D : Ends) : WX := fun cls d σ H =>
  PySem.W.exmOne K cls c = some true ∧ ∀ a, H a = none → ts a cls d (dropAt i D) (σ.set i (some (.ref a))) H
section
variable {X : Cx} {x n : Str} {c : Value} {i : Nat} {body suite : List Stmt} {b₀ : Stmt} {np pos pos' : Pos} {more : List ExceptHandler} {tb : WX → TS} {ts : Addr → Value → Option Addr → TS}
theorem ps_try_first (st : X.stack = X.env :: X.outer) (fr : X.env.frame = some X.env.locals) (nd : X.N.Nodup) (ni : X.N[i]? = some n) (nl : X.env.kindOf n = some .local) (nc : Names X x c)
    (tryB : ∀ (W : WX) (pn : List (Addr × Obj)) (xe : Value → Shared → Prop), Takes (X.tr pn xe) W → PassesOwn (model X.prog X.w) X.A X.env xe → PSs (X.tr pn xe) body (tb W))
    (suiteB : ∀ (a : Addr) (oe : Obj) (cls : Value) (d : Option Addr) (pn : List (Addr × Obj)), Zc cls d oe → (∃ vs, oe.data = .fields vs) → PSs (X.suite a ((a, oe) :: pn)) (b₀ :: suite) (ts a cls d)) :
    PS X (.Try body (.ExceptHandler (some (.Name x np)) (some n) (b₀ :: suite) pos' :: more) [] [] pos) (fun D σ H => tb (wFirst X.K c i ts D) D σ H) := by
  refine ⟨fun pins s σ H D I h => ?_⟩
  have okX := I.ok
  have afr : X.A.frames = some (X.env :: X.outer) := by rw [okX.frames, st]
  refine wpAny_Try_except (wpAny_mono ((tryB (wFirst X.K c i ts D) (X.pn ++ pins) _ (fun u s2 y => ?_) PassesOwn.looking).run [] s σ H D (I.toTry _) h) (fun f s1 q => ?_) (fun e s1 q => q))
  · obtain ⟨a, B, sJ, pins2, τ, G, cls, d, rfl, J0, inB, upS, air, free, osJ, gnJ, mt, wish⟩ := y
    have J : Inv X pins τ G sJ := J0.ofTry okX
    have air2 : Sky B (X.env :: X.outer) a (Zc cls d) X.env.locals s2.heap := by rw [← st]; exact air
    show wpAny (model X.prog X.w) X.A (noteFrame (.ref a) X.env) _ _ _
    refine Sky.land Zc.steady afr fr air2 fun hL flL upL => ?_
    have JL : Inv X pins τ G { s2 with heap := hL } := J.landed inB flL.1 (upS.trans upL) osJ gnJ
    obtain ⟨oL, vL, eL, zL, dL⟩ := flL.there
    have off : a ∉ frs (X.env :: X.outer) := fun hm => by
      obtain ⟨_, o', e', hnf⟩ := flL.2.2.1.mem hm
      rw [eL] at e'
      cases e'
      exact hnf _ dL
    have aL : a ≠ X.env.locals := fun z => off (List.mem_filterMap.mpr ⟨X.env, List.mem_cons_self, by rw [fr, z]⟩)
    have aF : a ∉ X.fs := fun hm => by
      obtain ⟨e, he, q⟩ := List.mem_filterMap.mp hm
      exact off (List.mem_filterMap.mpr ⟨e, List.mem_cons_of_mem _ he, q⟩)
    have SL := JL.suite eL dL free aL aF
    refine wpAny_handleBy_cons (codeAny_handlers_test ?_) (fun q => by cases q)
    have tyL : PySem.W.Looks (model X.prog X.w) hL (typeOf (.ref a)) cls := fun A Q E s k q => wpAny_typeOf_ref (k _ _ eL) (by rw [zL.1]; exact q)
    have mtL := PySem.W.exm_one (M := model X.prog X.w) JL.kIn tyL mt
    have named : ∀ {Q : Value → Shared → Prop} {E : Value → Shared → Prop}, Q c { s2 with heap := hL } → wpAny (model X.prog X.w) (X.A.mark (some (.ref a))) (eval (.Name x np) X.env) Q E { s2 with heap := hL } := fun {Q E} q => by
      rcases nc with ⟨g1, g2, m1 | ⟨m1, m2, m3⟩⟩
      · exact ld_glob (X := X.suite a ((a, oL) :: (X.pn ++ pins))) SL g1 m1 q g2
      · exact ld_blt (X := X.suite a ((a, oL) :: (X.pn ++ pins))) SL g1 m1 m2 q m3 g2
    refine named (mtL.here (codeAny_handlers_suite_as (HandSPX.lands_againZ flL fun hR flR upR => ?_)))
    have JR : Inv X pins τ G { s2 with heap := hR } := J.landed inB flR.1 ((upS.trans upL).trans upR) osJ gnJ
    obtain ⟨oR, vR, eR, zR, dR⟩ := flR.there
    refine store_ok (X := X.suite a ((a, oR) :: (X.pn ++ pins))) (v := .ref a) (JR.suite eR dR free aL aF) nd ni (.inl nl) rfl (fun s5 S5 => ?_) (.inr nl)
    refine wpAny_mono ((suiteB a oR cls d (X.pn ++ pins) zR ⟨_, dR⟩).run [] s5 _ G _ S5 (wish a free)) (fun f s6 q => ?_) (fun _ _ z => z.elim)
    have goes : ∀ {ρ : L2.St} {F : Hp} {Q : Shared → Prop}, Inv (X.suite a ((a, oR) :: (X.pn ++ pins))) [] ρ F s6 → (∀ s7, Inv X pins (ρ.set i none) F s7 → Q s7) →
        wpAny (model X.prog X.w) X.A (do bindName X.env n .none; unbindBehindTheSuite X.env n pos') (fun _ s7 => Q s7) X.xe s6 := fun {ρ F Q} Sx hq => gone_ok (Sx.unsuite okX) nd ni nl hq
    cases f with
    | ret u =>
      obtain ⟨v, ρ, F, Sx, rv, q⟩ := q
      exact goes Sx fun s7 J7 => ⟨_, _, _, J7, rv, q⟩
    | next =>
      obtain ⟨ρ, F, Sx, q⟩ := q
      exact goes Sx fun s7 J7 => ⟨_, _, J7, q⟩
    | brk =>
      obtain ⟨ρ, F, Sx, q⟩ := q
      exact goes Sx fun s7 J7 => ⟨_, _, J7, q⟩
    | cont =>
      obtain ⟨ρ, F, Sx, q⟩ := q
      exact goes Sx fun s7 J7 => ⟨_, _, J7, q⟩
  · cases f with
    | ret u =>
      obtain ⟨v, τ, G, J, rv, q⟩ := q
      exact ⟨v, τ, G, J.ofTry okX, rv, q⟩
    | next =>
      obtain ⟨τ, G, J, q⟩ := q
      exact wpAny_execs_nil ⟨τ, G, J.ofTry okX, q⟩
    | brk =>
      obtain ⟨τ, G, J, q⟩ := q
      exact ⟨τ, G, J.ofTry okX, q⟩
    | cont =>
      obtain ⟨τ, G, J, q⟩ := q
      exact ⟨τ, G, J.ofTry okX, q⟩
end
end SxK

set_option Elab.async false
set_option linter.all false
set_option maxRecDepth 100000
set_option maxHeartbeats 4000000
namespace SxK
open PySem PySem.Spec PyProof.Rows L2 PySem.Calls
/-! ### an __init__ whose first statement is super().__init__(e), the base's one ValueError's -/
structure SupC (P : Program) (K : PySem.W.Frag) (mg : Str → Option Value) (C fI cc cda : Addr) (nm q : Str) (params : Arguments) (body : List Stmt) (scope : Scope) (fd : FuncData) : Prop where
  ex : OexC K C
  fn : ∃ oc od kV doc pm an ct osl, fd = PySem.W.ksFn nm q params body scope .none kV doc pm an (.ref cda) ct cc ∧ K.lookup fI = some ⟨oc, od, .func fd, osl⟩
  cod : PySem.W.codeIn K (.ref cda) q = true
  file : ∃ cl cd vs sl tf file, K.lookup cda = some ⟨cl, cd, .fields vs, sl⟩ ∧ vs[2]? = some (.str file tf) ∧ ((P.main.file : Str) == file) = true
  cell : ∃ cl cd sl, K.lookup cc = some ⟨cl, cd, .cell (some (.ref C)), sl⟩
  opq : PySem.W.nsIn K cStatics "thirdparty.any" = some none
  ini : PySem.W.ks_superIn K C C "__init__" = some (some (.builtin "ValueError.__init__"))
  sub : PySem.W.mroIn K C (.ref C) = some true
  isB : PySem.W.subIn K (.ref C) (.type "ValueError") = some true
  sup : mg "super" = none
  top : (P.main.scope.names.lookup ("super" : Str)).isSome = false
  iC : PySem.W.findIn K (.ref C) "__init__" = some (some (.ref fI))
  tI : PySem.W.typeIn K (.ref fI) = some (.type "function")
section
variable {X : Cx} {pins : List (Addr × Obj)} {σ : L2.St} {H : Hp} {s : Shared} {a C u : Addr} {us : List Value} {Q : Value → Shared → Prop} {E : Value → Shared → Prop}
/-- the bound ValueError.__init__ is called: nothing of it is told -/
theorem mw_call (T : OexC X.K C) (I : Inv X pins σ H s) (e : H a = some (exo a C none)) (hu : s.heap.get? u = some (PySem.W.kxs_mw "ValueError.__init__" a)) (hl : us.length ≤ sizeLine) (h : ∀ s', Inv X pins σ H s' → Q .none s') :
    wpAny (model X.prog X.w) X.A (call (.ref u) us) Q E s := by
  obtain ⟨nm, q, N, bs, bm, sn, sub, ab, col, dd, k0, k1, k2, k3, k5, hC, hbm⟩ := T.cls
  obtain ⟨t1, ho⟩ := exo_at I.hok e
  obtain ⟨hp, g, d, t, os⟩ := s
  have FB := F.excBase_ValueError
  have mt : (Value.type "method-wrapper" == Value.type "method" || Value.type "method-wrapper" == Value.type "builtin_function_or_method" || Value.type "method-wrapper" == Value.type "method-wrapper") = true := by decide
  refine wpAny_call (codeAny_of_tree ?_); show wpAny _ X.A.in1 (callAny (.ref u) ⟨us, []⟩) _ _ _
  simp only [callAny]; refine wpAny_bind (wpAny_load hu ?_)
  simp only [PySem.W.kxs_mw, mt, if_true]
  refine PySem.W.KFB.if_so (by decide) (wpAny_bind (PySem.W.check_bound_init FB.toExcCallFacts (I.kIn _ _ hC) ho rfl (wpAny_bind (wpAny_pure (wpAny_pure ?_)))))
  refine ⟨plainId_quiet FB.init.plain _, codeAny_builtin FB.initEntry (PySem.W.exc_init_tree (cls := .ref C) (t0 := t1) (dv := none) (c2 := .none) (c3 := .none) (b4 := .bool false) ho hl fun h' k hx _ => ?_)⟩
  have J := I.write (t' := t) (x := a) (e := a) (o := exo a C none) (by rw [e]; exact True.intro) (.inl rfl) k ⟨_, hx⟩ (exo_ok hx)
  have eu : upd H a (exo a C none) = H := funext fun b => by
    by_cases hb : b = a
    · rw [hb, upd_same, e]
    · exact upd_ne hb
  rw [eu] at J
  exact h _ J
end
end SxK

set_option Elab.async false
set_option linter.all false
set_option maxRecDepth 100000
set_option maxHeartbeats 4000000
namespace SxK
open PySem PySem.Spec PyProof.Rows L2 PySem.Calls
/-- the context of such an __init__ -/
def cxSup (CX : CXT) (P : Program) (w : World) (K : PySem.W.Frag) (mg : Str → Option Value) (base : Heap) (N : List Str) (q : Str) (scope : Scope) (f cda cc : Addr) (A : Around) (outer : List Env) (s : Shared) (H : Hp) (E : XK) : Cx :=
  { prog := P, w := w, K := K, mg := mg, base := base, A := A.deeper (PySem.W.ksEnv q scope s.heap.objs.size f (.ref cda) cc), N := N, s_0 := s, H_0 := H, env := PySem.W.ksEnv q scope s.heap.objs.size f (.ref cda) cc, outer := outer,
    stack := PySem.W.ksEnv q scope s.heap.objs.size f (.ref cda) cc :: outer, ex := [], calm := true, fn := fun x => !(x == ("__class__" : Str)), pn := [],
    xe := fun e s' => wpAny (model P w) (A.deeper (PySem.W.ksEnv q scope s.heap.objs.size f (.ref cda) cc)) (leaving (PySem.W.ksEnv q scope s.heap.objs.size f (.ref cda) cc) e) (fun _ s'' => CX outer H s E e s'') (fun e' s'' => CX outer H s E e' s'') s' }
structure ScSup (scope : Scope) (ps : List Str) : Prop where
  kind : scope.kind = .function
  co : scope.isCoroutine = false
  gen : scope.isGenerator = false
  nd : ps.Nodup
  par : ∀ x ∈ ps, scope.names.lookup x = some .local
  nocell : ∀ y ∈ scope.names, y.2 ≠ .cell
  fre : ∀ y ∈ scope.names, y.2 = .free → y.1 = ("__class__" : Str)
  ks : scope.names.lookup ("super" : Str) = some .globalImplicit
  kc : scope.names.lookup ("__class__" : Str) = some .free
section
variable {CX : CXT} {P : Program} {w : World} {K : PySem.W.Frag} {mg : Str → Option Value} {base : Heap} {N ps : List Str} {q nm : Str} {scope : Scope} {C fI cda cc a : Addr} {A : Around} {outer : List Env} {s0 s : Shared} {H0 H : Hp} {E : XK}
  {params : Arguments} {body body2 : List Stmt} {fd : FuncData} {σ : L2.St} {p0 p1 p2 p3 p4 : Pos} {arg : Expr} {t : TA} {G : Hp → Prop} {m : Str → Option Value} {ar : Arg} {pl : Sem Bool}
theorem sup_first (S : SupC P K mg C fI cc cda nm q params body scope fd) (Z : ScSup scope ps) (hp : (params.posonlyargs ++ params.args).head? = some ar) (hpa : ar.arg ∈ ps)
    (I : Inv (cxSup CX P w K mg base N q scope fI cda cc A outer s0 H0 E) [] σ H s) (hns : s.heap.Ns s0.heap.objs.size m) (hv : m ar.arg = some (.ref a)) (e : H a = some (exo a C none))
    (ha : PA (cxSup CX P w K mg base N q scope fI cda cc A outer s0 H0 E) [arg] t)
    (hq : t σ H fun vs H1 => vs.length ≤ 1000 ∧ H1 a = some (exo a C none) ∧ G H1)
    (hs : starEach [arg] (PySem.W.ksEnv q scope s0.heap.objs.size fI (.ref cda) cc) = (false, eval arg (PySem.W.ksEnv q scope s0.heap.objs.size fI (.ref cda) cc)) :: starEach [] (PySem.W.ksEnv q scope s0.heap.objs.size fI (.ref cda) cc) := by rfl)
    (hi : interactive (PySem.W.ksEnv q scope s0.heap.objs.size fI (.ref cda) cc) = false := by rfl)
    (hsw : swapsWith (.Call (.Attribute (.Call (.Name "super" p0) [] [] p1) "__init__" p2) [arg] [] p3) none p4.line (PySem.W.ksEnv q scope s0.heap.objs.size fI (.ref cda) cc) = pure false := by rfl)
    (hev : eval (.Call (.Attribute (.Call (.Name "super" p0) [] [] p1) "__init__" p2) [arg] [] p3) (PySem.W.ksEnv q scope s0.heap.objs.size fI (.ref cda) cc) = (do
      let ov ← attributeBase (.Call (.Name "super" p0) [] [] p1) "__init__" (PySem.W.ksEnv q scope s0.heap.objs.size fI (.ref cda) cc) (eval (.Call (.Name "super" p0) [] [] p1) (PySem.W.ksEnv q scope s0.heap.objs.size fI (.ref cda) cc))
      standAt p2.atName
      let (f, first) ← holding [ov] (getMethod ov "__init__" pl)
      callWith p3 f first (backTo p3 (starEach [arg] (PySem.W.ksEnv q scope s0.heap.objs.size fI (.ref cda) cc))) []) := by rfl) :
    PySem.wpAt (model P w) (A.deeper (PySem.W.ksEnv q scope s0.heap.objs.size fI (.ref cda) cc)) (.func body2 (PySem.W.ksEnv q scope s0.heap.objs.size fI (.ref cda) cc))
      (exec (.Expr (.Call (.Attribute (.Call (.Name "super" p0) [] [] p1) "__init__" p2) [arg] [] p3) p4) (PySem.W.ksEnv q scope s0.heap.objs.size fI (.ref cda) cc))
      (fun f s' => f = .next ∧ ∃ H1, Inv (cxSup CX P w K mg base N q scope fI cda cc A outer s0 H0 E) [] σ H1 s' ∧ H1 a = some (exo a C none) ∧ G H1) (cxSup CX P w K mg base N q scope fI cda cc A outer s0 H0 E).xe s := by
  obtain ⟨oc, od, kV, doc, pm, an, ct, osl, efd, hf⟩ := S.fn
  subst efd
  obtain ⟨cl, cd, vs, sl, tf, file, hcode, hvs, hfile⟩ := S.file
  obtain ⟨cl2, cd2, sl2, hcell⟩ := S.cell
  obtain ⟨cn, cq, cN, bs, bm, sn, sub, ab, col, dd, k0, k1, k2, k3, k5, hC, hbm⟩ := S.ex.cls
  obtain ⟨t1, hx⟩ := exo_at I.hok e
  obtain ⟨mb, hb1, hb2⟩ := I.mod.blt
  have KI : K.In s.heap := I.kIn
  have hcd : PySem.W.clsIn K C = some { name := cn, bases := bs, mro := .ref C :: bm, ns := cN, qualname := cq, hasDict := true, slotNames := sn, subclasses := sub, abstract := ab, collection := col, hasDel := false } := by
    unfold PySem.W.clsIn
    rw [hC]
  have hax : a ≠ C := fun z => by
    have h1 := KI _ _ hC
    rw [← z, hx] at h1
    cases h1
  have hm : PySem.W.alongIn K "__init__" (((Value.ref C :: bm).dropWhile (· != .ref C)).drop 1) = some (some (.builtin "ValueError.__init__")) := by
    have h1 := S.ini
    unfold PySem.W.ks_superIn at h1
    rw [hcd] at h1
    exact h1
  refine ks_wpAt_Expr_any (ks_wpAt_MethodCall (ks_wpAt_super_base (env := PySem.W.ksEnv q scope s0.heap.objs.size fI (.ref cda) cc) Z.ks Z.kc (by decide) rfl (KI _ _ hf) rfl hp rfl (KI _ _ hcode) rfl hvs hfile S.top ?_) hev) hi hsw
  refine PySem.W.ks_loadName_global Z.kind Z.ks (loadGlobal_builtin (env := PySem.W.ksEnv q scope s0.heap.objs.size fI (.ref cda) cc) (I.mod.glob.keeps I.bk) S.sup (hb1.keeps I.bk) ((hb2 _ (by decide)).trans (by decide +kernel)) ⟨rfl, ?_⟩)
  refine wpAny_loadName_free Z.kind Z.kc (by rfl) ⟨_, KI _ _ hcell, rfl⟩ (wpAny_loadName_local Z.kind (Z.par _ hpa) hns hv ?_)
  obtain ⟨hh, g, d, tk, os⟩ := s
  refine ks_wpAny_isType_cls (KI _ _ hC) rfl ⟨rfl, ?_⟩
  refine ks_wpAny_call_super (KI _ _ hC) rfl hx rfl (fun c z => by cases z) (PySem.W.looks_mroIn KI S.sub) fun h1 e1 kp1 => ?_
  have K1 : K.In h1 := KI.keeps kp1
  have lx : PySem.W.Looks (model P w) h1 (isInstance (.ref a) (.type "ValueError")) true :=
    PySem.W.Looks.andThen (a := Value.ref C) (fun A Q E s k q => wpAny_typeOf_ref (k _ _ (kp1 _ _ hx)) q) (PySem.W.looks_subIn K1 S.isB)
  refine PySem.W.kxs_getMethod PySem.W.kxs_ValueError e1 (PySem.W.looks_opaque K1 S.opq) (l₀ := .ref C :: bm) ((PySem.W.looks_clsIn K1 hcd).andThen .now) rfl K1 hm lx hax (by decide) ?_
  have kp2 : ∀ b o, hh.get? b = some o → (h1.push (PySem.W.kxs_mw "ValueError.__init__" a)).get? b = some o := fun b o z => Heap.get?_push_of_some _ (kp1 _ _ z)
  have hu : (h1.push (PySem.W.kxs_mw "ValueError.__init__" a)).get? h1.objs.size = some (PySem.W.kxs_mw "ValueError.__init__" a) := Heap.get?_push_size _ rfl
  have I2 : Inv (cxSup CX P w K mg base N q scope fI cda cc A outer s0 H0 E) [] σ H ⟨h1.push (PySem.W.kxs_mw "ValueError.__init__" a), g, d, tk + 1, os⟩ := I.kept (t' := tk + 1) kp2
  have hle : hh.objs.size ≤ h1.objs.size := Nat.le_of_lt (Heap.lt_size e1)
  have I3 : Inv (cxSup CX P w K mg base N q scope fI cda cc A outer s0 H0 E) [(h1.objs.size, PySem.W.kxs_mw "ValueError.__init__" a)] σ H ⟨h1.push (PySem.W.kxs_mw "ValueError.__init__" a), g, d, tk + 1, os⟩ := I2.pins_of fun p hpp => by
    rw [List.mem_singleton.mp hpp]
    exact ⟨hu, I.hok.fresh hle, Nat.ne_of_gt (Nat.lt_of_lt_of_le I.lt hle), I.nofs hle, fun v z => by cases z⟩
  have run := ha.run p3 _ _ σ H _ I3 hq
  show wpAny _ _ (callWith p3 (.ref h1.objs.size) [] (backTo p3 (starEach [arg] (PySem.W.ksEnv q scope s0.heap.objs.size fI (.ref cda) cc))) []) _ _ _
  have run2 : wpAny (model P w) (A.deeper (PySem.W.ksEnv q scope s0.heap.objs.size fI (.ref cda) cc)) (spliced (backTo p3 (starEach [arg] (PySem.W.ksEnv q scope s0.heap.objs.size fI (.ref cda) cc)))) _ _ _ := run
  rw [hs] at run2 ⊢
  refine PySem.W.kxs_callWith (i := "ValueError.__init__") (x := a) rfl (evalArgs_plain (thn run2 fun us s4 h4 => ?_))
  obtain ⟨vs4, H4, I4, r4, l4, e4, q4⟩ := h4
  have hu4 := (I4.pin _ (List.mem_append_right _ List.mem_cons_self)).1
  refine ⟨hu4, mw_call (X := cxSup CX P w K mg base N q scope fI cda cc A outer s0 H0 E) S.ex I4 e4 hu4 (by rw [List.nil_append, ← r4.length, sizeLine_eq]; omega) fun s5 J5 => ?_⟩
  exact ⟨rfl, H4, J5.pins_of (pins' := []) (fun p hpp => absurd hpp (List.not_mem_nil)), e4, q4⟩
end
end SxK

set_option Elab.async false
set_option linter.all false
set_option maxRecDepth 100000
set_option maxHeartbeats 4000000
namespace SxK
open PySem PySem.Spec PyProof.Rows L2 PySem.Calls
theorem look_rev : ∀ (ps : List Str) (us : List Value) (i : Nat) (x : Str) (u : Value), ps.Nodup → ps[i]? = some x → us[i]? = some u → (ps.zip us).reverse.lookup x = some u
  | [], _, _, _, _, _, h, _ => by simp at h
  | _ :: _, [], _, _, _, _, _, h => by simp at h
  | p :: ps, v :: us, i, x, u, nd, h1, h2 => by
    obtain ⟨n1, n2⟩ := List.nodup_cons.mp nd
    rw [List.zip_cons_cons, List.reverse_cons, List.lookup_append]
    cases i with
    | zero =>
      have e1 : p = x := by simpa using h1
      have e2 : v = u := by simpa using h2
      subst e1 e2
      have e3 : (ps.zip us).reverse.lookup p = none := by
        rw [List.lookup_eq_none_iff]
        intro q hq
        have h3 := (List.of_mem_zip (List.mem_reverse.mp hq : (q.1, q.2) ∈ ps.zip us)).1
        have h4 : p ≠ q.1 := fun z => n1 (by rw [z]; exact h3)
        simpa using h4
      rw [e3]
      simp [List.lookup]
    | succ i => rw [look_rev ps us i x u n2 (by simpa using h1) (by simpa using h2)]; rfl
section
variable {CX : CXT} {P : Program} {w : World} {K : PySem.W.Frag} {mg : Str → Option Value} {base : Heap} {ps : List Str} {q nm : Str} {scope : Scope} {C fI cda cc : Addr}
  {params : Arguments} {rest : List Stmt} {fd : FuncData} {p0 p1 p2 p3 p4 : Pos} {arg : Expr} {ar : Arg} {pl : Sem Bool} {sp : Sp} {k : Nat}
theorem sup_start {body : List Stmt} {A : Around} {outer : List Env} {s : Shared} {H : Hp} {E : XK} {us : List Value} {vs : List V} {h0 : Heap} {tk : Nat} (S : SupC P K mg C fI cc cda nm q params body scope fd) (Z : ScSup scope ps)
    (hd : A.handled = none) (e0 : Env0 P w K mg base A outer s H) (hl : vs.length = ps.length) (r : Vals vs us) (hns : h0.Ns s.heap.objs.size (fun x => (ps.zip us).reverse.lookup x)) (hk : ∀ b o, s.heap.get? b = some o → h0.get? b = some o) :
    Inv (cxSup CX P w K mg base ps q scope fI cda cc A outer s H E) [] (start ps vs) H { s with heap := h0, toks := tk } := by
  obtain ⟨cl2, cd2, sl2, hcell⟩ := S.cell
  have hc0 := e0.bs _ _ (e0.mod.kin _ _ hcell)
  have none_in : ∀ b : Addr, b ∉ (cxSup CX P w K mg base ps q scope fI cda cc A outer s H E).ex := fun b z => absurd (show b ∈ ([] : List Addr) from z) List.not_mem_nil
  have cells : ∀ y c, (cxSup CX P w K mg base ps q scope fI cda cc A outer s H E).env.cells.lookup y = some c → y = ("__class__" : Str) ∧ c = cc := fun y c z => by
    have z1 : List.lookup y [(("__class__" : Str), cc)] = some c := z
    by_cases hy : y = ("__class__" : Str)
    · subst hy
      have z2 : List.lookup ("__class__" : Str) [(("__class__" : Str), cc)] = some cc := by simp [List.lookup]
      rw [z2] at z1
      exact ⟨rfl, (Option.some.inj z1).symm⟩
    · have q1 : (y == ("__class__" : Str)) = false := by simpa using hy
      simp [List.lookup, q1] at z1
  have upto : ∀ i v, (start ps vs)[i]? = some (some v) → vs[i]? = some v := fun i v z => by
    unfold L2.start at z
    rw [hl, Nat.sub_self, List.replicate_zero, List.append_nil, List.getElem?_map] at z
    cases n : vs[i]? with
    | none => rw [n] at z; cases z
    | some a => rw [n] at z; cases z; rfl
  refine ⟨⟨e0.mod, Z.kind, rfl, rfl, Nat.le_refl _, fun y z c h1 h2 => by rw [(cells _ _ h1).1, (cells _ _ h2).1], fun y hy => ?_, fun y c h1 h2 => ?_, fun _ => hd, Around.frames_deeper e0.frames, .inr ⟨rfl, rfl⟩, fun b z => absurd z (none_in b), e0.bs, e0.bsz, fun b _ _ => none_in b,
      fun b z => absurd z (none_in b), e0.funs, e0.frf⟩, rfl, e0.bare, Un.kept hk, ⟨_, hns, fun i y v h1 h2 h3 => ?_⟩, fun y c h => ?_, e0.hok.fresh (Nat.le_refl _), fun y c h => ?_, fun p hp => absurd (show p ∈ ([] : List (Addr × Obj)) from hp) List.not_mem_nil, e0.hok.kept hk, ?_⟩
  · have hy' : scope.names.lookup y = some .cell ∨ scope.names.lookup y = some .free := hy
    rcases hy' with z | z
    · exact absurd rfl (Z.nocell _ (PySem.mem_of_lookup z))
    · have e1 := Z.fre _ (PySem.mem_of_lookup z) rfl
      have e2 : y = ("__class__" : Str) := e1
      subst e2
      exact ⟨cc, by show List.lookup ("__class__" : Str) [(("__class__" : Str), cc)] = some cc; simp [List.lookup]⟩
  · have h1' : (!(y == ("__class__" : Str))) = true := h1
    rw [(cells _ _ h2).1] at h1'
    simp at h1'
  · obtain ⟨u, hu, rv⟩ := r.get (upto i v h2)
    exact ⟨u, rv, .inl ⟨Z.par y (List.mem_of_getElem? h1), look_rev ps us i y u Z.nd h1 hu⟩⟩
  · rw [(cells _ _ h).2]
    exact ⟨_, _, hk _ _ hc0.1, rfl⟩
  · rw [(cells _ _ h).2]
    exact hc0.2
  · unfold L2.start
    show _ = ps.length
    rw [List.length_append, List.length_map, List.length_replicate]
    omega
theorem fn_sup (S : SupC P K mg C fI cc cda nm q params (.Expr (.Call (.Attribute (.Call (.Name "super" p0) [] [] p1) "__init__" p2) [arg] [] p3) p4 :: rest) scope fd) (Z : ScSup scope ps)
    (hp : (params.posonlyargs ++ params.args).head? = some ar) (hps : ps[0]? = some ar.arg) (len : ∀ vs H Q E, sp vs H Q E → vs.length = ps.length)
    (body : ∀ (A : Around) (outer : List Env) (s : Shared) (H : Hp) (vs : List V) (Q : VK) (E : XK), Room k (A.deeper (PySem.W.ksEnv q scope s.heap.objs.size fI (.ref cda) cc)) → sp vs H Q E →
      ∃ (t : TA) (t2 : TS) (a : Addr) (vr : List V), PA (cxSup CX P w K mg base ps q scope fI cda cc A outer s H E) [arg] t ∧ PSs (cxSup CX P w K mg base ps q scope fI cda cc A outer s H E) rest t2 ∧ vs = .ref a :: vr ∧ H a = some (exo a C none) ∧
        t (start ps vs) H fun us H1 => us.length ≤ 1000 ∧ H1 a = some (exo a C none) ∧ t2 { nx := fun _ H' => Q .non H', rt := Q } (start ps vs) H1)
    (hs : ∀ L, starEach [arg] (PySem.W.ksEnv q scope L fI (.ref cda) cc) = (false, eval arg (PySem.W.ksEnv q scope L fI (.ref cda) cc)) :: starEach [] (PySem.W.ksEnv q scope L fI (.ref cda) cc))
    (hi : ∀ L, interactive (PySem.W.ksEnv q scope L fI (.ref cda) cc) = false)
    (hsw : ∀ L, swapsWith (.Call (.Attribute (.Call (.Name "super" p0) [] [] p1) "__init__" p2) [arg] [] p3) none p4.line (PySem.W.ksEnv q scope L fI (.ref cda) cc) = pure false)
    (hev : ∀ L, eval (.Call (.Attribute (.Call (.Name "super" p0) [] [] p1) "__init__" p2) [arg] [] p3) (PySem.W.ksEnv q scope L fI (.ref cda) cc) = (do
      let ov ← attributeBase (.Call (.Name "super" p0) [] [] p1) "__init__" (PySem.W.ksEnv q scope L fI (.ref cda) cc) (eval (.Call (.Name "super" p0) [] [] p1) (PySem.W.ksEnv q scope L fI (.ref cda) cc))
      standAt p2.atName
      let (f, first) ← holding [ov] (getMethod ov "__init__" pl)
      callWith p3 f first (backTo p3 (starEach [arg] (PySem.W.ksEnv q scope L fI (.ref cda) cc))) [])) : FnOk P w K mg base CX (k + 1) fI fd ps sp := by
  refine ⟨len, fun A outer s H args us vs Q E hr e0 hb r hsp => ?_⟩
  have hl := len _ _ _ _ hsp
  obtain ⟨t, t2, a, vr, ha, hr2, evs, he, hq⟩ := body A outer s H vs Q E (hr.deeper _) hsp
  have KX : K.In s.heap := e0.mod.kin.keeps fun b o e => (e0.bs b o e).1
  have lim : s.heap.NoLimit := e0.mod.nolimit.keeps fun b o e => (e0.bs b o e).1
  obtain ⟨u0, hu0, ru0⟩ := r.get (i := 0) (x := V.ref a) (by rw [evs]; rfl)
  obtain rfl : u0 = Value.ref a := ru0
  obtain ⟨oc, od, kV, doc, pm, an, ct, osl, efd, hf⟩ := id S.fn
  refine ks_codeAny_call_defAt (fd := fd) (body := .Expr (.Call (.Attribute (.Call (.Name "super" p0) [] [] p1) "__init__" p2) [arg] [] p3) p4 :: rest) (binds := ps.zip us) hr.depth (KX _ _ hf) rfl lim
    (by rw [efd]; exact PySem.W.codeRec_of KX S.cod) (by rw [efd]) hb (by rw [efd]; exact Z.nocell) (by rw [efd]; exact fun y hy => Z.par _ (List.of_mem_zip (show (y.1, y.2) ∈ ps.zip us from hy)).1) (fun h0 hns hk => ?_) (by rw [efd]; exact Z.co) (by rw [efd]; exact Z.gen) (by rw [efd]; exact Z.kind)
  have I : Inv (cxSup CX P w K mg base ps q scope fI cda cc A outer s H E) [] (start ps vs) H { s with heap := h0, toks := s.toks + (ps.zip us).length } := sup_start S Z hr.hd e0 hl r hns hk
  have ee : callEnv fd s.heap.objs.size fI = PySem.W.ksEnv q scope s.heap.objs.size fI (.ref cda) cc := by rw [efd]; rfl
  rw [ee]
  refine ks_wpAt_execs_cons (ks_wpAt_mono (sup_first S Z hp (List.mem_of_getElem? hps) I hns (look_rev ps us 0 _ _ Z.nd hps hu0) he ha hq (hs _) (hi _) (hsw _) (hev _)) (fun f s1 h1 => ?_) fun e s1 h1 => h1)
  obtain ⟨rfl, H1, I1, e1, q1⟩ := h1
  refine wpAt_of_wpAny (wpAny_mono (hr2.run [] s1 (start ps vs) H1 _ I1 q1) (fun fl s2 h2 => ?_) fun e s2 h2 => h2)
  cases fl with
  | ret u =>
    obtain ⟨v, σ', H', J, rv, z⟩ := h2
    exact ⟨v, H', J.os, J.bare, J.base, J.hok, rv, z⟩
  | next =>
    obtain ⟨σ', H', J, z⟩ := h2
    exact ⟨V.non, H', J.os, J.bare, J.base, J.hok, rfl, z⟩
  | brk => obtain ⟨_, _, _, z⟩ := h2; exact z.elim
  | cont => obtain ⟨_, _, _, z⟩ := h2; exact z.elim
end
end SxK

set_option Elab.async false
set_option linter.all false
set_option maxRecDepth 100000
set_option maxHeartbeats 2000000
namespace SxK
open PySem PySem.Spec PyProof.Rows L2
/-! ### facts of own exceptions, read at the head -/
def oexB (K : PySem.W.Frag) (C : Addr) : Bool := match K.lookup C with
  | some ⟨.type "type", _, .cls cd, sl⟩ => (match cd.mro, sl.toList with
    | .ref C' :: bm, [_, _, _, _, some (.builtin n), _] => decide (C' = C) && (decide (n = "ValueError.__new__") && (!cd.hasDel && (cd.hasDict && PySem.HandSPX.refsVE bm)))
    | _, _ => false)
  | _ => false
theorem oexB_ok {K : PySem.W.Frag} {C : Addr} (h : oexB K C = true) :
    ∃ nm q N bs bm sn sub ab col dd k0 k1 k2 k3 k5, K.lookup C = some (excClassObj nm q C N bs bm true sn sub ab col dd k0 k1 k2 k3 k5 "ValueError.__new__") ∧ PySem.HandSPX.refsVE bm = true := by
  unfold oexB at h
  split at h
  · rename_i dd cd sl ho
    split at h
    · rename_i C' bm k0 k1 k2 k3 n k5 hm hs
      obtain ⟨nm, bs, mro, ns, qn, hd, sn, sb, ab, col, del⟩ := cd
      obtain ⟨l⟩ := sl
      have hs' : l = [k0, k1, k2, k3, some (.builtin n), k5] := hs
      have hm' : mro = .ref C' :: bm := hm
      subst hs' hm'
      obtain ⟨h1, h⟩ := Bool.and_eq_true_iff.mp h
      obtain ⟨h2, h⟩ := Bool.and_eq_true_iff.mp h
      obtain ⟨h3, h⟩ := Bool.and_eq_true_iff.mp h
      obtain ⟨h4, h5⟩ := Bool.and_eq_true_iff.mp h
      have h1' := of_decide_eq_true h1
      have h2' := of_decide_eq_true h2
      have h3' : del = false := by simpa using h3
      have h4' : hd = true := h4
      subst h1' h2' h3' h4'
      exact ⟨_, _, _, _, _, _, _, _, _, _, _, _, _, _, _, ho, h5⟩
    · cases h
  · cases h
abbrev FnS : Type := Option (Str × Str × Arguments × FuncBody × Scope × Addr × Addr)
/-- one such class: its name, its __init__ -/
structure SupD where
  cls : Str
  qual : Str
  params : Arguments
  body : List Stmt
  scope : Scope
  file : Str
  ats : List Str
def SupD.I (K : PySem.W.Frag) (d : SupD) : Addr := He.ma K (He.ga K d.cls) "__init__"
def SupD.obs (K : PySem.W.Frag) (d : SupD) : FnS := match K.lookup (d.I K) with
  | some ⟨_, _, .func fd, _⟩ => some (fd.name, fd.qualname, fd.params, fd.body, fd.scope, fd.globals, fd.builtins)
  | _ => none
def SupD.val (d : SupD) : FnS := some ("__init__", d.qual, d.params, .stmts d.body, d.scope, mainGlobals, builtinsNs)
def SupD.fnB (K : PySem.W.Frag) (d : SupD) : Bool := match K.lookup (d.I K) with
  | some ⟨_, _, .func fd, _⟩ => (match fd.defaults, fd.code, fd.closure with
    | .none, .ref cda, [(n, cc)] => decide (n = "__class__") && (PySem.W.codeIn K (.ref cda) d.qual && ((match K.lookup cda with
        | some ⟨_, _, .fields vs, _⟩ => (match vs[2]? with
          | some (Value.str f _) => decide (f = d.file)
          | _ => false)
        | _ => false) && (match K.lookup cc with
        | some ⟨_, _, .cell (some (.ref D)), _⟩ => decide (D = He.ga K d.cls)
        | _ => false)))
    | _, _, _ => false)
  | _ => false
def SupD.ok (K : PySem.W.Frag) (d : SupD) : Bool :=
  oexB K (He.ga K d.cls) && (xfB K (He.ga K d.cls) && (d.fnB K && (He.eqO (PySem.W.findIn K (.ref (He.ga K d.cls)) "__setattr__") (some (some (.builtin "object.__setattr__"))) && (
  decide (PySem.W.subIn K (.ref (He.ga K d.cls)) (.type "BaseException") = some true) && (decide (PySem.W.typeIn K (.ref (He.ga K d.cls)) = some (.type "type")) && (PySem.W.keepIn K (.ref (He.ga K d.cls)) && (
  He.eqO (PySem.W.nsIn K cStatics "thirdparty.any") (some none) && (He.eqO (PySem.W.ks_superIn K (He.ga K d.cls) (He.ga K d.cls) "__init__") (some (some (.builtin "ValueError.__init__"))) && (
  decide (PySem.W.mroIn K (He.ga K d.cls) (.ref (He.ga K d.cls)) = some true) && (decide (PySem.W.subIn K (.ref (He.ga K d.cls)) (.type "ValueError") = some true) && (He.eqO (PySem.W.nsIn K mainGlobals "super") (some none) && (
  He.eqO (PySem.W.findIn K (.ref (He.ga K d.cls)) "__init__") (some (some (.ref (d.I K)))) && (decide (PySem.W.typeIn K (.ref (d.I K)) = some (.type "function")) && (He.eqO (PySem.W.nsIn K mainGlobals d.cls) (some (some (.ref (He.ga K d.cls)))) && (
  decide (PySem.W.exmOne K (.ref (He.ga K d.cls)) (.ref (He.ga K d.cls)) = some true) &&
  d.ats.all fun f => He.eqO (PySem.W.findIn K (.ref (He.ga K d.cls)) f) (some none))))))))))))))))
/-- what is known of such a class -/
structure ErrC (P : Program) (K : PySem.W.Frag) (mg : Str → Option Value) (d : SupD) : Prop where
  sup : ∃ cc cda fd, SupC P K mg (He.ga K d.cls) (d.I K) cc cda "__init__" d.qual d.params d.body d.scope fd
  xf : XfC K (He.ga K d.cls)
  glob : mg d.cls = some (.ref (He.ga K d.cls))
  exm : PySem.W.exmOne K (.ref (He.ga K d.cls)) (.ref (He.ga K d.cls)) = some true
  ats : ∀ f ∈ d.ats, PySem.W.findIn K (.ref (He.ga K d.cls)) f = some none
theorem SupD.err {P : Program} {K : PySem.W.Frag} {mg : Str → Option Value} {d : SupD} {h : Heap} (X : K.In h) (G : h.Ns mainGlobals mg) (e : d.obs K = d.val) (c : d.ok K = true) (hfile : P.main.file = d.file)
    (htop : (P.main.scope.names.lookup ("super" : Str)).isSome = false) : ErrC P K mg d := by
  unfold SupD.ok at c
  obtain ⟨c1, c⟩ := He.ba c
  obtain ⟨c2, c⟩ := He.ba c
  obtain ⟨c3, c⟩ := He.ba c
  obtain ⟨c4, c⟩ := He.ba c
  obtain ⟨c5, c⟩ := He.ba c
  obtain ⟨c6, c⟩ := He.ba c
  obtain ⟨c7, c⟩ := He.ba c
  obtain ⟨c8, c⟩ := He.ba c
  obtain ⟨c9, c⟩ := He.ba c
  obtain ⟨c10, c⟩ := He.ba c
  obtain ⟨c11, c⟩ := He.ba c
  obtain ⟨c12, c⟩ := He.ba c
  obtain ⟨c13, c⟩ := He.ba c
  obtain ⟨c14, c⟩ := He.ba c
  obtain ⟨c15, c⟩ := He.ba c
  obtain ⟨c16, c17⟩ := He.ba c
  refine ⟨?_, xfB_ok c2, PySem.W.mg_of X G (He.eqO_ok c15), of_decide_eq_true c16, fun f hf => He.eqO_ok (List.all_eq_true.mp c17 f hf)⟩
  have ex : OexC K (He.ga K d.cls) := ⟨oexB_ok c1, He.eqO_ok c4, of_decide_eq_true c5, of_decide_eq_true c6, c7⟩
  unfold SupD.fnB at c3
  unfold SupD.obs at e
  split at c3
  · rename_i o1 o2 fd o3 ho
    rw [ho] at e
    split at c3
    · rename_i cda n cc e1 e2 e3
      obtain ⟨d1, c3⟩ := He.ba c3
      obtain ⟨d2, c3⟩ := He.ba c3
      obtain ⟨d3, d4⟩ := He.ba c3
      obtain ⟨n1, n2, n3, n4, n5, n6, n7, n8, n9, n10, n11, n12, n13, n14, n15⟩ := fd
      have e4 : (some (n1, n2, n3, n4, n5, n6, n15) : FnS) = (some ("__init__", d.qual, d.params, .stmts d.body, d.scope, mainGlobals, builtinsNs) : FnS) := e
      simp only [Option.some.injEq, Prod.mk.injEq] at e4
      obtain ⟨h1, h2, h3, h4, h5, h6, h7⟩ := e4
      have e1' : n8 = .none := e1
      have e2' : n13 = .ref cda := e2
      have e3' : n7 = [(n, cc)] := e3
      have d1' := of_decide_eq_true d1
      subst h1 h2 h3 h4 h5 h6 h7 e1' e2' e3' d1'
      refine ⟨cc, cda, _, ex, ⟨_, _, _, _, _, _, _, _, rfl, ho⟩, d2, ?_, ?_, He.eqO_ok c8, He.eqO_ok c9, of_decide_eq_true c10, of_decide_eq_true c11, PySem.W.mg_none_of X G (He.eqO_ok c12), htop, He.eqO_ok c13, of_decide_eq_true c14⟩
      · split at d3
        · rename_i a1 a2 vs a3 ha
          split at d3
          · rename_i f t hv
            exact ⟨_, _, _, _, t, f, ha, hv, by rw [hfile, of_decide_eq_true d3]; simp⟩
          · cases d3
        · cases d3
      · split at d4
        · rename_i a1 a2 D a3 ha
          have eD := of_decide_eq_true d4
          subst eD
          exact ⟨_, _, _, ha⟩
        · cases d4
    · cases c3
  · cases c3
/-! ### the Hook with such classes -/
abbrev AlX : Type := He.AlD × (Bool × List FnS)
def obsX (fa : List He.Fa) (fn : List He.DefD) (xs : List SupD) (K : PySem.W.Frag) : AlX := (He.obsD fa fn K, xs.all fun d => d.ok K, xs.map fun d => d.obs K)
def valX (fn : List He.DefD) (xs : List SupD) : AlX := (He.valD fn, true, xs.map SupD.val)
def SaysX (fa : List He.Fa) (fn : List He.DefD) (xs : List SupD) (K : PySem.W.Frag) : Prop := obsX fa fn xs K = valX fn xs
def obsXG (n : Nat) (fa : List He.Fa) (fn : List He.DefD) (xs : List SupD) (g : Addr → Option Obj) : AlX := obsX fa fn xs (He.frG g (He.asD g n ++ [cStatics]))
def hookX (n : Nat) (fa : List He.Fa) (fn : List He.DefD) (xs : List SupD) : PySem.W.Hook where
  α := AlX
  obs := fun s => obsXG n fa fn xs s.heap.get?
  val := fun _ => valX fn xs
  says := fun _ h => ∃ K : PySem.W.Frag, K.In h ∧ SaysX fa fn xs K
  of := fun _ _ e => ⟨_, He.frG_in, e⟩
  keeps := fun _ _ _ ⟨K, hK, c⟩ k => ⟨K, PySem.W.Frag.In.keeps hK k, c⟩
theorem obsXG_eq {n : Nat} {fa : List He.Fa} {fn : List He.DefD} {xs : List SupD} {g : Addr → Option Obj} {s : Shared} (h : ∀ a, g a = s.heap.get? a) : obsXG n fa fn xs g = (hookX n fa fn xs).obs s := by
  have e : g = s.heap.get? := funext h
  rw [e] <;> rfl
section
variable {fa : List He.Fa} {fn : List He.DefD} {xs : List SupD} {K : PySem.W.Frag}
theorem SaysX.d (c : SaysX fa fn xs K) : He.SaysD fa fn K := congrArg (fun z : AlX => z.1) c
theorem SaysX.sup (c : SaysX fa fn xs K) (i : Nat) {d : SupD} (h : xs[i]? = some d := by rfl) : d.obs K = d.val ∧ d.ok K = true := by
  have c1 : (xs.all fun d => d.ok K) = true := congrArg (fun z : AlX => z.2.1) c
  have c2 : xs.map (fun d => d.obs K) = xs.map SupD.val := congrArg (fun z : AlX => z.2.2) c
  have e2 : (xs.map fun d => d.obs K)[i]? = (xs.map SupD.val)[i]? := by rw [c2]
  rw [List.getElem?_map, List.getElem?_map, h] at e2
  exact ⟨Option.some.inj e2, List.all_eq_true.mp c1 d (List.mem_of_getElem? h)⟩
end
end SxK

set_option Elab.async false
set_option linter.all false
set_option maxRecDepth 100000
set_option maxHeartbeats 2000000
namespace SxK
open PySem PySem.Spec PyProof.Rows L2
/-! ### the Hook with dicts of the top, too -/
abbrev TabK : Type := Str × List (Str × He.Dv)
abbrev AlXT : Type := AlX × (Bool × List (Option (List (Option (Str × Int)))))
def obsXT (fa : List He.Fa) (fn : List He.DefD) (xs : List SupD) (ts : List TabK) (K : PySem.W.Frag) : AlXT := (obsX fa fn xs K, ts.all (fun t => He.valsB K (He.ga K t.1) t.2), ts.map fun t => He.dicW K (He.ga K t.1))
def valXT (fn : List He.DefD) (xs : List SupD) (ts : List TabK) (w : World) : AlXT := (valX fn xs, true, ts.map fun t => some (He.keysIn w.params (t.2.map (·.1))))
def SaysXT (fa : List He.Fa) (fn : List He.DefD) (xs : List SupD) (ts : List TabK) (w : World) (K : PySem.W.Frag) : Prop := obsXT fa fn xs ts K = valXT fn xs ts w
def obsXTG (n : Nat) (fa : List He.Fa) (fn : List He.DefD) (xs : List SupD) (ts : List TabK) (g : Addr → Option Obj) : AlXT := obsXT fa fn xs ts (He.frG g (He.asD g n ++ [cStatics]))
def hookXT (n : Nat) (fa : List He.Fa) (fn : List He.DefD) (xs : List SupD) (ts : List TabK) : PySem.W.Hook where
  α := AlXT
  obs := fun s => obsXTG n fa fn xs ts s.heap.get?
  val := fun w => valXT fn xs ts w
  says := fun w h => ∃ K : PySem.W.Frag, K.In h ∧ SaysXT fa fn xs ts w K
  of := fun _ _ e => ⟨_, He.frG_in, e⟩
  keeps := fun _ _ _ ⟨K, hK, c⟩ k => ⟨K, PySem.W.Frag.In.keeps hK k, c⟩
theorem obsXTG_eq {n : Nat} {fa : List He.Fa} {fn : List He.DefD} {xs : List SupD} {ts : List TabK} {g : Addr → Option Obj} {s : Shared} (h : ∀ a, g a = s.heap.get? a) : obsXTG n fa fn xs ts g = (hookXT n fa fn xs ts).obs s := by
  have e : g = s.heap.get? := funext h
  rw [e] <;> rfl
section
variable {fa : List He.Fa} {fn : List He.DefD} {xs : List SupD} {ts : List TabK} {w : World} {K : PySem.W.Frag}
theorem SaysXT.x (c : SaysXT fa fn xs ts w K) : SaysX fa fn xs K := congrArg (fun z : AlXT => z.1) c
theorem SaysXT.tab (c : SaysXT fa fn xs ts w K) (i : Nat) {t : TabK} (h : ts[i]? = some t) {x : Str} {d : He.Dv} (hx : (x, d) ∈ t.2) : KDct K w (He.ga K t.1) x (d.v K) := by
  have e : ts.map (fun t => He.dicW K (He.ga K t.1)) = ts.map fun t => some (He.keysIn w.params (t.2.map (·.1))) := congrArg (fun z : AlXT => z.2.2) c
  have e1 : ts.all (fun t => He.valsB K (He.ga K t.1) t.2) = true := congrArg (fun z : AlXT => z.2.1) c
  have e2 : (ts.map (fun t => He.dicW K (He.ga K t.1)))[i]? = (ts.map fun t => some (He.keysIn w.params (t.2.map (·.1))))[i]? := by rw [e]
  rw [List.getElem?_map, List.getElem?_map, h] at e2
  obtain ⟨es, n, k⟩ := He.dicW_ok (Option.some.inj e2)
  obtain ⟨u, q1, q2⟩ := He.valsB_ok (List.all_eq_true.mp e1 t (List.mem_of_getElem? h)) hx
  exact ⟨es, n, u, k.at_, k.lit, q1, q2⟩
end
end SxK

set_option Elab.async false
set_option linter.all false
set_option maxRecDepth 100000
set_option maxHeartbeats 2000000
namespace Sx
open PySem PySem.Spec PyProof.Rows L2 SxA SxK
/-! ### defs and methods that may raise -/
def OkX (P : Program) (w : World) (K : PySem.W.Frag) (mg : Str → Option Value) (base : Heap) (k : Nat) (x : Str) (ps : List Str) (sp : Sp) : Prop :=
  ∃ fd, FnOk P w K mg base (L2.CX P w) k (He.ga K x) fd ps sp ∧ Binds K fd ps [] ∧ PySem.W.keepIn K (.ref (He.ga K x)) = true ∧ mg x = some (.ref (He.ga K x))
def MetX (P : Program) (w : World) (K : PySem.W.Frag) (mg : Str → Option Value) (base : Heap) (k : Nat) (C m : Str) (ps : List Str) (sp : Sp) : Prop :=
  ∃ fd, FnOk P w K mg base (L2.CX P w) k (He.ma K (He.ga K C) m) fd ps sp ∧ Binds K fd ps []
section
variable {P : Program} {w : World} {K : PySem.W.Frag} {mg : Str → Option Value} {base : Heap}
theorem mkOkX {x : Str} {st : Stmt} {N ps : List Str} {k : Nat} {sp : Sp} (d : Fd K x st) (hx : mg x = some (.ref (He.ga K x))) (S : FnScope N ps (defScope st)) (len : ∀ vs H Q E, sp vs H Q E → vs.length = ps.length)
    (bnd : ∀ (kV doc pm : Value) (an : Option Addr) (cdv ct : Value) (us : List Value), us.length = ps.length → bindArgs (PySem.W.fnOf x x (defArgs st) (defBody st) (defScope st) .none kV doc pm an cdv ct) ⟨us, []⟩ = pure (ps.zip us))
    (body : ∀ (cdv : Value) (A : Around) (outer : List Env) (s : Shared) (H0 : Hp) (vs : List V) (Q : VK) (E : XK), Room k (A.deeper (envOfC x (defScope st) s.heap.objs.size (He.ga K x) cdv)) → sp vs H0 Q E →
      ∃ t, PSs (cxOf (L2.CX P w) P w K mg base N x (defScope st) (He.ga K x) cdv A outer s H0 E) (defBody st) t ∧ t { nx := fun _ H' => Q .non H', rt := Q } (start N vs) H0) : OkX P w K mg base (k + 1) x ps sp := by
  obtain ⟨fd, F⟩ := d
  exact ⟨fd, F.ok S len body, F.bindsN bnd, F.kp, hx⟩
theorem pe_okX {X : Cx} {W : WX} {k : Nat} {x : Str} {ps : List Str} {sp : Sp} {p pos : Pos} {e : Expr} {es : List Expr} {t : TA} (o : OkX X.prog X.w X.K X.mg X.base k x ps sp) (hr : Room k X.A) (hg : Gl X x) (tk : Takes X W) (ha : PA X (e :: es) t)
    (hdb : (x == ("__debug__" : Str)) = false := by decide) (hs : starEach (e :: es) X.env = (false, eval e X.env) :: starEach es X.env := by rfl) (hpl : ((backTo pos (starEach es X.env)).any (·.1)) = false := by rfl) :
    PE X (.Call (.Name x p) (e :: es) [] pos) (tCallS sp (WE W) t) := by
  obtain ⟨fd, F, b, kp, hm⟩ := o
  exact pe_callS F hr hg hm kp b (fun σ => passAt tk σ) ha hdb hs hpl
theorem mkMetX {C m qual : Str} {st : Stmt} {N ps : List Str} {k : Nat} {sp : Sp} (d : ∃ fd, FunD K m qual (defArgs st) (defBody st) (defScope st) [] [] (He.ma K (He.ga K C) m) fd) (S : FnScope N ps (defScope st)) (len : ∀ vs H Q E, sp vs H Q E → vs.length = ps.length)
    (bnd : ∀ (kV doc pm : Value) (an : Option Addr) (cdv ct : Value) (us : List Value), us.length = ps.length → bindArgs (PySem.W.fnOf m qual (defArgs st) (defBody st) (defScope st) .none kV doc pm an cdv ct) ⟨us, []⟩ = pure (ps.zip us))
    (body : ∀ (cdv : Value) (A : Around) (outer : List Env) (s : Shared) (H0 : Hp) (vs : List V) (Q : VK) (E : XK), Room k (A.deeper (envOfC qual (defScope st) s.heap.objs.size (He.ma K (He.ga K C) m) cdv)) → sp vs H0 Q E →
      ∃ t, PSs (cxOf (L2.CX P w) P w K mg base N qual (defScope st) (He.ma K (He.ga K C) m) cdv A outer s H0 E) (defBody st) t ∧ t { nx := fun _ H' => Q .non H', rt := Q } (start N vs) H0) : MetX P w K mg base (k + 1) C m ps sp := by
  obtain ⟨fd, F⟩ := d
  exact ⟨fd, F.ok S len body, F.bindsN bnd⟩
theorem pe_metX {X : Cx} {E : XK} {k : Nat} {C m : Str} {ps : List Str} {sp : Sp} {apos pos : Pos} {o e : Expr} {es : List Expr} {ta : TE} {t : TA} {pl : Sem Bool} (M : MetX X.prog X.w X.K X.mg X.base k C m ps sp) (c : Cls X.K (He.ga X.K C)) (hm : Meth X.K (He.ga X.K C) m (He.ma X.K (He.ga X.K C) m))
    (hr : Room k X.A) (hx : Passes (L2.CX X.prog X.w) X E) (he : PE X o ta) (ha : PA X (e :: es) t)
    (hst : starEach (e :: es) X.env = (false, eval e X.env) :: starEach es X.env := by rfl) (hpl : (backTo pos (starEach es X.env)).any (·.1) = false := by rfl)
    (ht : eval (.Call (.Attribute o m apos) (e :: es) [] pos) X.env = (do
      let ov ← eval o X.env
      standAt apos.atName
      let (f, first) ← holding [ov] (getMethod ov m pl)
      callWith pos f first (backTo pos (starEach (e :: es) X.env)) (backToKw pos (keywordEach [] X.env))) := by rfl) :
    PE X (.Call (.Attribute o m apos) (e :: es) [] pos) (tMeth (He.ga X.K C) m sp [] E ta t) := by
  obtain ⟨fd, F, b⟩ := M
  exact pe_meth he c hm F hr b .nil hx ha hst hpl ht
theorem pe_metX0 {X : Cx} {E : XK} {k : Nat} {C m : Str} {ps : List Str} {sp : Sp} {apos pos : Pos} {o : Expr} {ta : TE} {pl : Sem Bool} (M : MetX X.prog X.w X.K X.mg X.base k C m ps sp) (c : Cls X.K (He.ga X.K C)) (hm : Meth X.K (He.ga X.K C) m (He.ma X.K (He.ga X.K C) m))
    (hr : Room k X.A) (hx : Passes (L2.CX X.prog X.w) X E) (he : PE X o ta)
    (ht : eval (.Call (.Attribute o m apos) [] [] pos) X.env = (do
      let ov ← eval o X.env
      standAt apos.atName
      let (f, first) ← holding [ov] (getMethod ov m pl)
      callWith pos f first (backTo pos (starEach [] X.env)) (backToKw pos (keywordEach [] X.env))) := by rfl) :
    PE X (.Call (.Attribute o m apos) [] [] pos) (tMeth (He.ga X.K C) m sp [] E ta tNil) := by
  obtain ⟨fd, F, b⟩ := M
  exact pe_meth0 he c hm F hr b .nil hx ht
/-! ### an exception with one int, told by an f-string -/
def spXInt (K : PySem.W.Frag) (C f : Str) : Sp := fun vs H Q _ => ∃ (a : Addr) (l : Int), vs = [.ref a, .int l] ∧ H a = some (exo a (He.ga K C) none) ∧ (0 ≤ l ∧ l < 10 ^ 10) ∧
  ∀ H1 d, Same H H1 → H1 d = none → d ≠ a → Q .non (upd (upd H1 a (exo a (He.ga K C) (some d))) d (exd d [(f, .int l)]))
theorem lg10 {l : Int} (h0 : 0 ≤ l) (h : l < 10 ^ 10) : l.natAbs.log2 < 1920 := by
  by_cases n : l.natAbs = 0
  · rw [n]; decide
  · exact (Nat.log2_lt n).mpr (Nat.lt_of_lt_of_le (show l.natAbs < 10 ^ 10 by omega) (by decide))
/-- what such an error lets be known -/
def ErI (K : PySem.W.Frag) (C f : Str) (E : XK) (H : Hp) (l : Int) : Prop := ∀ d H', Same H H' → H' d = some (.xd [(f, .int l)]) → E (.ref (He.ga K C)) (some d) H'
theorem ErI.same {C f : Str} {E : XK} {H H2 : Hp} {l : Int} (e : ErI K C f E H l) (s : Same H H2) : ErI K C f E H2 l := fun d H' s2 h => e d H' (s.trans s2) h
theorem mk_errI {C f : Str} {H : Hp} {l : Int} {Q : XK} (hl : 0 ≤ l ∧ l < 10 ^ 10) (q : ErI K C f Q H l) :
    [V.int l].length ≤ 1000 ∧ ∀ a, H a = none → spXInt K C f (.ref a :: ([V.int l] ++ [])) (upd H a (exo a (He.ga K C) none))
      (fun v H2 => v = .non ∧ ∃ (d : Addr) (fs : List (Str × V)), H2 a = some (exo a (He.ga K C) (some d)) ∧ H2 d = some (exd d fs) ∧ H d = none ∧ Q (.ref (He.ga K C)) (some d) (upd (del H2 a) d (.xd fs))) (fun _ _ _ => False) := by
  refine ⟨(by show 1 ≤ 1000; decide), fun a ha => ⟨a, l, rfl, upd_same, hl, fun H1 d s1 hd ne => ?_⟩⟩
  have hd0 : H d = none := by
    have e := s1.free hd
    rw [upd_ne ne] at e
    exact e
  refine ⟨rfl, d, [(f, .int l)], by rw [upd_ne ne.symm]; exact upd_same, upd_same, hd0, ?_⟩
  refine q d _ (fun b o hb => ?_) upd_same
  have b1 : b ≠ d := ne_of_none hb hd0
  have b2 : b ≠ a := ne_of_none hb ha
  rw [upd_ne b1, del_ne b2, upd_ne b1, upd_ne b2]
  exact s1 b o (by rw [upd_ne b2]; exact hb)
end
end Sx

set_option Elab.async false
set_option linter.all false
set_option maxRecDepth 100000
set_option maxHeartbeats 2000000
/-! sep.join(reversed(x)), x a list of texts -/
namespace SxA
open PySem PySem.Spec PyProof.Rows L2
section
variable {prog : Program} {w : World} {A : Around} {E : Value → Shared → Prop} {s : Shared}
theorem call_join_rev {it l : Addr} {items : Array Value} {x : Str} {t : Tok} {ys : List Str} {Q : Value → Shared → Prop} (hh : A.handled = none) (hit : s.heap.IsRevIter it l ((items.size : Int) - 1)) (hl : s.heap.IsList l items) (hne : l ≠ it) (hn : items.size ≤ sizeLine)
    (hs : ∀ acc : Array Value, ItemsOf (fun i v => items[items.size - 1 - i]? = some v) acc items.size → StrsAre acc.toList ys) (hok : (ys.map (·.length)).sum + ys.length * x.length ≤ 16777216)
    (hQ : ∀ (h' : Heap) (tk : Nat) (u : Tok), (∀ b o, b ≠ it → s.heap.get? b = some o → h'.get? b = some o) → Q (.str (Txt.join x ys) u) { s with heap := h', toks := tk }) :
    wpAny (model prog w) A (call (.builtin "str.join") [.str x t, .ref it]) Q E s := by
  have hT : s.TypeIs (.ref it) "list_reverseiterator" := hit.typeIs
  have hh1 : A.in1.in1.handled = none := hh
  refine wpAny_call (codeAny_call_builtin F.slot_str_join.plain F.entry_str_join (F.slot_str_join.check _ _ _ _ _ _ _ _ (typeIs_str _ _ _) (F.args_str_join_2 _ _) ?_))
  rw [join_tree_other]
  refine wpAny_bind (wpAny_typeOf hT ?_)
  show wpAny _ A.in1 ((pyIter (.ref it)).tryCatch _ >>= fun i2 => collect i2 >>= fun found => joinTail x found) _ _ s
  refine wpAny_bind (wpAny_tryCatch (wpAny_pyIter_revIter hit ?_))
  refine wpAny_bind (RT.collect_rev (A := A.in1) hh hit hl hne hn fun h' tk acc hk hacc => ?_)
  obtain ⟨lv, e1, e2⟩ := strsAre_values (hs acc hacc)
  rw [e1]
  have j1 : JoinOk x (lv.map (·.1)) = true := by rw [e2]; exact joinOk_of hok
  have j2 := j1
  unfold JoinOk at j2
  rw [Bool.not_eq_true'] at j2
  have g : Gives (joinTail x (strValues lv)) (joinMade x lv) := by
    have g1 := gives_joinTail x lv j2
    cases lv with
    | nil => exact g1
    | cons p r => cases r with
      | nil => exact g1
      | cons p2 r2 => exact g1
  exact g prog w A (wants Q E) _ (post_join lv ⟨joinFit_length j2, fun u k => by rw [e2]; exact hQ h' k u hk⟩)
end
def tJoinRev (K : PySem.W.Frag) (to te : TE) : TE := fun σ H Q => to σ H fun x H1 => (∃ a, x = .str a) ∧ te σ H1 fun v H2 => ∃ (a : Str) (l : Addr) (ys : List Str), x = .str a ∧ v = .ref l ∧ SqL K H2 l (ys.map V.str) ∧ (ys.map (·.length)).sum + ys.length * a.length ≤ 16777216 ∧ Q (.str (Txt.join a ys.reverse)) H2
theorem pe_joinRev {X : Cx} {o e : Expr} {to te : TE} {apos pos p2 pos2 : Pos} (hg2 : Gl X "reversed") (hm2 : X.mg "reversed" = none) (ho : PE X o to) (he : PE X e te) (hc : X.calm = true := by rfl)
    (hs : starEach [.Call (.Name "reversed" p2) [e] [] pos2] X.env = [(false, eval (.Call (.Name "reversed" p2) [e] [] pos2) X.env)] := by rfl)
    (hs2 : starEach [e] X.env = (false, eval e X.env) :: starEach [] X.env := by rfl)
    (hbase : attributeBase o "join" X.env (eval o X.env) = eval o X.env := by rfl) (hline : (apos.endLine == pos.line) = true := by rfl) :
    PE X (.Call (.Attribute o "join" apos) [.Call (.Name "reversed" p2) [e] [] pos2] [] pos) (tJoinRev X.K to te) := by
  refine ⟨fun pins s σ H Q I h => ?_⟩
  refine PySem.Call_method1 hbase hs hline (thn (ho.run pins s σ H _ I h) fun v s1 ⟨x, H1, I1, r1, q1⟩ => ?_)
  obtain ⟨⟨a, rfl⟩, q1⟩ := q1
  obtain ⟨t, rfl⟩ := _root_.id r1
  refine ⟨"str", _, F.plainAttrs_str, F.slot_str_join, F.type_str_join, typeIs_str _ _ _, (fun _ e => nomatch e), Calls.callWith_builtin rfl (Calls.evalArgs_plain (Calls.spliced_cons ?_))⟩
  refine Call_ (ld_blt I1 hg2 hm2 PyProof.Rows.boot_reversed (PyProof.Rows.callWith_type1 (args_cons (thn (he.run pins s1 σ H1 _ I1 q1) fun u s2 ⟨y, H2, I2, r2, q2⟩ => args_nil ?_) hs2) hs2 rfl))
  obtain ⟨a', l, ys, ex, rfl, hq, hz, q⟩ := q2
  cases ex
  obtain rfl : u = Value.ref l := r2
  obtain ⟨its, rv, p', hlen⟩ := I2.list hq
  refine call_reversed_list p'.isList (Calls.spliced_nil ?_)
  have k0 : ∀ b o, s2.heap.get? b = some o → (s2.heap.push (revObj l ((its.toArray.size : Int) - 1))).get? b = some o := fun b o e => Heap.get?_push_of_some _ e
  have I3 : Inv X pins σ H2 { s2 with heap := s2.heap.push (revObj l ((its.toArray.size : Int) - 1)) } := I2.kept (t' := s2.toks) k0
  obtain ⟨f0, f1, f2, f3, f4, f5⟩ := I2.fpOk (H' := H2) (b := s2.heap.objs.size) (Nat.le_refl _) (I2.hok.fresh (Nat.le_refl _))
  have hl := p'.isList
  obtain ⟨ol, hol, _⟩ := id hl
  have hne : l ≠ s2.heap.objs.size := Nat.ne_of_lt (Heap.lt_size hol)
  have hn : its.toArray.size ≤ sizeLine := by rw [List.size_toArray, ← rv.length]; exact hlen
  refine call_join_rev (ys := ys.reverse) (s := { s2 with heap := s2.heap.push (revObj l ((its.toArray.size : Int) - 1)) }) (I2.ok.hd hc) ⟨_, Heap.get?_push_size _ rfl, rfl, rfl⟩ (hl.push _) hne hn (fun acc ha => ?_) (by rw [List.map_reverse, List.sum_reverse, List.length_reverse]; exact hz) fun h' tk u hk => ?_
  · have r2 := RT.vals_rev rv ha
    rw [← List.map_reverse] at r2
    exact strs_of_vals r2
  · have I4 : Inv X pins σ H2 { s2 with heap := h', toks := tk } := I3.turned (t' := tk) (fun b o hb e => hk b o hb e) f0 f1 f3 f4 f5
    exact ⟨.str _, H2, I4, ⟨u, rfl⟩, q⟩
end SxA

set_option Elab.async false
set_option linter.all false
set_option maxRecDepth 100000
set_option maxHeartbeats 1000000
namespace Sx
open PySem PySem.Spec PyProof.Rows L2 SxA HT
/-! ### tuples of ints -/
abbrev ti (ns : List Int) : HO := .tup (ns.map V.int)
section
variable {K : PySem.W.Frag} {H : Hp} {Q : VK}
def pTupI (cs : List Int) : PyData := .tuple (cs.map PyData.int)
theorem eqv_tupI (xs ys : List Int) : PyData.eqv (pTupI xs) (pTupI ys) = decide (xs = ys) := by
  unfold pTupI
  rw [PyData.eqv]
  exact eqvAll_ints xs ys
theorem shaped_tupI (xs : List Int) : SeqAt.shaped (pTupI xs) = true := by
  unfold SeqAt.shaped pTupI
  rw [PyData.canLay0, lay_ints, PyData.depth]
  have := dep_ints xs
  simp
  omega
theorem eqTT {p q : Addr} {xs ys : List Int} (h1 : H p = some (ti xs)) (h2 : H q = some (ti ys)) (k : Q (.bl (decide (xs = ys))) H) : rEqD K (.ref p) (.ref q) H Q := by
  refine ⟨pTupI xs, pTupI ys, .tup (SqT.of h1) (dpAll_ints K H xs), .tup (SqT.of h2) (dpAll_ints K H ys), shaped_tupI _, shaped_tupI _, ?_⟩
  rw [eqv_tupI]
  exact k
theorem eqL {p q : Addr} {xs ys : List Int} (h1 : H p = some (.lst (xs.map V.int))) (h2 : H q = some (.lst (ys.map V.int))) (k : Q (.bl (decide (xs = ys))) H) : rEqD K (.ref p) (.ref q) H Q := by
  refine ⟨pInts xs, pInts ys, dp_ints (SqL.of h1), dp_ints (SqL.of h2), shaped_ints _, shaped_ints _, ?_⟩
  rw [eqv_ints]
  exact k
theorem slT_to {a : Addr} {xs : List V} {m : Nat} (h : H a = some (.tup xs)) (k : ∀ p H', Same H H' → H' p = some (.tup (xs.take m)) → Q (.ref p) H') : rSlA K (.ref a) none (some (m : Int)) H Q := by
  refine ⟨a, xs, rfl, SqT.of h, fun w => k a H (Same.refl H) ?_, fun _ p hp => k p _ (Same.new hp) ?_⟩
  · rw [sIx_nat] at w
    rw [h, List.take_of_length_le (by omega)]
  · rw [upd_same]
    show some (HO.tup ((xs.drop (HT.sIx xs.length 0 none)).take (HT.sIx xs.length xs.length (some (m : Int)) - HT.sIx xs.length 0 none))) = _
    rw [sIx_nat, sIx_none, List.drop_zero, Nat.sub_zero, ← List.take_eq_take_min]
theorem slT_from {a : Addr} {xs : List V} {m : Nat} (h : H a = some (.tup xs)) (k : ∀ p H', Same H H' → H' p = some (.tup (xs.drop m)) → Q (.ref p) H') : rSlA K (.ref a) (some (m : Int)) none H Q := by
  refine ⟨a, xs, rfl, SqT.of h, fun w => k a H (Same.refl H) ?_, fun _ p hp => k p _ (Same.new hp) ?_⟩
  · rw [sIx_nat] at w
    have : m = 0 ∨ xs = [] := by
      cases xs with
      | nil => exact .inr rfl
      | cons x r => left; have := w.1; rw [List.length_cons] at this; omega
    rcases this with rfl | rfl
    · rw [h, List.drop_zero]
    · rw [h]; simp
  · rw [upd_same]
    show some (HO.tup ((xs.drop (HT.sIx xs.length 0 (some (m : Int)))).take (HT.sIx xs.length xs.length none - HT.sIx xs.length 0 (some (m : Int))))) = _
    rw [sIx_nat, sIx_none]
    congr 2
    rw [List.take_of_length_le (by rw [List.length_drop]; omega)]
    by_cases q : m ≤ xs.length
    · rw [Nat.min_eq_left q]
    · rw [Nat.min_eq_right (by omega), List.drop_eq_nil_of_le (Nat.le_refl _), List.drop_eq_nil_of_le (by omega)]
theorem slT_both {a : Addr} {xs : List V} {m n : Nat} (h : H a = some (.tup xs)) (k : ∀ p H', Same H H' → H' p = some (.tup ((xs.take n).drop m)) → Q (.ref p) H') : rSlA K (.ref a) (some (m : Int)) (some (n : Int)) H Q := by
  have e : (xs.drop (min m xs.length)).take (min n xs.length - min m xs.length) = (xs.take n).drop m := by
    rw [List.drop_take]
    by_cases q : m ≤ xs.length
    · rw [Nat.min_eq_left q]
      by_cases q2 : n ≤ xs.length
      · rw [Nat.min_eq_left q2]
      · rw [Nat.min_eq_right (by omega)]
        rw [List.take_of_length_le (by rw [List.length_drop]; omega), List.take_of_length_le (by rw [List.length_drop]; omega)]
    · rw [Nat.min_eq_right (show xs.length ≤ m by omega), List.drop_eq_nil_of_le (Nat.le_refl _), List.drop_eq_nil_of_le (show xs.length ≤ m by omega)]
      simp
  refine ⟨a, xs, rfl, SqT.of h, fun w => k a H (Same.refl H) ?_, fun _ p hp => k p _ (Same.new hp) ?_⟩
  · rw [sIx_nat, sIx_nat] at w
    rw [h, ← e, w.1, w.2]
    simp
  · rw [upd_same]
    show some (HO.tup ((xs.drop (HT.sIx xs.length 0 (some (m : Int)))).take (HT.sIx xs.length xs.length (some (n : Int)) - HT.sIx xs.length 0 (some (m : Int))))) = _
    rw [sIx_nat, sIx_nat, e]
theorem catT {p q : Addr} {xs ys : List V} (h1 : H p = some (.tup xs)) (h2 : H q = some (.tup ys)) (hl : xs.length + ys.length ≤ sizeLine) (k : ∀ r H', Same H H' → H' r = some (.tup (xs ++ ys)) → Q (.ref r) H') : rCatA K (.ref p) (.ref q) H Q := by
  refine ⟨p, q, xs, ys, rfl, rfl, SqT.of h1, SqT.of h2, hl, fun e => k q H (Same.refl H) ?_, fun _ e => k p H (Same.refl H) ?_, fun _ _ r hr => k r _ (Same.new hr) upd_same⟩
  · rw [h2, e]; rfl
  · rw [h1, e, List.append_nil]
theorem op_catK {X : Cx} {K : PySem.W.Frag} (h : X.K = K) : OpR X (binaryOp .Add) (rCatA K) := by
  subst h
  exact op_catA
theorem sl_tupK {X : Cx} {K : PySem.W.Frag} (h : X.K = K) : SlR X (rSlA K) := by
  subst h
  exact sl_tupA
/-- [F(x) for x in t if f(x)], t a tuple; the test and the element change nothing -/
theorem lc_tupF {K : PySem.W.Frag} {a : Addr} {xs : List V} {f : V → Bool} {F : V → V} {tt : TT} {te : TE} {i0 : Nat} {vs : List Nat} {σ : L2.St} {H1 : Hp} {D : Addr} {Qd : Hp → Prop} (hD : H1 D = none) (ha : H1 a = some (.tup xs)) (hn : xs.length ≤ sizeLine)
    (hw : ∀ u : V, wipe ((wipe σ vs).set i0 (some u)) vs = wipe σ vs)
    (ht : ∀ (x : V) (H : Hp) (Q : Bool → Hp → Prop), x ∈ xs → Same H1 H → Q (f x) H → tt ((wipe σ vs).set i0 (some x)) H Q)
    (he : ∀ (x : V) (H : Hp) (Q : VK), x ∈ xs → Same H1 H → Q (F x) H → te ((wipe σ vs).set i0 (some x)) H Q)
    (hd : ∀ H, Same H1 H → H D = some (.lst ((xs.filter f).map F)) → Qd H) :
    ∃ W : Nat → Nat → Hp → Prop, (∃ m, W 0 m (upd H1 D (.lst []))) ∧ ∀ i m H, W i m H → ((Itt K a).stop i H ∧ Qd H) ∨ ((Itt K a).go i H ∧ ∃ Nx : Hp → Prop, (∀ H', Nx H' → ∃ m', m' < m ∧ W (i + 1) m' H') ∧
      ∀ x H', (Itt K a).yld i H x H' → (gName i0) x (wipe σ vs) H' fun σ2 H2 => wipe σ2 vs = wipe σ vs ∧ tt σ2 H2 fun b H3 => if b = true then te σ2 H3 fun y H4 => ∃ acc, H4 D = some (.lst acc) ∧ acc.length < sizeLine ∧ Nx (upd H4 D (.lst (acc ++ [y]))) else Nx H3) := by
  refine lc_tup (K := K) (a := a) (xs := xs) (g := gName i0) (tt := tt) (te := te) (fun i H => Same H1 H ∧ H D = some (.lst (((xs.take i).filter f).map F))) ⟨Same.new hD, upd_same⟩ (fun i H _ p => SqT.of (p.1 _ _ ha)) ?_ (fun H p => hd H p.1 (by rw [p.2, List.take_length]))
  rintro i x H hx ⟨sm, hH⟩
  have il := (List.getElem?_eq_some_iff.mp hx).1
  have tk : xs.take (i + 1) = xs.take i ++ [x] := by rw [List.take_add_one, hx]; rfl
  have mem : x ∈ xs := List.mem_of_getElem? hx
  refine ⟨hw x, ht x H _ mem sm ?_⟩
  by_cases h : f x = true
  · rw [if_pos h]
    refine he x H _ mem sm ⟨_, hH, ?_, Same.put sm hD, ?_⟩
    · rw [List.length_map]
      have := List.length_filter_le f (xs.take i)
      rw [List.length_take] at this
      omega
    · rw [upd_same, tk, List.filter_append, List.map_append]
      simp [List.filter_cons, h]
  · rw [if_neg h]
    refine ⟨sm, ?_⟩
    rw [hH, tk, List.filter_append, List.map_append]
    simp [List.filter_cons, h]
/-- [F(x) for x in t if f(x)], t a list; the test and the element change nothing -/
theorem lc_listF {K : PySem.W.Frag} {a : Addr} {xs : List V} {f : V → Bool} {F : V → V} {tt : TT} {te : TE} {i0 : Nat} {vs : List Nat} {σ : L2.St} {H1 : Hp} {D : Addr} {Qd : Hp → Prop} (hD : H1 D = none) (ha : H1 a = some (.lst xs)) (hn : xs.length ≤ sizeLine)
    (hw : ∀ u : V, wipe ((wipe σ vs).set i0 (some u)) vs = wipe σ vs)
    (ht : ∀ (x : V) (H : Hp) (Q : Bool → Hp → Prop), x ∈ xs → Same H1 H → Q (f x) H → tt ((wipe σ vs).set i0 (some x)) H Q)
    (he : ∀ (x : V) (H : Hp) (Q : VK), x ∈ xs → Same H1 H → Q (F x) H → te ((wipe σ vs).set i0 (some x)) H Q)
    (hd : ∀ H, Same H1 H → H D = some (.lst ((xs.filter f).map F)) → Qd H) :
    ∃ W : Nat → Nat → Hp → Prop, (∃ m, W 0 m (upd H1 D (.lst []))) ∧ ∀ i m H, W i m H → ((Itl K a).stop i H ∧ Qd H) ∨ ((Itl K a).go i H ∧ ∃ Nx : Hp → Prop, (∀ H', Nx H' → ∃ m', m' < m ∧ W (i + 1) m' H') ∧
      ∀ x H', (Itl K a).yld i H x H' → (gName i0) x (wipe σ vs) H' fun σ2 H2 => wipe σ2 vs = wipe σ vs ∧ tt σ2 H2 fun b H3 => if b = true then te σ2 H3 fun y H4 => ∃ acc, H4 D = some (.lst acc) ∧ acc.length < sizeLine ∧ Nx (upd H4 D (.lst (acc ++ [y]))) else Nx H3) := by
  refine lc_list (K := K) (a := a) (xs := xs) (g := gName i0) (tt := tt) (te := te) (fun i H => Same H1 H ∧ H D = some (.lst (((xs.take i).filter f).map F))) ⟨Same.new hD, upd_same⟩ (fun i H _ p => SqL.of (p.1 _ _ ha)) ?_ (fun H p => hd H p.1 (by rw [p.2, List.take_length]))
  rintro i x H hx ⟨sm, hH⟩
  have il := (List.getElem?_eq_some_iff.mp hx).1
  have tk : xs.take (i + 1) = xs.take i ++ [x] := by rw [List.take_add_one, hx]; rfl
  have mem : x ∈ xs := List.mem_of_getElem? hx
  refine ⟨hw x, ht x H _ mem sm ?_⟩
  by_cases h : f x = true
  · rw [if_pos h]
    refine he x H _ mem sm ⟨_, hH, ?_, Same.put sm hD, ?_⟩
    · rw [List.length_map]
      have := List.length_filter_le f (xs.take i)
      rw [List.length_take] at this
      omega
    · rw [upd_same, tk, List.filter_append, List.map_append]
      simp [List.filter_cons, h]
  · rw [if_neg h]
    refine ⟨sm, ?_⟩
    rw [hH, tk, List.filter_append, List.map_append]
    simp [List.filter_cons, h]
theorem call_tuple_ofK {X : Cx} {K : PySem.W.Frag} (h : X.K = K) : CallR X (.type "tuple") (fun xs H Q => ∃ p ys, xs = [.ref p] ∧ ((SqL K H p ys ∧ ∀ l, H l = none → Q (.ref l) (upd H l (.tup ys))) ∨ (SqT K H p ys ∧ Q (.ref p) H))) := by
  subst h
  exact call_tuple_of
end
end Sx

set_option Elab.async false
set_option linter.all false
set_option maxRecDepth 100000
set_option maxHeartbeats 0
namespace Sx
open PySem PySem.Spec PyProof.Rows L2
/-! ### the text by places -/
def top (i : Nat) : Stmt := PySem.Challenge.pw_sixdot_k11_whole_numbers_show_the_best.main.body.getD i (.Pass ⟨0, 0, 0, 0⟩)
abbrev sRuleInit : Stmt := inClass (top 3) 0
abbrev sTableInit : Stmt := inClass (top 4) 0
abbrev sCopyOfRule : Stmt := top 5
abbrev sHasParts : Stmt := top 6
abbrev sFits : Stmt := top 8
abbrev sFitting : Stmt := top 9
abbrev sIsWay : Stmt := top 10
abbrev sCellsOfWay : Stmt := top 11
abbrev sModesOf : Stmt := top 12
abbrev sBestChoice : Stmt := top 13
abbrev sBestChoices : Stmt := top 14
abbrev sBestWriting : Stmt := top 15
abbrev sNumberOfMode : Stmt := top 17
abbrev sNumberAt : Stmt := top 18
abbrev sMakeNumbers : Stmt := top 19
abbrev sHaveLengths : Stmt := top 20
abbrev sHoldsAt : Stmt := top 21
abbrev sAcceptsNumbers : Stmt := top 22
abbrev sShowsBest : Stmt := top 23
abbrev sLawDeck : Stmt := top 25
abbrev sLawDraw : Stmt := top 26
abbrev sLawSide : Stmt := top 27
abbrev sLawRule : Stmt := top 28
abbrev sLawRules : Stmt := top 29
abbrev sLawTable : Stmt := top 30
abbrev sLawText : Stmt := top 31
abbrev sLawFits : Stmt := top 32
abbrev sLawWays : Stmt := top 33
abbrev sLawCells : Stmt := top 34
abbrev sLaw : Stmt := top 35
/-! ### the head: facts by names, the run -/
def dRuleInit : He.DefD := ⟨("Rule", some "__init__"), "__init__", "Rule.__init__", defArgs sRuleInit, defBody sRuleInit, defScope sRuleInit, [], [("ahead", .non), ("behind", .non)]⟩
def dTableInit : He.DefD := ⟨("Table", some "__init__"), "__init__", "Table.__init__", defArgs sTableInit, defBody sTableInit, defScope sTableInit, [], []⟩
def dCopyOfRule : He.DefD := ⟨("copy_of_rule", none), "copy_of_rule", "copy_of_rule", defArgs sCopyOfRule, defBody sCopyOfRule, defScope sCopyOfRule, [], []⟩
def dHasParts : He.DefD := ⟨("has_parts", none), "has_parts", "has_parts", defArgs sHasParts, defBody sHasParts, defScope sHasParts, [], []⟩
def dFits : He.DefD := ⟨("fits", none), "fits", "fits", defArgs sFits, defBody sFits, defScope sFits, [], []⟩
def dFitting : He.DefD := ⟨("fitting", none), "fitting", "fitting", defArgs sFitting, defBody sFitting, defScope sFitting, [], []⟩
def dIsWay : He.DefD := ⟨("is_way", none), "is_way", "is_way", defArgs sIsWay, defBody sIsWay, defScope sIsWay, [], []⟩
def dCellsOfWay : He.DefD := ⟨("cells_of_way", none), "cells_of_way", "cells_of_way", defArgs sCellsOfWay, defBody sCellsOfWay, defScope sCellsOfWay, [], []⟩
def dModesOf : He.DefD := ⟨("modes_of", none), "modes_of", "modes_of", defArgs sModesOf, defBody sModesOf, defScope sModesOf, [], []⟩
def dBestChoice : He.DefD := ⟨("best_choice", none), "best_choice", "best_choice", defArgs sBestChoice, defBody sBestChoice, defScope sBestChoice, [], []⟩
def dBestChoices : He.DefD := ⟨("best_choices", none), "best_choices", "best_choices", defArgs sBestChoices, defBody sBestChoices, defScope sBestChoices, [], []⟩
def dBestWriting : He.DefD := ⟨("best_writing", none), "best_writing", "best_writing", defArgs sBestWriting, defBody sBestWriting, defScope sBestWriting, [], []⟩
def dNumberOfMode : He.DefD := ⟨("number_of_mode", none), "number_of_mode", "number_of_mode", defArgs sNumberOfMode, defBody sNumberOfMode, defScope sNumberOfMode, [], []⟩
def dNumberAt : He.DefD := ⟨("number_at", none), "number_at", "number_at", defArgs sNumberAt, defBody sNumberAt, defScope sNumberAt, [], []⟩
def dMakeNumbers : He.DefD := ⟨("make_numbers", none), "make_numbers", "make_numbers", defArgs sMakeNumbers, defBody sMakeNumbers, defScope sMakeNumbers, [], []⟩
def dHaveLengths : He.DefD := ⟨("have_lengths", none), "have_lengths", "have_lengths", defArgs sHaveLengths, defBody sHaveLengths, defScope sHaveLengths, [], []⟩
def dHoldsAt : He.DefD := ⟨("holds_at", none), "holds_at", "holds_at", defArgs sHoldsAt, defBody sHoldsAt, defScope sHoldsAt, [], []⟩
def dAcceptsNumbers : He.DefD := ⟨("accepts_numbers", none), "accepts_numbers", "accepts_numbers", defArgs sAcceptsNumbers, defBody sAcceptsNumbers, defScope sAcceptsNumbers, [], []⟩
def dShowsBest : He.DefD := ⟨("shows_best", none), "shows_best", "shows_best", defArgs sShowsBest, defBody sShowsBest, defScope sShowsBest, [], []⟩
def dLawDeck : He.DefD := ⟨("_law_deck", none), "_law_deck", "_law_deck", defArgs sLawDeck, defBody sLawDeck, defScope sLawDeck, [], []⟩
def dLawDraw : He.DefD := ⟨("_law_draw", none), "_law_draw", "_law_draw", defArgs sLawDraw, defBody sLawDraw, defScope sLawDraw, [], []⟩
def dLawSide : He.DefD := ⟨("_law_side", none), "_law_side", "_law_side", defArgs sLawSide, defBody sLawSide, defScope sLawSide, [], []⟩
def dLawRule : He.DefD := ⟨("_law_rule", none), "_law_rule", "_law_rule", defArgs sLawRule, defBody sLawRule, defScope sLawRule, [], []⟩
def dLawRules : He.DefD := ⟨("_law_rules", none), "_law_rules", "_law_rules", defArgs sLawRules, defBody sLawRules, defScope sLawRules, [], []⟩
def dLawTable : He.DefD := ⟨("_law_table", none), "_law_table", "_law_table", defArgs sLawTable, defBody sLawTable, defScope sLawTable, [], []⟩
def dLawText : He.DefD := ⟨("_law_text", none), "_law_text", "_law_text", defArgs sLawText, defBody sLawText, defScope sLawText, [], []⟩
def dLawFits : He.DefD := ⟨("_law_fits", none), "_law_fits", "_law_fits", defArgs sLawFits, defBody sLawFits, defScope sLawFits, [], []⟩
def dLawWays : He.DefD := ⟨("_law_ways", none), "_law_ways", "_law_ways", defArgs sLawWays, defBody sLawWays, defScope sLawWays, [], []⟩
def dLawCells : He.DefD := ⟨("_law_cells", none), "_law_cells", "_law_cells", defArgs sLawCells, defBody sLawCells, defScope sLawCells, [], []⟩
def dLaw : He.DefD := ⟨("law", none), "law", "law", defArgs sLaw, defBody sLaw, defScope sLaw, [], []⟩
def fn : List He.DefD := [dRuleInit, dTableInit, dCopyOfRule, dHasParts, dFits, dFitting, dIsWay, dCellsOfWay, dModesOf, dBestChoice, dBestChoices, dBestWriting, dNumberOfMode, dNumberAt, dMakeNumbers, dHaveLengths, dHoldsAt, dAcceptsNumbers, dShowsBest, dLawDeck, dLawDraw, dLawSide, dLawRule, dLawRules, dLawTable, dLawText, dLawFits, dLawWays, dLawCells, dLaw]
def fa : List He.Fa := [.glo "copy_of_rule", .glo "has_parts", .glo "fits", .glo "fitting", .glo "is_way", .glo "cells_of_way", .glo "modes_of", .glo "best_choice", .glo "best_choices", .glo "best_writing", .glo "number_of_mode", .glo "number_at", .glo "make_numbers", .glo "have_lengths", .glo "holds_at", .glo "accepts_numbers", .glo "shows_best", .glo "_law_deck", .glo "_law_draw", .glo "_law_side", .glo "_law_rule", .glo "_law_rules", .glo "_law_table", .glo "_law_text", .glo "_law_fits", .glo "_law_ways", .glo "_law_cells", .glo "law", .free "all", .free "any", .free "enumerate", .free "int", .free "len", .free "list", .free "max", .free "min", .free "range", .free "set", .free "sorted", .str "BEGINNING" "^", .str "END" "$", .glo "Rule", .cls "Rule", .mkr "Rule", .noat "Rule" "mode", .noat "Rule" "text", .noat "Rule" "cells", .noat "Rule" "to", .noat "Rule" "ahead", .noat "Rule" "behind", .glo "Table", .cls "Table", .mkr "Table", .noat "Table" "signs", .noat "Table" "modes", .noat "Table" "rules"]
def loose0 : List Str := ["BEGINNING", "END", "Rule", "Table", "copy_of_rule", "has_parts", "fits", "fitting", "is_way", "cells_of_way", "modes_of", "best_choice", "best_choices", "best_writing", "number_of_mode", "number_at", "make_numbers", "have_lengths", "holds_at", "accepts_numbers", "shows_best", "_law_deck", "_law_draw", "_law_side", "_law_rule", "_law_rules", "_law_table", "_law_text", "_law_fits", "_law_ways"]
def loose1 : List Str := ["_law_cells"]
abbrev loose : List Str := loose0 ++ loose1
abbrev R : PySem.W.OpenRow := PySem.W.OpenLaw.row PySem.Challenge.rw_sixdot_k11_whole_numbers_show_the_best
abbrev hk : PySem.W.Hook := He.hookD 5 fa fn
def ob (s : PySem.W.SharedT) : He.AlD := He.obsDG 5 fa fn (HandSHeadRun.getT s)
theorem ob_eq (s : PySem.W.SharedT) : ob s = hk.obs s.abs := He.obsDG_eq (HandSHeadRun.getT_eq s)
theorem run (w : World) : HandSHeadRun.RunEq R (PySem.W.view R.prog [35]) hk ob 4000 loose w := by
  intro os
  kernel_rfl
end Sx

set_option Elab.async false
set_option linter.all false
set_option maxRecDepth 100000
set_option maxHeartbeats 4000000
namespace Sx
open PySem PySem.Spec PyProof.Rows L2
/-- what stands behind the top -/
structure T (K : PySem.W.Frag) (mg : Str → Option Value) : Prop where
  c : He.SaysD fa fn K
  g : ∃ h : Heap, K.In h ∧ h.Ns mainGlobals mg
section
variable {K : PySem.W.Frag} {mg : Str → Option Value}

theorem T.g_copy_of_rule (t : T K mg) : mg "copy_of_rule" = some (.ref (He.ga K "copy_of_rule")) := by
  obtain ⟨h, X, G⟩ := t.g
  exact He.glo_ok X G (t.c.fact 0 (f := .glo "copy_of_rule") rfl)
theorem T.g_has_parts (t : T K mg) : mg "has_parts" = some (.ref (He.ga K "has_parts")) := by
  obtain ⟨h, X, G⟩ := t.g
  exact He.glo_ok X G (t.c.fact 1 (f := .glo "has_parts") rfl)
theorem T.g_fits (t : T K mg) : mg "fits" = some (.ref (He.ga K "fits")) := by
  obtain ⟨h, X, G⟩ := t.g
  exact He.glo_ok X G (t.c.fact 2 (f := .glo "fits") rfl)
theorem T.g_fitting (t : T K mg) : mg "fitting" = some (.ref (He.ga K "fitting")) := by
  obtain ⟨h, X, G⟩ := t.g
  exact He.glo_ok X G (t.c.fact 3 (f := .glo "fitting") rfl)
theorem T.g_is_way (t : T K mg) : mg "is_way" = some (.ref (He.ga K "is_way")) := by
  obtain ⟨h, X, G⟩ := t.g
  exact He.glo_ok X G (t.c.fact 4 (f := .glo "is_way") rfl)
theorem T.g_cells_of_way (t : T K mg) : mg "cells_of_way" = some (.ref (He.ga K "cells_of_way")) := by
  obtain ⟨h, X, G⟩ := t.g
  exact He.glo_ok X G (t.c.fact 5 (f := .glo "cells_of_way") rfl)
theorem T.g_modes_of (t : T K mg) : mg "modes_of" = some (.ref (He.ga K "modes_of")) := by
  obtain ⟨h, X, G⟩ := t.g
  exact He.glo_ok X G (t.c.fact 6 (f := .glo "modes_of") rfl)
theorem T.g_best_choice (t : T K mg) : mg "best_choice" = some (.ref (He.ga K "best_choice")) := by
  obtain ⟨h, X, G⟩ := t.g
  exact He.glo_ok X G (t.c.fact 7 (f := .glo "best_choice") rfl)
theorem T.g_best_choices (t : T K mg) : mg "best_choices" = some (.ref (He.ga K "best_choices")) := by
  obtain ⟨h, X, G⟩ := t.g
  exact He.glo_ok X G (t.c.fact 8 (f := .glo "best_choices") rfl)
theorem T.g_best_writing (t : T K mg) : mg "best_writing" = some (.ref (He.ga K "best_writing")) := by
  obtain ⟨h, X, G⟩ := t.g
  exact He.glo_ok X G (t.c.fact 9 (f := .glo "best_writing") rfl)
theorem T.g_number_of_mode (t : T K mg) : mg "number_of_mode" = some (.ref (He.ga K "number_of_mode")) := by
  obtain ⟨h, X, G⟩ := t.g
  exact He.glo_ok X G (t.c.fact 10 (f := .glo "number_of_mode") rfl)
theorem T.g_number_at (t : T K mg) : mg "number_at" = some (.ref (He.ga K "number_at")) := by
  obtain ⟨h, X, G⟩ := t.g
  exact He.glo_ok X G (t.c.fact 11 (f := .glo "number_at") rfl)
theorem T.g_make_numbers (t : T K mg) : mg "make_numbers" = some (.ref (He.ga K "make_numbers")) := by
  obtain ⟨h, X, G⟩ := t.g
  exact He.glo_ok X G (t.c.fact 12 (f := .glo "make_numbers") rfl)
theorem T.g_have_lengths (t : T K mg) : mg "have_lengths" = some (.ref (He.ga K "have_lengths")) := by
  obtain ⟨h, X, G⟩ := t.g
  exact He.glo_ok X G (t.c.fact 13 (f := .glo "have_lengths") rfl)
theorem T.g_holds_at (t : T K mg) : mg "holds_at" = some (.ref (He.ga K "holds_at")) := by
  obtain ⟨h, X, G⟩ := t.g
  exact He.glo_ok X G (t.c.fact 14 (f := .glo "holds_at") rfl)
theorem T.g_accepts_numbers (t : T K mg) : mg "accepts_numbers" = some (.ref (He.ga K "accepts_numbers")) := by
  obtain ⟨h, X, G⟩ := t.g
  exact He.glo_ok X G (t.c.fact 15 (f := .glo "accepts_numbers") rfl)
theorem T.g_shows_best (t : T K mg) : mg "shows_best" = some (.ref (He.ga K "shows_best")) := by
  obtain ⟨h, X, G⟩ := t.g
  exact He.glo_ok X G (t.c.fact 16 (f := .glo "shows_best") rfl)
theorem T.g_law_deck (t : T K mg) : mg "_law_deck" = some (.ref (He.ga K "_law_deck")) := by
  obtain ⟨h, X, G⟩ := t.g
  exact He.glo_ok X G (t.c.fact 17 (f := .glo "_law_deck") rfl)
theorem T.g_law_draw (t : T K mg) : mg "_law_draw" = some (.ref (He.ga K "_law_draw")) := by
  obtain ⟨h, X, G⟩ := t.g
  exact He.glo_ok X G (t.c.fact 18 (f := .glo "_law_draw") rfl)
theorem T.g_law_side (t : T K mg) : mg "_law_side" = some (.ref (He.ga K "_law_side")) := by
  obtain ⟨h, X, G⟩ := t.g
  exact He.glo_ok X G (t.c.fact 19 (f := .glo "_law_side") rfl)
theorem T.g_law_rule (t : T K mg) : mg "_law_rule" = some (.ref (He.ga K "_law_rule")) := by
  obtain ⟨h, X, G⟩ := t.g
  exact He.glo_ok X G (t.c.fact 20 (f := .glo "_law_rule") rfl)
theorem T.g_law_rules (t : T K mg) : mg "_law_rules" = some (.ref (He.ga K "_law_rules")) := by
  obtain ⟨h, X, G⟩ := t.g
  exact He.glo_ok X G (t.c.fact 21 (f := .glo "_law_rules") rfl)
theorem T.g_law_table (t : T K mg) : mg "_law_table" = some (.ref (He.ga K "_law_table")) := by
  obtain ⟨h, X, G⟩ := t.g
  exact He.glo_ok X G (t.c.fact 22 (f := .glo "_law_table") rfl)
theorem T.g_law_text (t : T K mg) : mg "_law_text" = some (.ref (He.ga K "_law_text")) := by
  obtain ⟨h, X, G⟩ := t.g
  exact He.glo_ok X G (t.c.fact 23 (f := .glo "_law_text") rfl)
theorem T.g_law_fits (t : T K mg) : mg "_law_fits" = some (.ref (He.ga K "_law_fits")) := by
  obtain ⟨h, X, G⟩ := t.g
  exact He.glo_ok X G (t.c.fact 24 (f := .glo "_law_fits") rfl)
theorem T.g_law_ways (t : T K mg) : mg "_law_ways" = some (.ref (He.ga K "_law_ways")) := by
  obtain ⟨h, X, G⟩ := t.g
  exact He.glo_ok X G (t.c.fact 25 (f := .glo "_law_ways") rfl)
theorem T.g_law_cells (t : T K mg) : mg "_law_cells" = some (.ref (He.ga K "_law_cells")) := by
  obtain ⟨h, X, G⟩ := t.g
  exact He.glo_ok X G (t.c.fact 26 (f := .glo "_law_cells") rfl)
theorem T.g_law (t : T K mg) : mg "law" = some (.ref (He.ga K "law")) := by
  obtain ⟨h, X, G⟩ := t.g
  exact He.glo_ok X G (t.c.fact 27 (f := .glo "law") rfl)
theorem T.f_all (t : T K mg) : mg "all" = none := by
  obtain ⟨h, X, G⟩ := t.g
  exact He.free_ok X G (t.c.fact 28 (f := .free "all") rfl)
theorem T.f_any (t : T K mg) : mg "any" = none := by
  obtain ⟨h, X, G⟩ := t.g
  exact He.free_ok X G (t.c.fact 29 (f := .free "any") rfl)
theorem T.f_enumerate (t : T K mg) : mg "enumerate" = none := by
  obtain ⟨h, X, G⟩ := t.g
  exact He.free_ok X G (t.c.fact 30 (f := .free "enumerate") rfl)
theorem T.f_int (t : T K mg) : mg "int" = none := by
  obtain ⟨h, X, G⟩ := t.g
  exact He.free_ok X G (t.c.fact 31 (f := .free "int") rfl)
theorem T.f_len (t : T K mg) : mg "len" = none := by
  obtain ⟨h, X, G⟩ := t.g
  exact He.free_ok X G (t.c.fact 32 (f := .free "len") rfl)
theorem T.f_list (t : T K mg) : mg "list" = none := by
  obtain ⟨h, X, G⟩ := t.g
  exact He.free_ok X G (t.c.fact 33 (f := .free "list") rfl)
theorem T.f_max (t : T K mg) : mg "max" = none := by
  obtain ⟨h, X, G⟩ := t.g
  exact He.free_ok X G (t.c.fact 34 (f := .free "max") rfl)
theorem T.f_min (t : T K mg) : mg "min" = none := by
  obtain ⟨h, X, G⟩ := t.g
  exact He.free_ok X G (t.c.fact 35 (f := .free "min") rfl)
theorem T.f_range (t : T K mg) : mg "range" = none := by
  obtain ⟨h, X, G⟩ := t.g
  exact He.free_ok X G (t.c.fact 36 (f := .free "range") rfl)
theorem T.f_set (t : T K mg) : mg "set" = none := by
  obtain ⟨h, X, G⟩ := t.g
  exact He.free_ok X G (t.c.fact 37 (f := .free "set") rfl)
theorem T.f_sorted (t : T K mg) : mg "sorted" = none := by
  obtain ⟨h, X, G⟩ := t.g
  exact He.free_ok X G (t.c.fact 38 (f := .free "sorted") rfl)
theorem T.s_BEGINNING (t : T K mg) : ∃ k, mg "BEGINNING" = some (.str "^" k) := by
  obtain ⟨h, X, G⟩ := t.g
  exact He.str_ok X G (t.c.fact 39 (f := .str "BEGINNING" "^") rfl)
theorem T.s_END (t : T K mg) : ∃ k, mg "END" = some (.str "$" k) := by
  obtain ⟨h, X, G⟩ := t.g
  exact He.str_ok X G (t.c.fact 40 (f := .str "END" "$") rfl)
theorem T.g_Rule (t : T K mg) : mg "Rule" = some (.ref (He.ga K "Rule")) := by
  obtain ⟨h, X, G⟩ := t.g
  exact He.glo_ok X G (t.c.fact 41 (f := .glo "Rule") rfl)
theorem T.c_Rule (t : T K mg) : Cls K (He.ga K "Rule") := He.cls_ok (t.c.fact 42 (f := .cls "Rule") rfl)
theorem T.m_Rule (t : T K mg) : Mk K (He.ga K "Rule") (He.ma K (He.ga K "Rule") "__init__") := He.mkr_ok (t.c.fact 43 (f := .mkr "Rule") rfl)
theorem T.n_Rule_mode (t : T K mg) : NoAttr K (He.ga K "Rule") "mode" := He.noat_ok (t.c.fact 44 (f := .noat "Rule" "mode") rfl)
theorem T.n_Rule_text (t : T K mg) : NoAttr K (He.ga K "Rule") "text" := He.noat_ok (t.c.fact 45 (f := .noat "Rule" "text") rfl)
theorem T.n_Rule_cells (t : T K mg) : NoAttr K (He.ga K "Rule") "cells" := He.noat_ok (t.c.fact 46 (f := .noat "Rule" "cells") rfl)
theorem T.n_Rule_to (t : T K mg) : NoAttr K (He.ga K "Rule") "to" := He.noat_ok (t.c.fact 47 (f := .noat "Rule" "to") rfl)
theorem T.n_Rule_ahead (t : T K mg) : NoAttr K (He.ga K "Rule") "ahead" := He.noat_ok (t.c.fact 48 (f := .noat "Rule" "ahead") rfl)
theorem T.n_Rule_behind (t : T K mg) : NoAttr K (He.ga K "Rule") "behind" := He.noat_ok (t.c.fact 49 (f := .noat "Rule" "behind") rfl)
theorem T.g_Table (t : T K mg) : mg "Table" = some (.ref (He.ga K "Table")) := by
  obtain ⟨h, X, G⟩ := t.g
  exact He.glo_ok X G (t.c.fact 50 (f := .glo "Table") rfl)
theorem T.c_Table (t : T K mg) : Cls K (He.ga K "Table") := He.cls_ok (t.c.fact 51 (f := .cls "Table") rfl)
theorem T.m_Table (t : T K mg) : Mk K (He.ga K "Table") (He.ma K (He.ga K "Table") "__init__") := He.mkr_ok (t.c.fact 52 (f := .mkr "Table") rfl)
theorem T.n_Table_signs (t : T K mg) : NoAttr K (He.ga K "Table") "signs" := He.noat_ok (t.c.fact 53 (f := .noat "Table" "signs") rfl)
theorem T.n_Table_modes (t : T K mg) : NoAttr K (He.ga K "Table") "modes" := He.noat_ok (t.c.fact 54 (f := .noat "Table" "modes") rfl)
theorem T.n_Table_rules (t : T K mg) : NoAttr K (He.ga K "Table") "rules" := He.noat_ok (t.c.fact 55 (f := .noat "Table" "rules") rfl)
theorem T.d_Rule_init (t : T K mg) : ∃ fd, FunD K "__init__" "Rule.__init__" (defArgs sRuleInit) (defBody sRuleInit) (defScope sRuleInit) [] [("ahead", .non), ("behind", .non)] (He.ma K (He.ga K "Rule") "__init__") fd := t.c.def_ 0 (d := dRuleInit) rfl
theorem T.d_Table_init (t : T K mg) : ∃ fd, FunD K "__init__" "Table.__init__" (defArgs sTableInit) (defBody sTableInit) (defScope sTableInit) [] [] (He.ma K (He.ga K "Table") "__init__") fd := t.c.def_ 1 (d := dTableInit) rfl
theorem T.d_copy_of_rule (t : T K mg) : Fd K "copy_of_rule" sCopyOfRule := t.c.def_ 2 (d := dCopyOfRule) rfl
theorem T.d_has_parts (t : T K mg) : Fd K "has_parts" sHasParts := t.c.def_ 3 (d := dHasParts) rfl
theorem T.d_fits (t : T K mg) : Fd K "fits" sFits := t.c.def_ 4 (d := dFits) rfl
theorem T.d_fitting (t : T K mg) : Fd K "fitting" sFitting := t.c.def_ 5 (d := dFitting) rfl
theorem T.d_is_way (t : T K mg) : Fd K "is_way" sIsWay := t.c.def_ 6 (d := dIsWay) rfl
theorem T.d_cells_of_way (t : T K mg) : Fd K "cells_of_way" sCellsOfWay := t.c.def_ 7 (d := dCellsOfWay) rfl
theorem T.d_modes_of (t : T K mg) : Fd K "modes_of" sModesOf := t.c.def_ 8 (d := dModesOf) rfl
theorem T.d_best_choice (t : T K mg) : Fd K "best_choice" sBestChoice := t.c.def_ 9 (d := dBestChoice) rfl
theorem T.d_best_choices (t : T K mg) : Fd K "best_choices" sBestChoices := t.c.def_ 10 (d := dBestChoices) rfl
theorem T.d_best_writing (t : T K mg) : Fd K "best_writing" sBestWriting := t.c.def_ 11 (d := dBestWriting) rfl
theorem T.d_number_of_mode (t : T K mg) : Fd K "number_of_mode" sNumberOfMode := t.c.def_ 12 (d := dNumberOfMode) rfl
theorem T.d_number_at (t : T K mg) : Fd K "number_at" sNumberAt := t.c.def_ 13 (d := dNumberAt) rfl
theorem T.d_make_numbers (t : T K mg) : Fd K "make_numbers" sMakeNumbers := t.c.def_ 14 (d := dMakeNumbers) rfl
theorem T.d_have_lengths (t : T K mg) : Fd K "have_lengths" sHaveLengths := t.c.def_ 15 (d := dHaveLengths) rfl
theorem T.d_holds_at (t : T K mg) : Fd K "holds_at" sHoldsAt := t.c.def_ 16 (d := dHoldsAt) rfl
theorem T.d_accepts_numbers (t : T K mg) : Fd K "accepts_numbers" sAcceptsNumbers := t.c.def_ 17 (d := dAcceptsNumbers) rfl
theorem T.d_shows_best (t : T K mg) : Fd K "shows_best" sShowsBest := t.c.def_ 18 (d := dShowsBest) rfl
theorem T.d_law_deck (t : T K mg) : Fd K "_law_deck" sLawDeck := t.c.def_ 19 (d := dLawDeck) rfl
theorem T.d_law_draw (t : T K mg) : Fd K "_law_draw" sLawDraw := t.c.def_ 20 (d := dLawDraw) rfl
theorem T.d_law_side (t : T K mg) : Fd K "_law_side" sLawSide := t.c.def_ 21 (d := dLawSide) rfl
theorem T.d_law_rule (t : T K mg) : Fd K "_law_rule" sLawRule := t.c.def_ 22 (d := dLawRule) rfl
theorem T.d_law_rules (t : T K mg) : Fd K "_law_rules" sLawRules := t.c.def_ 23 (d := dLawRules) rfl
theorem T.d_law_table (t : T K mg) : Fd K "_law_table" sLawTable := t.c.def_ 24 (d := dLawTable) rfl
theorem T.d_law_text (t : T K mg) : Fd K "_law_text" sLawText := t.c.def_ 25 (d := dLawText) rfl
theorem T.d_law_fits (t : T K mg) : Fd K "_law_fits" sLawFits := t.c.def_ 26 (d := dLawFits) rfl
theorem T.d_law_ways (t : T K mg) : Fd K "_law_ways" sLawWays := t.c.def_ 27 (d := dLawWays) rfl
theorem T.d_law_cells (t : T K mg) : Fd K "_law_cells" sLawCells := t.c.def_ 28 (d := dLawCells) rfl
theorem T.d_law (t : T K mg) : Fd K "law" sLaw := t.c.def_ 29 (d := dLaw) rfl
end
end Sx

set_option Elab.async false
set_option linter.all false
set_option maxRecDepth 100000
set_option maxHeartbeats 1000000
namespace Sx
open PySem PySem.Spec PyProof.Rows L2 SxA
/-! ### a deck: [numbers, place, rest, seed] -/
structure Dk (H : Hp) (d l : Addr) : Prop where
  ex : ∃ (ns : List Int) (a : Nat) (b c : Int), H d = some (.lst [.ref l, .int a, .int b, .int c]) ∧ H l = some (.lst (ns.map V.int)) ∧ l ≠ d
theorem Dk.ne {H : Hp} {d l D : Addr} (h : Dk H d l) (hD : H D = none) : d ≠ D := by
  obtain ⟨ns, a, b, c, e, _⟩ := h.ex
  exact ne_of_none e hD
theorem Dk.neL {H : Hp} {d l D : Addr} (h : Dk H d l) (hD : H D = none) : l ≠ D := by
  obtain ⟨ns, a, b, c, _, e, _⟩ := h.ex
  exact ne_of_none e hD
theorem Dk.same {H H' : Hp} {d l : Addr} (h : Dk H d l) (s : Same H H') : Dk H' d l := by
  obtain ⟨ns, a, b, c, e, e2, n⟩ := h.ex
  exact ⟨ns, a, b, c, s _ _ e, s _ _ e2, n⟩
theorem Dk.upd {H : Hp} {d l D : Addr} {o : HO} (h : Dk H d l) (n1 : d ≠ D) (n2 : l ≠ D) : Dk (L2.upd H D o) d l := by
  obtain ⟨ns, a, b, c, e, e2, n⟩ := h.ex
  exact ⟨ns, a, b, c, by rw [upd_ne n1]; exact e, by rw [upd_ne n2]; exact e2, n⟩
theorem But.new {a : Addr} {H H' : Hp} {p : Addr} {o : HO} (b : But a H H') (hp : H p = Option.none) : But a H (upd H' p o) := fun c u e n => by
  rw [upd_ne (ne_of_none e hp)]
  exact b c u e n
theorem But.same {a : Addr} {H H1 H2 : Hp} (b : But a H H1) (s : Same H1 H2) : But a H H2 := b.trans (But.of s)
/-- the deck with its numbers changed -/
theorem Dk.put {H H' : Hp} {d l : Addr} {ns : List Int} (hl : H l = some (.lst (ns.map V.int))) (n : l ≠ d) (b : But d H H') {a : Nat} {x y : Int} (e : H' d = some (.lst [.ref l, .int a, .int x, .int y])) : Dk H' d l := ⟨ns, a, x, y, e, b _ _ hl n, n⟩
def spDraw : Sp := fun vs H Q _ => ∃ (d l : Addr) (m : Int), vs = [.ref d, .int m] ∧ Dk H d l ∧ 0 < m ∧ m ≤ 100000 ∧ ∀ v H', 0 ≤ v → v < m → Dk H' d l → But d H H' → Q (.int v) H'
def spDeck (K : PySem.W.Frag) : Sp := fun vs H Q _ => ∃ (a : Addr) (ns : List Int), vs = [.ref a] ∧ SqL K H a (ns.map V.int) ∧ ∀ p l H', H p = none → Same H H' → Dk H' p l → Q (.ref p) H'
section
variable {P : Program} {w : World} {K : PySem.W.Frag} {mg : Str → Option Value} {base : Heap}
abbrev nsLawDeck : List Str := ["script"]
theorem scLawDeck : FnScope nsLawDeck ["script"] (defScope sLawDeck) := ⟨rfl, rfl, rfl, by decide +kernel, rfl, by decide +kernel, by decide +kernel⟩
theorem ok_law_deck (t : T K mg) : Ok P w K mg base 1 "_law_deck" ["script"] (spDeck K) := by
  refine mkOk t.d_law_deck t.g_law_deck scLawDeck (fun vs H Q E h => ?_) (fun _ _ _ _ _ _ us hl => match us, hl with | [_], _ => rfl) fun cdv A outer s H vs Q E hr h => ?_
  · obtain ⟨a, ns, rfl, _⟩ := h; rfl
  obtain ⟨a, ns, rfl, hS, k⟩ := h
  refine ⟨_, pss_one (ps_ret (pe_lst (pa_cons (pe_callTy call_list_of rfl t.f_list (by decide +kernel) (pa_cons (pv 0) pa_nil)) (pa_cons pe_int (pa_cons pe_int (pa_cons pe_int pa_nil)))))), ?_⟩
  refine ⟨_, rfl, a, _, rfl, .inl hS, fun l hl => ⟨(by show 4 ≤ sizeLine; decide), fun p hp => ?_⟩⟩
  have hp0 : H p = none := Sx.Same.none (Same.new hl) _ hp
  have nlp : l ≠ p := fun e => by rw [← e, upd_same] at hp; cases hp
  exact k p l _ hp0 (fun b o z => Same.new hp _ _ (Same.new hl _ _ z)) ⟨ns, 0, 0, 7, upd_same, by rw [upd_ne nlp]; exact upd_same, nlp⟩
abbrev nsLawDraw : List Str := ["deck", "most", "value", "cell"]
theorem scLawDraw : FnScope nsLawDraw ["deck", "most"] (defScope sLawDraw) := ⟨rfl, rfl, rfl, by decide +kernel, rfl, by decide +kernel, by decide +kernel⟩
theorem ok_law_draw (t : T K mg) : Ok P w K mg base 1 "_law_draw" ["deck", "most"] spDraw := by
  refine mkOk t.d_law_draw t.g_law_draw scLawDraw (fun vs H Q E h => ?_) (fun _ _ _ _ _ _ us hl => match us, hl with | [_, _], _ => rfl) fun cdv A outer s H vs Q E hr h => ?_
  · obtain ⟨d, l, m, rfl, _⟩ := h; rfl
  obtain ⟨d, l, m, rfl, ⟨ns, a, b, c, hd, hl, nld⟩, m0, m1, k⟩ := h
  refine ⟨_, pss_cons (ps_if (pt_cmpR op_ge (pe_ix ix_list (pv 0) pe_int (fun _ _ => rfl)) (pv 1) (nomark _))
      (pss_cons (ps_set (i := 2) scLawDraw.nd rfl (Or.inl rfl) (pe_op op_mod (pe_callTy call_int1 rfl t.f_int (by decide +kernel) (pa_cons (pe_ix ix_list (pv 0) pe_int (fun _ _ => rfl)) pa_nil)) (pv 1)))
    (pss_cons (ps_asg (pe_op op_fdiv (pe_ix ix_list (pv 0) pe_int (fun _ _ => rfl)) (pv 1)) (pg_sub (pv 0) pe_int set_list))
    (pss_one (ps_ret (pv 2)))))
      pss_nil)
    (pss_cons (ps_set (i := 3) scLawDraw.nd rfl (Or.inl rfl) pe_int)
    (C8.pss_cut (ps_if (pt_cmpR op_lt (pe_ix ix_list (pv 0) pe_int (fun _ _ => rfl)) (pe_callB call_len_seq rfl t.f_len boot_len (pa_cons (pe_ix ix_list (pv 0) pe_int (fun _ _ => rfl)) pa_nil)) (nomark _))
      (pss_one (ps_set (i := 3) scLawDraw.nd rfl (Or.inl rfl) (pe_ix ix_list (pe_ix ix_list (pv 0) pe_int (fun _ _ => rfl)) (pe_ix ix_list (pv 0) pe_int (fun _ _ => rfl)) (fun _ _ => rfl))))
      pss_nil)
    (pss_cons (ps_asg (pe_op op_add (pe_ix ix_list (pv 0) pe_int (fun _ _ => rfl)) pe_int) (pg_sub (pv 0) pe_int set_list))
    (pss_cons (ps_asg pe_int (pg_sub (pv 0) pe_int set_list))
    (pss_cons (ps_if (pt_cmpR op_ge (pv 3) (pe_op op_pow pe_int pe_int) (nomark _))
      (pss_cons (ps_asg (pe_op op_fdiv (pv 3) (pv 1)) (pg_sub (pv 0) pe_int set_list))
    (pss_one (ps_ret (pe_op op_mod (pe_callTy call_int1 rfl t.f_int (by decide +kernel) (pa_cons (pv 3) pa_nil)) (pv 1)))))
      pss_nil)
    (pss_cons (ps_asg (pe_op op_mod (pe_callTy call_int1 rfl t.f_int (by decide +kernel) (pa_cons (pe_op op_add (pe_op op_add (pe_op op_mul (pe_ix ix_list (pv 0) pe_int (fun _ _ => rfl)) pe_int) (pe_op op_mul (pv 3) pe_int)) (pe_op op_mul (pe_ix ix_list (pv 0) pe_int (fun _ _ => rfl)) pe_int)) pa_nil)) pe_int) (pg_sub (pv 0) pe_int set_list))
    (pss_cons (ps_asg (pe_op op_mod (pe_callTy call_int1 rfl t.f_int (by decide +kernel) (pa_cons (pe_op op_add (pe_op op_mul (pe_ix ix_list (pv 0) pe_int (fun _ _ => rfl)) pe_int) pe_int) pa_nil)) pe_int) (pg_sub (pv 0) pe_int set_list))
    (pss_one (ps_ret (pe_op op_mod (pe_callTy call_int1 rfl t.f_int (by decide +kernel) (pa_cons (pe_op op_fdiv (pe_ix ix_list (pv 0) pe_int (fun _ _ => rfl)) pe_int) pa_nil)) (pv 1))))))))))), ?_⟩
  have hS := SqL.of (K := K) hd
  have mle : ∀ z : Int, 0 ≤ z % m ∧ z % m < m := fun z => ⟨Int.emod_nonneg _ (by omega), Int.emod_lt_of_pos _ m0⟩
  refine ⟨_, rfl, d, _, _, .int b, rfl, rfl, hS, atI_nat (j := 2) rfl, _, rfl, _, _, rfl, rfl, _, rfl, ?_⟩
  refine ite2 (fun h1 => ?_) (fun h1 => ?_)
  · refine ⟨_, rfl, d, _, _, .int b, rfl, rfl, hS, atI_nat (j := 2) rfl, .inl ⟨_, rfl, _, rfl, _, _, rfl, rfl, m0, ?_⟩⟩
    refine ⟨_, rfl, d, _, _, .int b, rfl, rfl, hS, atI_nat (j := 2) rfl, _, rfl, _, _, rfl, rfl, ⟨m0, by omega⟩, ?_⟩
    refine ⟨_, rfl, d, _, _, 2, rfl, rfl, hd, rfl, _, rfl, ?_⟩
    exact k _ _ (mle b).1 (mle b).2 (Dk.put hl nld (But.put _ _ _) upd_same) (But.put _ _ _)
  refine ⟨fun σ2 H2 => (∃ z : Int, σ2 = [some (.ref d), some (.int m), none, some (.int z)]) ∧ H2 = H, ?_, ?_⟩
  · refine ⟨_, rfl, d, _, _, .int a, rfl, rfl, hS, atI_nat (j := 1) rfl, _, rfl, d, _, _, .ref l, rfl, rfl, hS, atI_nat (j := 0) rfl, l, _, rfl, .inl (SqL.of hl), _, _, rfl, rfl, _, rfl, ?_⟩
    refine ite2 (fun h2 => ?_) (fun h2 => ⟨⟨_, rfl⟩, rfl⟩)
    have h3 : a < ns.length := by
      have := of_decide_eq_true h2
      rw [List.length_map] at this
      omega
    refine ⟨_, rfl, d, _, _, .ref l, rfl, rfl, hS, atI_nat (j := 0) rfl, _, rfl, d, _, _, .int a, rfl, rfl, hS, atI_nat (j := 1) rfl, l, _, _, .int ns[a], rfl, rfl, SqL.of hl, atI_nat (by rw [List.getElem?_map, List.getElem?_eq_getElem h3]; rfl), ⟨_, rfl⟩, rfl⟩
  rintro σ2 H2 ⟨⟨z, rfl⟩, rfl⟩
  refine ⟨_, rfl, d, _, _, .int a, rfl, rfl, hS, atI_nat (j := 1) rfl, _, _, rfl, rfl, _, rfl, d, _, _, 1, rfl, rfl, hd, rfl, ?_⟩
  refine ⟨_, rfl, d, _, _, 2, rfl, rfl, upd_same, rfl, ?_⟩
  rw [upd_upd]
  refine ⟨_, rfl, _, _, rfl, rfl, ⟨by decide, by decide⟩, _, _, rfl, rfl, _, rfl, ?_⟩
  have b1 : ∀ o, But d H2 (upd H2 d o) := fun o => But.put _ _ _
  refine ite2 (fun h2 => ?_) (fun h2 => ?_)
  · refine ⟨_, rfl, _, rfl, _, _, rfl, rfl, ⟨m0, by omega⟩, _, rfl, d, _, _, 2, rfl, rfl, upd_same, rfl, ?_⟩
    rw [upd_upd]
    refine ⟨_, rfl, .inl ⟨_, rfl, _, rfl, _, _, rfl, rfl, m0, ?_⟩⟩
    exact k _ _ (mle z).1 (mle z).2 (Dk.put (a := a + 1) hl nld (b1 _) upd_same) (b1 _)
  refine ⟨_, rfl, d, _, _, .int c, rfl, rfl, SqL.of upd_same, atI_nat (j := 3) rfl, _, _, rfl, rfl, .inr (by decide), _, rfl, _, _, rfl, rfl, .inr (by decide), _, _, rfl, rfl, _, rfl, d, _, _, .int ((a : Int) + 1), rfl, rfl, SqL.of upd_same, atI_nat (j := 1) rfl, _, _, rfl, rfl, .inr (by decide), _, _, rfl, rfl, .inl ⟨_, rfl, ?_⟩⟩
  refine ⟨_, _, rfl, rfl, (by show (0 : Int) < 2147483647; decide), _, rfl, d, _, _, 3, rfl, rfl, upd_same, rfl, ?_⟩
  rw [upd_upd]
  refine ⟨_, rfl, d, _, _, .int _, rfl, rfl, SqL.of upd_same, atI_nat (j := 3) rfl, _, _, rfl, rfl, .inr (by decide), _, _, rfl, rfl, .inl ⟨_, rfl, ?_⟩⟩
  refine ⟨_, _, rfl, rfl, (by show (0 : Int) < 2147483647; decide), _, rfl, d, _, _, 3, rfl, rfl, upd_same, rfl, ?_⟩
  rw [upd_upd]
  refine ⟨_, rfl, d, _, _, .int _, rfl, rfl, SqL.of upd_same, atI_nat (j := 3) rfl, _, _, rfl, rfl, ⟨by decide, by decide⟩, .inl ⟨_, rfl, _, rfl, _, _, rfl, rfl, m0, ?_⟩⟩
  exact k _ _ (mle _).1 (mle _).2 (Dk.put (a := a + 1) hl nld (b1 _) upd_same) (b1 _)
end
end Sx

set_option Elab.async false
set_option linter.all false
set_option maxRecDepth 100000
set_option maxHeartbeats 1000000
namespace Sx
open PySem PySem.Spec PyProof.Rows L2 SxA
/-! ### Rule, Table -/
def oV : Option Str → V
  | none => .non
  | some t => .str t
structure RD where
  mode : Int
  text : Str
  cells : List Int
  to : Int
  ahead : Option Str
  behind : Option Str
deriving DecidableEq
structure TD where
  signs : Str
  modes : Int
  rules : List RD
deriving DecidableEq
def ruleF (r : RD) (l : Addr) : List (Str × V) := [("mode", .int r.mode), ("text", .str r.text), ("cells", .ref l), ("to", .int r.to), ("ahead", oV r.ahead), ("behind", oV r.behind)]
def tableF (d : TD) (l : Addr) : List (Str × V) := [("signs", .str d.signs), ("modes", .int d.modes), ("rules", .ref l)]
def RuleO (K : PySem.W.Frag) (H : Hp) (v : V) (r : RD) : Prop := ∃ x dx l, v = .ref x ∧ H x = some (.ins (He.ga K "Rule") dx (ruleF r l)) ∧ H l = some (.lst (r.cells.map V.int))
def RulesL (K : PySem.W.Frag) (H : Hp) (l : Addr) (rs : List RD) : Prop := ∃ vs, H l = some (.lst vs) ∧ vs.length = rs.length ∧ ∀ (i : Nat) v r, vs[i]? = some v → rs[i]? = some r → RuleO K H v r
def TableO (K : PySem.W.Frag) (H : Hp) (v : V) (d : TD) : Prop := ∃ x dx l, v = .ref x ∧ H x = some (.ins (He.ga K "Table") dx (tableF d l)) ∧ RulesL K H l d.rules
theorem RuleO.same {K : PySem.W.Frag} {H H' : Hp} {v : V} {r : RD} (h : RuleO K H v r) (s : Same H H') : RuleO K H' v r := by
  obtain ⟨x, dx, l, e, h1, h2⟩ := h
  exact ⟨x, dx, l, e, s _ _ h1, s _ _ h2⟩
theorem RulesL.same {K : PySem.W.Frag} {H H' : Hp} {l : Addr} {rs : List RD} (h : RulesL K H l rs) (s : Same H H') : RulesL K H' l rs := by
  obtain ⟨vs, h1, h2, h3⟩ := h
  exact ⟨vs, s _ _ h1, h2, fun i v r a b => (h3 i v r a b).same s⟩
theorem TableO.same {K : PySem.W.Frag} {H H' : Hp} {v : V} {d : TD} (h : TableO K H v d) (s : Same H H') : TableO K H' v d := by
  obtain ⟨x, dx, l, e, h1, h2⟩ := h
  exact ⟨x, dx, l, e, s _ _ h1, h2.same s⟩
/-! ### promises -/
def spRule (K : PySem.W.Frag) : Sp := fun vs H Q _ => ∃ (p dx c : Addr) (r : RD), vs = [.ref p, .int r.mode, .str r.text, .ref c, .int r.to, oV r.ahead, oV r.behind] ∧ H p = some (.ins (He.ga K "Rule") dx []) ∧ SqL K H c (r.cells.map V.int) ∧
  ∀ H' l, H l = none → H' p = some (.ins (He.ga K "Rule") dx (ruleF r l)) → H' l = some (.lst (r.cells.map V.int)) → (∀ b o, H b = some o → b ≠ p → H' b = some o) → Q .non H'
def spCopy (K : PySem.W.Frag) : Sp := fun vs H Q _ => ∃ (v : V) (r : RD), vs = [v] ∧ RuleO K H v r ∧ ∀ v' H', Same H H' → RuleO K (fresh H H') v' r → Q v' H'
def spTable (K : PySem.W.Frag) : Sp := fun vs H Q _ => ∃ (p dx l : Addr) (d : TD), vs = [.ref p, .str d.signs, .int d.modes, .ref l] ∧ H p = some (.ins (He.ga K "Table") dx []) ∧ RulesL K H l d.rules ∧ d.rules.length ≤ 4000 ∧
  ∀ H' l', H l' = none → H' p = some (.ins (He.ga K "Table") dx (tableF d l')) → RulesL K (fresh H H') l' d.rules → (∀ b o, H b = some o → b ≠ p → H' b = some o) → Q .non H'
/-! ### Rule.__init__ -/
section
variable {P : Program} {w : World} {K : PySem.W.Frag} {mg : Str → Option Value} {base : Heap}
abbrev psRule : List Str := ["self", "mode", "text", "cells", "to", "ahead", "behind"]
/-- Rule(..), by a call with and without its keywords -/
def OkRule (P : Program) (w : World) (K : PySem.W.Frag) (mg : Str → Option Value) (base : Heap) : Prop :=
  ∃ fd, FnOk P w K mg base CX0 1 (He.ma K (He.ga K "Rule") "__init__") fd psRule (spRule K) ∧ (∃ ds, Vals [V.non, V.non] ds ∧ Binds K fd psRule ds) ∧ KBn K fd psRule 5 ["ahead", "behind"] (fun us ws => us ++ ws) (fun vs zs => vs ++ zs)
theorem scRule : FnScope psRule psRule (defScope sRuleInit) := ⟨rfl, rfl, rfl, by decide +kernel, rfl, by decide +kernel, by decide +kernel⟩
theorem ruleF_put (r : RD) (l : Addr) : putF "behind" (oV r.behind) (putF "ahead" (oV r.ahead) (putF "to" (.int r.to) (putF "cells" (.ref l) (putF "text" (.str r.text) (putF "mode" (.int r.mode) []))))) = ruleF r l := by
  rw [put_new "mode" _ [] (by simp), put_new "text" _ _ (by simp only [List.nil_append, List.mem_cons, List.not_mem_nil, or_false, forall_eq]; decide +kernel)]
  rw [put_new "cells" _ _ (by simp only [List.nil_append, List.cons_append, List.mem_cons, List.not_mem_nil, or_false, forall_eq_or_imp, forall_eq]; decide +kernel)]
  rw [put_new "to" _ _ (by simp only [List.nil_append, List.cons_append, List.mem_cons, List.not_mem_nil, or_false, forall_eq_or_imp, forall_eq]; decide +kernel)]
  rw [put_new "ahead" _ _ (by simp only [List.nil_append, List.cons_append, List.mem_cons, List.not_mem_nil, or_false, forall_eq_or_imp, forall_eq]; decide +kernel)]
  rw [put_new "behind" _ _ (by simp only [List.nil_append, List.cons_append, List.mem_cons, List.not_mem_nil, or_false, forall_eq_or_imp, forall_eq]; decide +kernel)]
  rfl
theorem ok_rule (t : T K mg) : OkRule P w K mg base := by
  obtain ⟨fd, F⟩ := t.d_Rule_init
  refine ⟨fd, F.ok scRule (fun vs H Q E h => ?_) (fun cdv A outer s H vs Q E hr h => ?_), ?_, ?_⟩
  · obtain ⟨p, dx, c, r, rfl, _⟩ := h; rfl
  · obtain ⟨p, dx, c, r, rfl, hp, hS, k⟩ := h
    refine ⟨_, PSs.nox (pss_cons (ps_fld (pv 0) (pv 1) rfl) (pss_cons (ps_fld (pv 0) (pv 2) rfl) (pss_cons (ps_fld (pv 0) (pe_callTy call_list_of rfl t.f_list (by decide +kernel) (pa_cons (pv 3) pa_nil)) rfl)
      (pss_cons (ps_fld (pv 0) (pv 4) rfl) (pss_cons (ps_fld (pv 0) (pv 5) rfl) (pss_one (ps_fld (pv 0) (pv 6) rfl))))))), ?_⟩
    have l0 : ([] : List (Str × V)).length ≤ 0 := Nat.le_refl _
    refine ⟨_, rfl, _, rfl, p, _, dx, [], rfl, hp, t.c_Rule, t.n_Rule_mode, (by decide), ?_⟩
    refine ⟨_, rfl, _, rfl, p, _, dx, _, rfl, upd_same, t.c_Rule, t.n_Rule_text, (Nat.lt_of_le_of_lt (len_put_lt l0) (by decide)), ?_⟩
    have hS' : SqL K (upd (upd H p (.ins (He.ga K "Rule") dx (putF "mode" (V.int r.mode) []))) p (.ins (He.ga K "Rule") dx (putF "text" (V.str r.text) (putF "mode" (V.int r.mode) [])))) c (r.cells.map V.int) := by
      rcases hS with (h | ⟨o, h⟩) | h
      · have e := ne_of h hp (by intro z; cases z)
        exact .inl (.inl (by rw [upd_ne e, upd_ne e]; exact h))
      · have e := ne_of h hp (by intro z; cases z)
        exact .inl (.inr ⟨o, by rw [upd_ne e, upd_ne e]; exact h⟩)
      · exact .inr h
    refine ⟨_, rfl, c, _, rfl, .inl hS', fun l hl => ?_⟩
    have npl : p ≠ l := fun e => by
      rw [e, upd_same] at hl
      cases hl
    have hl0 : H l = none := by
      rw [upd_ne npl.symm, upd_ne npl.symm] at hl
      exact hl
    refine ⟨_, rfl, p, _, dx, _, rfl, (by rw [upd_ne npl]; exact upd_same), t.c_Rule, t.n_Rule_cells, (Nat.lt_of_le_of_lt (len_put_lt (len_put_lt l0)) (by decide)), ?_⟩
    refine ⟨_, rfl, _, rfl, p, _, dx, _, rfl, upd_same, t.c_Rule, t.n_Rule_to, (Nat.lt_of_le_of_lt (len_put_lt (len_put_lt (len_put_lt l0))) (by decide)), ?_⟩
    refine ⟨_, rfl, _, rfl, p, _, dx, _, rfl, upd_same, t.c_Rule, t.n_Rule_ahead, (Nat.lt_of_le_of_lt (len_put_lt (len_put_lt (len_put_lt (len_put_lt l0)))) (by decide)), ?_⟩
    refine ⟨_, rfl, _, rfl, p, _, dx, _, rfl, upd_same, t.c_Rule, t.n_Rule_behind, (Nat.lt_of_le_of_lt (len_put_lt (len_put_lt (len_put_lt (len_put_lt (len_put_lt l0))))) (by decide)), ?_⟩
    refine k _ l hl0 (Eq.trans upd_same (congrArg (fun q => some (HO.ins _ dx q)) (ruleF_put r l))) ?_ fun b o e hb => ?_
    · rw [upd_ne npl.symm, upd_ne npl.symm, upd_ne npl.symm, upd_ne npl.symm, upd_same]
    · rw [upd_ne hb, upd_ne hb, upd_ne hb, upd_ne hb, upd_ne (ne_of_none e hl0), upd_ne hb, upd_ne hb]
      exact e
  · exact F.binds0 5 (by simp) rfl fun D doc pm an cdv ct us ks h1 h2 => match us, h1, ks, h2 with
      | [_, _, _, _, _], _, [_, _], _ => ⟨_, _, _, _, _, _, rfl, rfl, _, _, _, _, _, _, rfl, rfl, rfl⟩
  · obtain ⟨mv, hk⟩ := F.kbinds0 (ps := psRule) 5 ["ahead", "behind"] [] (fun us mv ws => us ++ ws) (by simp) (fun q hq => by cases hq) (fun r1 r2 r3 => r1.append r3) fun D doc pm an cdv ct us mv ws h1 h2 h3 => match us, h1, mv, h2, ws, h3 with
      | [_, _, _, _, _], _, [], _, [_, _], _ => by
        show bindArgs _ _ = pure _
        rfl
    exact hk
/-! ### attributes looked up -/
theorem lk_mode (r : RD) (l : Addr) : (ruleF r l).lookup ("mode" : Str) = some (.int r.mode) := rfl
theorem lk_text (r : RD) (l : Addr) : (ruleF r l).lookup ("text" : Str) = some (.str r.text) := rfl
theorem lk_cells (r : RD) (l : Addr) : (ruleF r l).lookup ("cells" : Str) = some (.ref l) := rfl
theorem lk_to (r : RD) (l : Addr) : (ruleF r l).lookup ("to" : Str) = some (.int r.to) := rfl
theorem lk_ahead (r : RD) (l : Addr) : (ruleF r l).lookup ("ahead" : Str) = some (oV r.ahead) := rfl
theorem lk_behind (r : RD) (l : Addr) : (ruleF r l).lookup ("behind" : Str) = some (oV r.behind) := rfl
theorem lk_signs (d : TD) (l : Addr) : (tableF d l).lookup ("signs" : Str) = some (.str d.signs) := rfl
theorem lk_modes (d : TD) (l : Addr) : (tableF d l).lookup ("modes" : Str) = some (.int d.modes) := rfl
theorem lk_rules (d : TD) (l : Addr) : (tableF d l).lookup ("rules" : Str) = some (.ref l) := rfl

/-! ### copy_of_rule, Table.__init__ -/
theorem scCopy : FnScope ["rule"] ["rule"] (defScope sCopyOfRule) := ⟨rfl, rfl, rfl, by decide +kernel, rfl, by decide +kernel, by decide +kernel⟩
theorem ok_copy (t : T K mg) : Ok P w K mg base 3 "copy_of_rule" ["rule"] (spCopy K) := by
  obtain ⟨fd, F, _, kb⟩ := ok_rule (P := P) (w := w) (base := base) t
  refine mkOk t.d_copy_of_rule t.g_copy_of_rule scCopy (fun vs H Q E h => ?_) (fun _ _ _ _ _ _ us hl => match us, hl with | [_], _ => rfl) fun cdv A outer s H vs Q E hr h => ?_
  · obtain ⟨v, r, rfl, _⟩ := h; rfl
  obtain ⟨v, r, rfl, ⟨x, dx, l, rfl, hx, hl⟩, k⟩ := h
  refine ⟨_, pss_one (ps_ret (pe_makeK (n := 4) (ks := ["ahead", "behind"]) t.m_Rule F hr rfl t.g_Rule kb pass0 (pa_cons (pe_fld (pv 0) rfl) (pa_cons (pe_fld (pv 0) rfl) (pa_cons (pe_fld (pv 0) rfl) (pa_cons (pe_fld (pv 0) rfl) pa_nil)))) (pk_cons (pe_fld (pv 0) rfl) (pk_cons (pe_fld (pv 0) rfl) pk_nil)))), ?_⟩
  refine ⟨_, rfl, x, _, dx, _, _, rfl, hx, t.c_Rule, t.n_Rule_mode, lk_mode _ _, ?_⟩
  refine ⟨_, rfl, x, _, dx, _, _, rfl, hx, t.c_Rule, t.n_Rule_text, lk_text _ _, ?_⟩
  refine ⟨_, rfl, x, _, dx, _, _, rfl, hx, t.c_Rule, t.n_Rule_cells, lk_cells _ _, ?_⟩
  refine ⟨_, rfl, x, _, dx, _, _, rfl, hx, t.c_Rule, t.n_Rule_to, lk_to _ _, ?_⟩
  refine ⟨_, rfl, x, _, dx, _, _, rfl, hx, t.c_Rule, t.n_Rule_ahead, lk_ahead _ _, ?_⟩
  refine ⟨_, rfl, x, _, dx, _, _, rfl, hx, t.c_Rule, t.n_Rule_behind, lk_behind _ _, ?_⟩
  refine ⟨rfl, rfl, fun y dy hy hdy ney => ?_⟩
  have s1 : Same H (upd (upd H dy (.own y)) y (.ins (He.ga K "Rule") dy [])) := fun b o e => by
    rw [upd_ne (ne_of_none e hy), upd_ne (ne_of_none e hdy)]
    exact e
  refine ⟨y, dy, l, r, rfl, upd_same, SqL.of (s1 _ _ hl), fun H' l' hl' h1 h2 fr => ⟨rfl, ?_⟩⟩
  have s2 : Same H H' := Same.made hy hdy fr
  refine k _ H' s2 ⟨y, dy, l', rfl, ?_, ?_⟩
  · rw [fresh_of hy]; exact h1
  · rw [fresh_of (Sx.Same.none s1 _ hl')]; exact h2
abbrev psTable : List Str := ["self", "signs", "modes", "rules"]
abbrev nsTable : List Str := ["self", "signs", "modes", "rules", "rule"]
theorem scTable : FnScope nsTable psTable (defScope sTableInit) := ⟨rfl, rfl, rfl, by decide +kernel, rfl, by decide +kernel, by decide +kernel⟩
def OkTable (P : Program) (w : World) (K : PySem.W.Frag) (mg : Str → Option Value) (base : Heap) : Prop :=
  ∃ fd, FnOk P w K mg base CX0 4 (He.ma K (He.ga K "Table") "__init__") fd psTable (spTable K) ∧ Binds K fd psTable []
theorem tableF_put (d : TD) (l : Addr) : putF "rules" (.ref l) (putF "modes" (.int d.modes) (putF "signs" (.str d.signs) [])) = tableF d l := by
  rw [put_new "signs" _ [] (by simp), put_new "modes" _ _ (by simp only [List.nil_append, List.mem_cons, List.not_mem_nil, or_false, forall_eq]; decide +kernel)]
  rw [put_new "rules" _ _ (by simp only [List.nil_append, List.cons_append, List.mem_cons, List.not_mem_nil, or_false, forall_eq_or_imp, forall_eq]; decide +kernel)]
  rfl
theorem ok_table (t : T K mg) : OkTable P w K mg base := by
  obtain ⟨fd, F⟩ := t.d_Table_init
  refine ⟨fd, F.ok scTable (fun vs H Q E h => ?_) (fun cdv A outer s H vs Q E hr h => ?_), F.bindsN fun _ _ _ _ _ _ us hl => match us, hl with | [_, _, _, _], _ => rfl⟩
  · obtain ⟨p, dx, l, d, rfl, _⟩ := h; rfl
  obtain ⟨p, dx, l, d, rfl, hp, ⟨vs, hl, hlen, hr0⟩, hsz, k⟩ := h
  refine ⟨_, PSs.nox (pss_cons (ps_fld (pv 0) (pv 1) rfl) (pss_cons (ps_fld (pv 0) (pv 2) rfl) (pss_one (ps_fld (pv 0)
    (pe_lc (own := [("rule", 4)]) (g := gName 4) (tt := tYes) rfl scTable.nd (pi_list (pv 3)) (blkOk_by (own := [("rule", 4)]) (N := nsTable) (sc := defScope sTableInit) (by decide +kernel)) (fun _ _ _ _ _ => pg_name (i := 4) scTable.nd rfl (Or.inl rfl)) (fun _ _ _ _ _ => pts_nil)
      (fun _ _ _ _ _ => pe_ok (ok_copy t) hr rfl (pa_cons (pv 4) pa_nil))) rfl)))), ?_⟩
  have l0 : ([] : List (Str × V)).length ≤ 0 := Nat.le_refl _
  refine ⟨_, rfl, _, rfl, p, _, dx, [], rfl, hp, t.c_Table, t.n_Table_signs, (by decide), ?_⟩
  refine ⟨_, rfl, _, rfl, p, _, dx, _, rfl, upd_same, t.c_Table, t.n_Table_modes, (Nat.lt_of_le_of_lt (len_put_lt l0) (by decide)), ?_⟩
  generalize hH2 : upd (upd H p (.ins (He.ga K "Table") dx (putF "signs" (V.str d.signs) []))) p (.ins (He.ga K "Table") dx (putF "modes" (V.int d.modes) (putF "signs" (V.str d.signs) []))) = H2
  have f2 : ∀ b, b ≠ p → H2 b = H b := fun b hb => by rw [← hH2, upd_ne hb, upd_ne hb]
  have p2 : H2 p = some (.ins (He.ga K "Table") dx (putF "modes" (V.int d.modes) (putF "signs" (V.str d.signs) []))) := by rw [← hH2]; exact upd_same
  have nl : l ≠ p := ne_of hl hp (by intro z; cases z)
  have hl2 : H2 l = some (.lst vs) := by rw [f2 _ nl]; exact hl
  have hr2 : ∀ (i : Nat) v r, vs[i]? = some v → d.rules[i]? = some r → RuleO K H2 v r := fun i v r a b => by
    obtain ⟨x, dy, m, e, h1, h2⟩ := hr0 i v r a b
    refine ⟨x, dy, m, e, ?_, ?_⟩
    · rw [f2 x fun q => ?_]
      · exact h1
      · rw [q, hp] at h1
        have e2 := HO.ins.inj (Option.some.inj h1)
        have e3 := congrArg List.length e2.2.2
        simp [ruleF] at e3
    · rw [f2 m (ne_of h2 hp (by intro z; cases z))]
      exact h2
  refine ⟨_, rfl, l, rfl, ⟨_, SqL.of hl2⟩, fun D hD => ?_⟩
  have hlen' : vs.length ≤ sizeLine := by rw [hlen]; exact small4 hsz
  refine lc_rel (K := K) (fun i v G => ∃ r, d.rules[i]? = some r ∧ RuleO K G v r) (fun i v G G' ⟨r, e, o⟩ s => ⟨r, e, o.same s⟩) hD (SqL.of hl2) hlen' (fun _ => rfl) (fun i x H3 Q3 acc hx sm hacc k3 => ?_) (fun H3 ys sm hD3 hly hry => ?_)
  · have li : i < d.rules.length := by rw [← hlen]; exact (List.getElem?_eq_some_iff.mp hx).1
    have hri : d.rules[i]? = some d.rules[i] := List.getElem?_eq_getElem li
    exact ⟨_, rfl, x, d.rules[i], rfl, (hr2 i x _ hx hri).same sm, fun v' H' s' o' => k3 v' H' s' ⟨_, hri, o'⟩⟩
  · have hp3 := sm _ _ p2
    have npD : p ≠ D := ne_of_none p2 hD
    refine ⟨_, rfl, p, _, dx, _, rfl, hp3, t.c_Table, t.n_Table_rules, (Nat.lt_of_le_of_lt (len_put_lt (len_put_lt l0)) (by decide)), ?_⟩
    have hD0 : H D = none := by rw [← f2 D npD.symm]; exact hD
    refine k _ D hD0 (Eq.trans upd_same (congrArg (fun q => some (HO.ins _ dx q)) (tableF_put d D))) ⟨ys, ?_, by rw [hly, hlen], fun i v r a b => ?_⟩ fun b o e hb => ?_
    · rw [fresh_of hD0, upd_ne npD.symm]; exact hD3
    · obtain ⟨r', e', o'⟩ := hry i v a
      obtain rfl : r' = r := Option.some.inj (e'.symm.trans b)
      refine o'.same fun c o e => ?_
      obtain ⟨h1, h2⟩ := fresh_some e
      obtain ⟨h3, h4⟩ := off_some h2
      have hc : c ≠ p := fun q => by rw [q, p2] at h1; cases h1
      rw [fresh_of (by rw [← f2 c hc]; exact h1), upd_ne hc]
      exact h4
    · rw [upd_ne hb]
      exact sm _ _ (by rw [f2 b hb]; exact e)
end
end Sx

set_option Elab.async false
set_option linter.all false
set_option maxRecDepth 100000
set_option maxHeartbeats 1000000
namespace Sx
open PySem PySem.Spec PyProof.Rows L2 SxA
def inB (i j : Str) : Bool := !(Builtin.Str.occurrences j i 0 j.length 1).isEmpty
def chS (z : Str) (i : Nat) : Str := match z.cps.toList[i]? with
  | some c => ⟨#[c]⟩
  | none => Str.empty
def befS (z : Str) (p : Nat) : Str := if 0 < p then chS z (p - 1) else Str.ofString "^"
def aftS (z : Str) (e : Nat) : Str := if e < z.length then chS z e else Str.ofString "$"
def nearOk : Option Str → Str → Bool
  | none, _ => true
  | some o, c => inB c o
def slicB (r : RD) (z : Str) (p : Nat) : Bool := decide (V.str (cutS z (some (p : Int)) (some ((p : Int) + (r.text.length : Int)))) = V.str r.text)
def fitsB (r : RD) (z : Str) (p : Nat) : Bool := slicB r z p && (nearOk r.ahead (befS z p) && nearOk r.behind (aftS z (p + r.text.length)))
/-- a rule as it is drawn -/
structure RD.ok (r : RD) : Prop where
  t0 : r.text ≠ Str.ofString ""
  tl : 0 < r.text.length ∧ r.text.length ≤ 100
  c0 : r.cells ≠ []
  cl : r.cells.length ≤ 100
theorem cutS_len (z : Str) (p q : Nat) : (cutS z (some (p : Int)) (some (q : Int))).length = min (min q z.length - min p z.length) (z.length - min p z.length) := by
  unfold cutS Str.length
  rw [HT.sIx_nat, HT.sIx_nat]
  simp
theorem slic_le {r : RD} {z : Str} {p : Nat} (ro : r.ok) (pz : p ≤ z.length) (h : slicB r z p = true) : p + r.text.length ≤ z.length := by
  unfold slicB at h
  have e := V.str.inj (of_decide_eq_true h)
  have e2 : (cutS z (some (p : Int)) (some ((p + r.text.length : Nat) : Int))).length = r.text.length := by
    rw [Int.natCast_add]
    exact congrArg Str.length e
  rw [cutS_len] at e2
  have := ro.tl
  omega
def spHasParts (K : PySem.W.Frag) : Sp := fun vs H Q _ => ∃ (v : V) (r : RD), vs = [v] ∧ RuleO K H v r ∧ r.ok ∧ ∀ H', Same H H' → Q (.bl true) H'
def spFits (K : PySem.W.Frag) : Sp := fun vs H Q _ => ∃ (v : V) (r : RD) (z : Str) (p : Nat), vs = [v, .str z, .int (p : Int)] ∧ RuleO K H v r ∧ r.ok ∧ z.length ≤ 1000 ∧ p ≤ z.length ∧ ∀ H', Same H H' → Q (.bl (fitsB r z p)) H'
theorem cells_ne {r : RD} (h : r.ok) : PyData.eqv (pInts r.cells) (pInts []) = false := by
  rw [eqv_ints]
  exact decide_eq_false h.c0
section
variable {P : Program} {w : World} {K : PySem.W.Frag} {mg : Str → Option Value} {base : Heap}
abbrev nsHasParts : List Str := ["rule"]
theorem scHasParts : FnScope nsHasParts ["rule"] (defScope sHasParts) := ⟨rfl, rfl, rfl, by decide +kernel, rfl, by decide +kernel, by decide +kernel⟩
theorem ok_has_parts (t : T K mg) : Ok P w K mg base 1 "has_parts" ["rule"] (spHasParts K) := by
  refine mkOk t.d_has_parts t.g_has_parts scHasParts (fun vs H Q E h => ?_) (fun _ _ _ _ _ _ us hl => match us, hl with | [_], _ => rfl) fun cdv A outer s H vs Q E hr h => ?_
  · obtain ⟨v, r, rfl, _⟩ := h; rfl
  obtain ⟨v, r, rfl, ⟨x, dx, l, rfl, hx, hl⟩, ro, k⟩ := h
  refine ⟨_, pss_one (ps_ret (pe_and (pe_cmpR op_ne (pe_fld (pv 0) rfl) pe_str (nomark _)) (pe_one (pe_cmpR (op_neD (hu64 hr)) (pe_fld (pv 0) rfl) (pe_lst pa_nil) (nomark _))))), ?_⟩
  refine ⟨_, rfl, x, _, dx, _, _, rfl, hx, t.c_Rule, t.n_Rule_text, lk_text _ _, ?_⟩
  have n1 : (!decide (V.str r.text = V.str (Str.ofString ""))) = true := by
    rw [decide_eq_false fun e => ro.t0 (V.str.inj e)]
    rfl
  refine ⟨rfl, _, rfl, ?_⟩
  rw [n1]
  refine iteT ?_
  refine ⟨_, rfl, x, _, dx, _, _, rfl, hx, t.c_Rule, t.n_Rule_cells, lk_cells _ _, ?_⟩
  refine ⟨(by show 0 ≤ sizeLine; decide), fun D hD => ?_⟩
  have s1 : Same H (upd H D (.lst [])) := Same.new hD
  refine ⟨pInts r.cells, pInts [], dp_ints (SqL.of (s1 _ _ hl)), dp_ints (SqL.of upd_same), shaped_ints _, shaped_ints _, ?_⟩
  rw [cells_ne ro]
  exact k _ s1
abbrev nsFits : List Str := ["rule", "text", "place", "end", "before", "after"]
theorem scFits : FnScope nsFits ["rule", "text", "place"] (defScope sFits) := ⟨rfl, rfl, rfl, by decide +kernel, rfl, by decide +kernel, by decide +kernel⟩
theorem ok_fits (t : T K mg) : Ok P w K mg base 2 "fits" ["rule", "text", "place"] (spFits K) := by
  refine mkOk t.d_fits t.g_fits scFits (fun vs H Q E h => ?_) (fun _ _ _ _ _ _ us hl => match us, hl with | [_, _, _], _ => rfl) fun cdv A outer s H vs Q E hr h => ?_
  · obtain ⟨v, r, z, p, rfl, _⟩ := h; rfl
  obtain ⟨v, r, z, p, rfl, ⟨x, dx, l, rfl, hx, hl⟩, ro, zl, pz, k⟩ := h
  have hr1 : Room 1 _ := hr.mono (by decide)
  obtain ⟨_, hk_BEGINNING⟩ := t.s_BEGINNING
  obtain ⟨_, hk_END⟩ := t.s_END
  refine ⟨_, pss_cons (ps_set (i := 3) scFits.nd rfl (Or.inl rfl) (pe_op op_add (pv 2) (pe_callB call_len_str rfl t.f_len boot_len (pa_cons (pe_fld (pv 0) rfl) pa_nil))))
    (pss_cons (ps_if (PW.pt (pw_or (pt_cmpR op_lt (pv 2) pe_int (nomark _)) (pw_or (pt_cmpR op_ne (pe_slice sl_str (pv 1) (po_some (pv 2)) (po_some (pv 3))) (pe_fld (pv 0) rfl) (nomark _)) (pw_or1 (pt_not (pt_val (pe_ok (ok_has_parts t) hr1 rfl (pa_cons (pv 0) pa_nil))))))))
      (pss_one (ps_ret pe_bl))
      pss_nil)
    (C8.pss_cut (ps_set (i := 4) scFits.nd rfl (Or.inl rfl) (pe_ifExp (pt_cmpR op_gt (pv 2) pe_int (nomark _)) (pe_ix ix_str (pv 1) (pe_op op_sub (pv 2) pe_int) (fun _ _ => rfl)) (pgs rfl hk_BEGINNING)))
    (C8.pss_cut (ps_set (i := 5) scFits.nd rfl (Or.inl rfl) (pe_ifExp (pt_cmpR op_lt (pv 3) (pe_callB call_len_str rfl t.f_len boot_len (pa_cons (pv 1) pa_nil)) (nomark _)) (pe_ix ix_str (pv 1) (pv 3) (fun _ _ => rfl)) (pgs rfl hk_END)))
    (pss_one (ps_ret (pe_and (pe_or (pe_cmpR op_isN (pe_fld (pv 0) rfl) pe_non (nomark _)) (pe_one (pe_cmpR op_in_str (pv 4) (pe_fld (pv 0) rfl) (by rfl)))) (pe_one (pe_or (pe_cmpR op_isN (pe_fld (pv 0) rfl) pe_non (nomark _)) (pe_one (pe_cmpR op_in_str (pv 5) (pe_fld (pv 0) rfl) (by rfl))))))))))), ?_⟩
  refine ⟨_, rfl, _, rfl, x, _, dx, _, _, rfl, hx, t.c_Rule, t.n_Rule_text, lk_text _ _, ?_⟩
  have tl := ro.tl
  refine ⟨_, rfl, Nat.le_trans (show _ ≤ 1000 by omega) (by decide), _, _, rfl, rfl, ?_⟩
  refine ⟨_, rfl, _, _, rfl, rfl, _, rfl, ?_⟩
  refine ite2 (fun h1 => absurd (of_decide_eq_true h1) (by omega)) (fun _ => ?_)
  have zs : z.length ≤ sizeLine := Nat.le_trans zl (by decide)
  refine ⟨_, rfl, _, rfl, _, rfl, _, rfl, _, rfl, z, rfl, zs, ?_⟩
  refine ⟨_, rfl, x, _, dx, _, _, rfl, hx, t.c_Rule, t.n_Rule_text, lk_text _ _, rfl, _, rfl, ?_⟩
  refine ite2 (fun h1 => ?_) (fun h1 => ?_)
  · have e : slicB r z p = false := by
      unfold slicB
      have : (!decide (V.str (cutS z (some (p : Int)) (some ((p : Int) + (r.text.length : Int)))) = V.str r.text)) = true := h1
      simpa using this
    have q := k H (Same.refl _)
    rw [show fitsB r z p = false by unfold fitsB; rw [e]; rfl] at q
    exact q
  have e : slicB r z p = true := by
    unfold slicB
    have : ¬ (!decide (V.str (cutS z (some (p : Int)) (some ((p : Int) + (r.text.length : Int)))) = V.str r.text)) = true := h1
    simpa using this
  have pe : p + r.text.length ≤ z.length := slic_le ro pz e
  refine ⟨_, rfl, _, r, rfl, ⟨x, dx, l, rfl, hx, hl⟩, ro, fun H1 s1 => ⟨_, rfl, ?_⟩⟩
  refine iteF ?_
  have kf := k H1 s1
  unfold fitsB at kf
  rw [e, Bool.true_and] at kf
  have hx1 := s1 _ _ hx
  have zn : z.cps.toList.length = z.length := by simp [Str.length]
  have chE : ∀ i, i < z.length → ∃ c : Nat, z.cps.toList[i]? = some c ∧ chS z i = ⟨#[c]⟩ := fun i hi => by
    have e1 : z.cps.toList[i]? = some (z.cps.toList[i]'(by omega)) := List.getElem?_eq_getElem _
    exact ⟨_, e1, by unfold chS; rw [e1]⟩
  refine ⟨fun σ' H' => σ' = [some (.ref x), some (.str z), some (.int (p : Int)), some (.int ((p : Int) + (r.text.length : Int))), some (.str (befS z p)), none] ∧ H' = H1, ?_, ?_⟩
  · refine ⟨_, rfl, _, _, rfl, rfl, _, rfl, ite2 (fun h2 => ?_) (fun h2 => ?_)⟩
    · have hp : 0 < p := by have := of_decide_eq_true h2; omega
      obtain ⟨c, e1, e2⟩ := chE (p - 1) (by omega)
      have ei : (p : Int) - 1 = ((p - 1 : Nat) : Int) := by omega
      refine ⟨_, rfl, _, rfl, _, _, rfl, rfl, z, _, c, rfl, rfl, zs, (by rw [ei]; exact atI_nat e1), ?_⟩
      refine ⟨?_, rfl⟩
      unfold befS
      rw [if_pos hp, e2]
      rfl
    · have hp : ¬ 0 < p := fun z => h2 (decide_eq_true (by omega))
      refine ⟨?_, rfl⟩
      unfold befS
      rw [if_neg hp]
      rfl
  rintro σ' H' ⟨rfl, rfl⟩
  refine ⟨fun σ' H2 => σ' = [some (.ref x), some (.str z), some (.int (p : Int)), some (.int ((p : Int) + (r.text.length : Int))), some (.str (befS z p)), some (.str (aftS z (p + r.text.length)))] ∧ H2 = H', ?_, ?_⟩
  · refine ⟨_, rfl, _, rfl, z, rfl, zs, _, _, rfl, rfl, _, rfl, ite2 (fun h2 => ?_) (fun h2 => ?_)⟩
    · have hp : p + r.text.length < z.length := by have := of_decide_eq_true h2; omega
      obtain ⟨c, e1, e2⟩ := chE _ hp
      refine ⟨_, rfl, _, rfl, z, _, c, rfl, rfl, zs, (by rw [← Int.natCast_add]; exact atI_nat e1), ?_⟩
      refine ⟨?_, rfl⟩
      unfold aftS
      rw [if_pos hp, e2]
      rfl
    · have hp : ¬ p + r.text.length < z.length := fun z => h2 (decide_eq_true (by omega))
      refine ⟨?_, rfl⟩
      unfold aftS
      rw [if_neg hp]
      rfl
  rintro σ' H2 ⟨rfl, rfl⟩
  refine ⟨_, rfl, x, _, dx, _, _, rfl, hx1, t.c_Rule, t.n_Rule_ahead, lk_ahead _ _, rfl, _, rfl, ?_⟩
  cases ha : r.ahead with
  | none =>
    rw [ha] at kf
    have kf : Q (.bl (nearOk r.behind (aftS z (p + r.text.length)))) H2 := kf
    refine iteT ⟨true, rfl, iteT ?_⟩
    refine ⟨_, rfl, x, _, dx, _, _, rfl, hx1, t.c_Rule, t.n_Rule_behind, lk_behind _ _, rfl, _, rfl, ?_⟩
    cases hb : r.behind with
    | none =>
      rw [hb] at kf
      refine iteT ?_
      exact kf
    | some o2 =>
      rw [hb] at kf
      refine iteF ⟨_, rfl, _, rfl, x, _, dx, _, _, rfl, hx1, t.c_Rule, t.n_Rule_behind, (by rw [lk_behind, hb]; rfl), _, o2, rfl, rfl, ?_⟩
      exact kf
  | some o =>
    rw [ha] at kf
    have kf : Q (.bl (inB (befS z p) o && nearOk r.behind (aftS z (p + r.text.length)))) H2 := kf
    refine iteF ⟨_, rfl, _, rfl, x, _, dx, _, _, rfl, hx1, t.c_Rule, t.n_Rule_ahead, (by rw [lk_ahead, ha]; rfl), _, o, rfl, rfl, _, rfl, ?_⟩
    refine ite2 (fun h2 => ?_) (fun h2 => ?_)
    · have e2 : inB (befS z p) o = true := h2
      rw [e2, Bool.true_and] at kf
      refine ⟨_, rfl, x, _, dx, _, _, rfl, hx1, t.c_Rule, t.n_Rule_behind, lk_behind _ _, rfl, _, rfl, ?_⟩
      cases hb : r.behind with
      | none =>
        rw [hb] at kf
        refine iteT ?_
        exact kf
      | some o2 =>
        rw [hb] at kf
        refine iteF ⟨_, rfl, _, rfl, x, _, dx, _, _, rfl, hx1, t.c_Rule, t.n_Rule_behind, (by rw [lk_behind, hb]; rfl), _, o2, rfl, rfl, ?_⟩
        exact kf
    · have e2 : inB (befS z p) o = false := by
        have h3 : ¬ inB (befS z p) o = true := h2
        simpa using h3
      rw [e2, Bool.false_and] at kf
      exact kf
end
end Sx

set_option Elab.async false
set_option linter.all false
set_option maxRecDepth 100000
set_option maxHeartbeats 1000000
namespace Sx
open PySem PySem.Spec PyProof.Rows L2 SxA
theorem small1 {n : Nat} (h : n ≤ 100000) : n < sizeLine := Nat.lt_of_le_of_lt h (by decide)
structure TD.ok (d : TD) : Prop where
  nr : d.rules.length ≤ 60
  ro : ∀ r ∈ d.rules, r.ok
def fitIx (rs : List RD) (z : Str) (p : Nat) (m : Int) (n : Nat) : List Nat := (List.range n).filter fun i => match rs[i]? with
  | some r => decide (r.mode = m) && fitsB r z p
  | none => false
abbrev fitL (rs : List RD) (z : Str) (p : Nat) (m : Int) : List Nat := fitIx rs z p m rs.length
theorem fitIx_len (rs : List RD) (z : Str) (p : Nat) (m : Int) (n : Nat) : (fitIx rs z p m n).length ≤ n := by
  unfold fitIx
  have := List.length_filter_le (fun i => match rs[i]? with
    | some r => decide (r.mode = m) && fitsB r z p
    | none => false) (List.range n)
  rw [List.length_range] at this
  exact this
theorem fitIx_succ {rs : List RD} {z : Str} {p : Nat} {m : Int} {n : Nat} {r : RD} (h : rs[n]? = some r) : fitIx rs z p m (n + 1) = fitIx rs z p m n ++ (if (decide (r.mode = m) && fitsB r z p) = true then [n] else []) := by
  unfold fitIx
  rw [List.range_succ, List.filter_append]
  simp only [List.filter_cons, List.filter_nil, h]
def spFitting (K : PySem.W.Frag) : Sp := fun vs H Q _ => ∃ (v : V) (d : TD) (z : Str) (p : Nat) (m : Int), vs = [v, .str z, .int (p : Int), .int m] ∧ TableO K H v d ∧ d.ok ∧ z.length ≤ 1000 ∧ p ≤ z.length ∧
  ∀ q H', H q = none → Same H H' → H' q = some (.lst ((fitL d.rules z p m).map fun n : Nat => V.int (n : Int))) → Q (.ref q) H'
section
variable {P : Program} {w : World} {K : PySem.W.Frag} {mg : Str → Option Value} {base : Heap}
abbrev nsFitting : List Str := ["table", "text", "place", "mode", "at", "rule"]
theorem scFitting : FnScope nsFitting ["table", "text", "place", "mode"] (defScope sFitting) := ⟨rfl, rfl, rfl, by decide +kernel, rfl, by decide +kernel, by decide +kernel⟩
theorem ok_fitting (t : T K mg) : Ok P w K mg base 3 "fitting" ["table", "text", "place", "mode"] (spFitting K) := by
  refine mkOk t.d_fitting t.g_fitting scFitting (fun vs H Q E h => ?_) (fun _ _ _ _ _ _ us hl => match us, hl with | [_, _, _, _], _ => rfl) fun cdv A outer s H vs Q E hr h => ?_
  · obtain ⟨v, d, z, p, m, rfl, _⟩ := h; rfl
  obtain ⟨v, d, z, p, m, rfl, ⟨x, dx, l, rfl, hx, ⟨ws, hl, wl, hw⟩⟩, dok, zl, pz, k⟩ := h
  have hr2 : Room 2 _ := hr.mono (by decide)
  refine ⟨_, pss_one (ps_ret (pe_lc (own := [("at", 4), ("rule", 5)]) (g := gTup K 2 (gCons (gName 4) (gCons (gName 5) gNil))) rfl scFitting.nd (pi_enum (by rfl) t.f_enumerate (pa_cons (pe_fld (pv 0) rfl) pa_nil)) (blkOk_by (own := [("at", 4), ("rule", 5)]) (N := nsFitting) (sc := defScope sFitting) (by decide +kernel)) (fun _ _ _ _ _ => (pg_tup rfl (pgs_cons (pg_name (i := 4) scFitting.nd rfl (Or.inl rfl)) (pgs_cons (pg_name (i := 5) scFitting.nd rfl (Or.inl rfl)) pgs_nil)))) (fun _ _ _ _ _ => pts_one (PW.pt (pw_and (pt_cmpR op_eq (pe_fldK (K := K) rfl (pv 5)) (pv 3) (nomark _)) (pw_and1 (pt_val (pe_ok (ok_fits t) hr2 rfl (pa_cons (pv 5) (pa_cons (pv 1) (pa_cons (pv 2) pa_nil))))))))) (fun _ _ _ _ _ => (pv 4)))), ?_⟩
  have nr := dok.nr
  refine ⟨_, rfl, x, _, dx, _, _, rfl, hx, t.c_Table, t.n_Table_rules, lk_rules _ _, l, _, rfl, SqL.of hl, fun D hD => ?_⟩
  refine lc_it (walk_enum (K := K) (a := l) (xs := ws)) (g := gTup K 2 (gCons (gName 4) (gCons (gName 5) gNil))) (fun j H' => H' D = some (.lst ((fitIx d.rules z p m j).map fun n : Nat => V.int (n : Int))) ∧ Same H H') ⟨upd_same, Same.new hD⟩ (fun j H' _ q => SqL.of (q.2 _ _ hl)) ?_ ?_
  · rintro j v H3 H4 hj ⟨hD3, s3⟩ ⟨T2, x2, y2, rfl, hT2, rfl, ex2, ey2⟩
    have ex2 := (Option.some.inj ex2).symm
    subst ex2
    have jl : j < d.rules.length := by rw [← wl]; exact (List.getElem?_eq_some_iff.mp ey2).1
    have hri : d.rules[j]? = some d.rules[j] := List.getElem?_eq_getElem jl
    have s4 : Same H (upd H3 T2 (.tup [V.int ((j : Nat) : Int), y2])) := fun c o z => Same.new hT2 _ _ (s3 _ _ z)
    have hD4 := Same.new (o := .tup [V.int ((j : Nat) : Int), y2]) hT2 _ _ hD3
    have hru := (hw j y2 _ ey2 hri).same s4
    have rok := dok.ro _ (List.getElem_mem jl)
    have fs := fitIx_succ (z := z) (p := p) (m := m) hri
    have fl := fitIx_len d.rules z p m j
    refine ⟨T2, _, rfl, SqT.of upd_same, rfl, _, _, rfl, _, _, rfl, rfl, rfl, ?_⟩
    generalize d.rules[j] = r at hru rok fs
    generalize upd H3 T2 (.tup [V.int ((j : Nat) : Int), y2]) = H4 at s4 hD4 hru
    obtain ⟨xr, dr, lr, rfl, hxr, hlr⟩ := hru
    refine ⟨_, rfl, xr, _, dr, _, _, rfl, hxr, t.c_Rule, t.n_Rule_mode, lk_mode _ _, _, rfl, rfl, _, rfl, ?_⟩
    have dI : decide (V.int r.mode = V.int m) = decide (r.mode = m) := by
      rw [decide_eq_decide]
      exact ⟨fun h => V.int.inj h, fun h => by rw [h]⟩
    rw [dI]
    refine ite2 (fun h1 => ?_) (fun h1 => ?_)
    · rw [h1, Bool.true_and] at fs
      refine ⟨_, rfl, _, rfl, _, rfl, .ref xr, r, z, p, rfl, ⟨xr, dr, lr, rfl, hxr, hlr⟩, rok, zl, pz, fun H5 s5 => ⟨_, rfl, ?_⟩⟩
      refine ite2 (fun h2 => ?_) (fun h2 => ?_)
      · rw [h2, if_pos rfl] at fs
        refine ⟨_, rfl, _, s5 _ _ hD4, ?_, ?_, Same.put (s4.trans s5) hD⟩
        · rw [List.length_map]
          exact small1 (by omega)
        · rw [upd_same, fs, List.map_append]
          rfl
      · rw [if_neg h2, List.append_nil] at fs
        rw [fs]
        exact ⟨s5 _ _ hD4, s4.trans s5⟩
    · have h3 : decide (r.mode = m) = false := by simpa using h1
      rw [h3, Bool.false_and, if_neg (by decide), List.append_nil] at fs
      rw [fs]
      exact ⟨hD4, s4⟩
  · rintro H5 ⟨hD5, s5⟩
    rw [wl] at hD5
    exact k D H5 hD s5 hD5
end
end Sx

set_option Elab.async false
set_option linter.all false
set_option maxRecDepth 100000
set_option maxHeartbeats 1000000
namespace Sx
open PySem PySem.Spec PyProof.Rows L2 SxA
/-! ### rules as rows: [mode, text, cells, to, ahead, behind] -/
def rowV (r : RD) (c : Addr) : List V := [.int r.mode, .str r.text, .ref c, .int r.to, oV r.ahead, oV r.behind]
def RowO (H : Hp) (v : V) (r : RD) : Prop := ∃ a c, v = .ref a ∧ H a = some (.lst (rowV r c)) ∧ H c = some (.lst (r.cells.map V.int))
structure RowsL (H : Hp) (l : Addr) (rs : List RD) : Prop where
  ex : ∃ vs, H l = some (.lst vs) ∧ vs.length = rs.length ∧ ∀ (i : Nat) v r, vs[i]? = some v → rs[i]? = some r → RowO H v r
def RulesO (H : Hp) (p : Addr) (d : TD) : Prop := ∃ l, H p = some (.lst [.str d.signs, .int d.modes, .ref l]) ∧ RowsL H l d.rules
theorem RowO.same {H H' : Hp} {v : V} {r : RD} (h : RowO H v r) (s : Same H H') : RowO H' v r := by
  obtain ⟨a, c, e, h1, h2⟩ := h
  exact ⟨a, c, e, s _ _ h1, s _ _ h2⟩
theorem RowsL.same {H H' : Hp} {l : Addr} {rs : List RD} (h : RowsL H l rs) (s : Same H H') : RowsL H' l rs := by
  obtain ⟨vs, h1, h2, h3⟩ := h.ex
  exact ⟨vs, s _ _ h1, h2, fun i v r a b => (h3 i v r a b).same s⟩
theorem RulesO.same {H H' : Hp} {p : Addr} {d : TD} (h : RulesO H p d) (s : Same H H') : RulesO H' p d := by
  obtain ⟨l, h1, h2⟩ := h
  exact ⟨l, s _ _ h1, h2.same s⟩
/-- a row that is looked up -/
theorem RowsL.get {H : Hp} {l : Addr} {rs : List RD} (h : RowsL H l rs) {i : Nat} {r : RD} (e : rs[i]? = some r) : ∃ vs v, H l = some (.lst vs) ∧ vs.length = rs.length ∧ vs[i]? = some v ∧ RowO H v r := by
  obtain ⟨vs, h1, h2, h3⟩ := h.ex
  have il := (List.getElem?_eq_some_iff.mp e).1
  rw [← h2] at il
  have e2 : vs[i]? = some vs[i] := List.getElem?_eq_getElem il
  exact ⟨vs, vs[i], h1, h2, e2, h3 i _ r e2 e⟩
/-! ### what a draw leaves -/
theorem keepB {H H' : Hp} {d l a : Addr} {o : HO} (D : Dk H d l) (b : But d H H') (h : H a = some o) (ne : ∀ (l : Addr) (a b c : Int), o ≠ .lst [.ref l, .int a, .int b, .int c]) : H' a = some o := by
  obtain ⟨ns, a1, b1, c1, e, _⟩ := D.ex
  exact b _ _ h fun z => by
    rw [z, e] at h
    exact ne _ _ _ _ (Option.some.inj h).symm
theorem ints_ne (zs : List Int) (l : Addr) (a b c : Int) : HO.lst (zs.map V.int) ≠ .lst [.ref l, .int a, .int b, .int c] := fun z => by
  have := HO.lst.inj z
  cases zs with
  | nil => cases this
  | cons x zs =>
    rw [List.map_cons] at this
    have := (List.cons.inj this).1
    cases this
theorem RowO.but {H H' : Hp} {d l : Addr} {v : V} {r : RD} (h : RowO H v r) (D : Dk H d l) (b : But d H H') : RowO H' v r := by
  obtain ⟨a, c, e, h1, h2⟩ := h
  exact ⟨a, c, e, keepB D b h1 (fun _ _ _ _ z => by cases HO.lst.inj z), keepB D b h2 (ints_ne _)⟩
theorem RowsL.but {H H' : Hp} {d l p : Addr} {rs : List RD} (h : RowsL H p rs) (D : Dk H d l) (b : But d H H') : RowsL H' p rs := by
  obtain ⟨vs, h1, h2, h3⟩ := h.ex
  refine ⟨vs, keepB D b h1 (fun l a b c z => ?_), h2, fun i v r a c => (h3 i v r a c).but D b⟩
  have e := HO.lst.inj z
  subst e
  have h4 : rs[1]? = some (rs[1]'(by rw [← h2]; show 1 < 4; decide)) := List.getElem?_eq_getElem _
  obtain ⟨_, _, e, _⟩ := h3 1 _ _ rfl h4
  cases e
theorem RulesO.but {H H' : Hp} {d l p : Addr} {t : TD} (h : RulesO H p t) (D : Dk H d l) (b : But d H H') : RulesO H' p t := by
  obtain ⟨q, h1, h2⟩ := h
  exact ⟨q, keepB D b h1 (fun _ _ _ _ z => by cases HO.lst.inj z), h2.but D b⟩
theorem RuleO.but {K : PySem.W.Frag} {H H' : Hp} {d l : Addr} {v : V} {r : RD} (h : RuleO K H v r) (D : Dk H d l) (b : But d H H') : RuleO K H' v r := by
  obtain ⟨x, dx, c, e, h1, h2⟩ := h
  exact ⟨x, dx, c, e, keepB D b h1 (fun _ _ _ _ z => by cases z), keepB D b h2 (ints_ne _)⟩
theorem RulesL.but {K : PySem.W.Frag} {H H' : Hp} {d l p : Addr} {rs : List RD} (h : RulesL K H p rs) (D : Dk H d l) (b : But d H H') : RulesL K H' p rs := by
  obtain ⟨vs, h1, h2, h3⟩ := h
  refine ⟨vs, keepB D b h1 (fun l a b c z => ?_), h2, fun i v r a c => (h3 i v r a c).but D b⟩
  have e := HO.lst.inj z
  subst e
  have h4 : rs[1]? = some (rs[1]'(by rw [← h2]; show 1 < 4; decide)) := List.getElem?_eq_getElem _
  obtain ⟨_, _, _, e, _⟩ := h3 1 _ _ rfl h4
  cases e
theorem TableO.but {K : PySem.W.Frag} {H H' : Hp} {d l : Addr} {v : V} {t : TD} (h : TableO K H v t) (D : Dk H d l) (b : But d H H') : TableO K H' v t := by
  obtain ⟨x, dx, q, e, h1, h2⟩ := h
  exact ⟨x, dx, q, e, keepB D b h1 (fun _ _ _ _ z => by cases z), h2.but D b⟩
def spLawFits : Sp := fun vs H Q _ => ∃ (v : V) (r : RD) (z : Str) (p : Nat), vs = [v, .str z, .int (p : Int)] ∧ RowO H v r ∧ r.ok ∧ z.length ≤ 1000 ∧ p ≤ z.length ∧ Q (.bl (fitsB r z p)) H
section
variable {P : Program} {w : World} {K : PySem.W.Frag} {mg : Str → Option Value} {base : Heap}
abbrev nsLawFits : List Str := ["row", "text", "at", "ahead", "behind"]
theorem scLawFits : FnScope nsLawFits ["row", "text", "at"] (defScope sLawFits) := ⟨rfl, rfl, rfl, by decide +kernel, rfl, by decide +kernel, by decide +kernel⟩
theorem ok_law_fits (t : T K mg) : Ok P w K mg base 1 "_law_fits" ["row", "text", "at"] spLawFits := by
  refine mkOk t.d_law_fits t.g_law_fits scLawFits (fun vs H Q E h => ?_) (fun _ _ _ _ _ _ us hl => match us, hl with | [_, _, _], _ => rfl) fun cdv A outer s H vs Q E hr h => ?_
  · obtain ⟨v, r, z, p, rfl, _⟩ := h; rfl
  obtain ⟨v, r, z, p, rfl, ⟨a, c, rfl, ha, hc⟩, ro, zl, pz, k⟩ := h
  refine ⟨_, pss_cons (ps_if (pt_cmpR op_ne (pe_slice sl_str (pv 1) (po_some (pv 2)) (po_some (pe_op op_add (pv 2) (pe_callB call_len_str rfl t.f_len boot_len (pa_cons (pe_ix ix_list (pv 0) pe_int (fun _ _ => rfl)) pa_nil))))) (pe_ix ix_list (pv 0) pe_int (fun _ _ => rfl)) (nomark _))
      (pss_one (ps_ret pe_bl))
      pss_nil)
    (pss_cons (ps_set (i := 3) scLawFits.nd rfl (Or.inl rfl) pe_str)
    (C8.pss_cut (ps_if (pt_cmpR op_gt (pv 2) pe_int (nomark _))
      (pss_one (ps_set (i := 3) scLawFits.nd rfl (Or.inl rfl) (pe_ix ix_str (pv 1) (pe_op op_sub (pv 2) pe_int) (fun _ _ => rfl))))
      pss_nil)
    (pss_cons (ps_set (i := 4) scLawFits.nd rfl (Or.inl rfl) pe_str)
    (C8.pss_cut (ps_if (pt_cmpR op_lt (pe_op op_add (pv 2) (pe_callB call_len_str rfl t.f_len boot_len (pa_cons (pe_ix ix_list (pv 0) pe_int (fun _ _ => rfl)) pa_nil))) (pe_callB call_len_str rfl t.f_len boot_len (pa_cons (pv 1) pa_nil)) (nomark _))
      (pss_one (ps_set (i := 4) scLawFits.nd rfl (Or.inl rfl) (pe_ix ix_str (pv 1) (pe_op op_add (pv 2) (pe_callB call_len_str rfl t.f_len boot_len (pa_cons (pe_ix ix_list (pv 0) pe_int (fun _ _ => rfl)) pa_nil))) (fun _ _ => rfl))))
      pss_nil)
    (pss_one (ps_ret (pe_and (pe_or (pe_cmpR op_isN (pe_ix ix_list (pv 0) pe_int (fun _ _ => rfl)) pe_non (nomark _)) (pe_one (pe_cmpR op_in_str (pv 3) (pe_ix ix_list (pv 0) pe_int (fun _ _ => rfl)) (by rfl)))) (pe_one (pe_or (pe_cmpR op_isN (pe_ix ix_list (pv 0) pe_int (fun _ _ => rfl)) pe_non (nomark _)) (pe_one (pe_cmpR op_in_str (pv 4) (pe_ix ix_list (pv 0) pe_int (fun _ _ => rfl)) (by rfl)))))))))))), ?_⟩
  have zs : z.length ≤ sizeLine := Nat.le_trans zl (by decide)
  have tl := ro.tl
  have ts : r.text.length ≤ sizeLine := Nat.le_trans (show _ ≤ 1000 by omega) (by decide)
  have sa : SqL K H a (rowV r c) := SqL.of ha
  have i1 : atI (rowV r c) 1 = some (.str r.text) := atI_nat (j := 1) rfl
  have i4 : atI (rowV r c) 4 = some (oV r.ahead) := atI_nat (j := 4) rfl
  have i5 : atI (rowV r c) 5 = some (oV r.behind) := atI_nat (j := 5) rfl
  refine ⟨_, rfl, _, rfl, _, rfl, _, rfl, _, rfl, a, _, _, _, rfl, rfl, sa, i1, _, rfl, ts, _, _, rfl, rfl, _, rfl, z, rfl, zs, ?_⟩
  refine ⟨_, rfl, a, _, _, _, rfl, rfl, sa, i1, rfl, _, rfl, ?_⟩
  refine ite2 (fun h1 => ?_) (fun h1 => ?_)
  · have e : slicB r z p = false := by
      unfold slicB
      have : (!decide (V.str (cutS z (some (p : Int)) (some ((p : Int) + (r.text.length : Int)))) = V.str r.text)) = true := h1
      simpa using this
    rw [show fitsB r z p = false by unfold fitsB; rw [e]; rfl] at k
    exact k
  have e : slicB r z p = true := by
    unfold slicB
    have : ¬ (!decide (V.str (cutS z (some (p : Int)) (some ((p : Int) + (r.text.length : Int)))) = V.str r.text)) = true := h1
    simpa using this
  have pe : p + r.text.length ≤ z.length := slic_le ro pz e
  unfold fitsB at k
  rw [e, Bool.true_and] at k
  have zn : z.cps.toList.length = z.length := by simp [Str.length]
  have chE : ∀ i, i < z.length → ∃ c : Nat, z.cps.toList[i]? = some c ∧ chS z i = ⟨#[c]⟩ := fun i hi => by
    have e1 : z.cps.toList[i]? = some (z.cps.toList[i]'(by omega)) := List.getElem?_eq_getElem _
    exact ⟨_, e1, by unfold chS; rw [e1]⟩
  refine ⟨fun σ' H' => σ' = [some (.ref a), some (.str z), some (.int (p : Int)), some (.str (befS z p)), none] ∧ H' = H, ?_, ?_⟩
  · refine ⟨_, rfl, _, _, rfl, rfl, _, rfl, ite2 (fun h2 => ?_) (fun h2 => ?_)⟩
    · have hp : 0 < p := by have := of_decide_eq_true h2; omega
      obtain ⟨c, e1, e2⟩ := chE (p - 1) (by omega)
      have ei : (p : Int) - 1 = ((p - 1 : Nat) : Int) := by omega
      refine ⟨_, rfl, _, rfl, _, _, rfl, rfl, z, _, c, rfl, rfl, zs, (by rw [ei]; exact atI_nat e1), ?_⟩
      refine ⟨?_, rfl⟩
      unfold befS
      rw [if_pos hp, e2]
      rfl
    · have hp : ¬ 0 < p := fun z => h2 (decide_eq_true (by omega))
      refine ⟨?_, rfl⟩
      unfold befS
      rw [if_neg hp]
      rfl
  rintro σ' H' ⟨rfl, rfl⟩
  refine ⟨fun σ' H2 => σ' = [some (.ref a), some (.str z), some (.int (p : Int)), some (.str (befS z p)), some (.str (aftS z (p + r.text.length)))] ∧ H2 = H', ?_, ?_⟩
  · refine ⟨_, rfl, _, rfl, a, _, _, _, rfl, rfl, sa, i1, _, rfl, ts, _, _, rfl, rfl, _, rfl, z, rfl, zs, _, _, rfl, rfl, _, rfl, ite2 (fun h2 => ?_) (fun h2 => ?_)⟩
    · have hp : p + r.text.length < z.length := by have := of_decide_eq_true h2; omega
      obtain ⟨c, e1, e2⟩ := chE _ hp
      refine ⟨_, rfl, _, rfl, _, rfl, a, _, _, _, rfl, rfl, sa, i1, _, rfl, ts, _, _, rfl, rfl, z, _, c, rfl, rfl, zs, (by rw [← Int.natCast_add]; exact atI_nat e1), ?_⟩
      refine ⟨?_, rfl⟩
      unfold aftS
      rw [if_pos hp, e2]
      rfl
    · have hp : ¬ p + r.text.length < z.length := fun z => h2 (decide_eq_true (by omega))
      refine ⟨?_, rfl⟩
      unfold aftS
      rw [if_neg hp]
      rfl
  rintro σ' H2 ⟨rfl, rfl⟩
  refine ⟨_, rfl, a, _, _, _, rfl, rfl, sa, i4, rfl, _, rfl, ?_⟩
  have lastB : ∀ kf : Q (.bl (nearOk r.behind (aftS z (p + r.text.length)))) H2, True := fun _ => trivial
  cases hA : r.ahead with
  | none =>
    rw [hA] at k
    have kf : Q (.bl (nearOk r.behind (aftS z (p + r.text.length)))) H2 := k
    refine iteT ⟨true, rfl, iteT ?_⟩
    refine ⟨_, rfl, a, _, _, _, rfl, rfl, sa, i5, rfl, _, rfl, ?_⟩
    cases hB : r.behind with
    | none => rw [hB] at kf; exact iteT kf
    | some o2 =>
      rw [hB] at kf
      rw [hB] at i5
      exact iteF ⟨_, rfl, _, rfl, a, _, _, _, rfl, rfl, sa, i5, _, o2, rfl, rfl, kf⟩
  | some o =>
    rw [hA] at k i4
    have kf : Q (.bl (inB (befS z p) o && nearOk r.behind (aftS z (p + r.text.length)))) H2 := k
    refine iteF ⟨_, rfl, _, rfl, a, _, _, _, rfl, rfl, sa, i4, _, o, rfl, rfl, _, rfl, ?_⟩
    refine ite2 (fun h2 => ?_) (fun h2 => ?_)
    · have e2 : inB (befS z p) o = true := h2
      rw [e2, Bool.true_and] at kf
      refine ⟨_, rfl, a, _, _, _, rfl, rfl, sa, i5, rfl, _, rfl, ?_⟩
      cases hB : r.behind with
      | none => rw [hB] at kf; exact iteT kf
      | some o2 =>
        rw [hB] at kf
        rw [hB] at i5
        exact iteF ⟨_, rfl, _, rfl, a, _, _, _, rfl, rfl, sa, i5, _, o2, rfl, rfl, kf⟩
    · have e2 : inB (befS z p) o = false := by
        have h3 : ¬ inB (befS z p) o = true := h2
        simpa using h3
      rw [e2, Bool.false_and] at kf
      exact kf
end
end Sx

set_option Elab.async false
set_option linter.all false
set_option maxRecDepth 100000
set_option maxHeartbeats 1000000
namespace Sx
open PySem PySem.Spec PyProof.Rows L2 SxA
abbrev nv (n : Nat) : V := .int (n : Int)
/-! ### all ways -/
def waysN (rs : List RD) (z : Str) : Nat → Nat → Int → List (List Nat)
  | 0, _, _ => [[]]
  | n + 1, p, m => if p = z.length then [[]] else (List.range rs.length).flatMap fun k => match rs[k]? with
    | some r => if (decide (r.mode = m) && fitsB r z p) = true then (waysN rs z n (p + r.text.length) r.to).map (k :: ·) else []
    | none => []
/-- the ways by the first i rules -/
def waysI (rs : List RD) (z : Str) (n p : Nat) (m : Int) (i : Nat) : List (List Nat) := (List.range i).flatMap fun k => match rs[k]? with
    | some r => if (decide (r.mode = m) && fitsB r z p) = true then (waysN rs z n (p + r.text.length) r.to).map (k :: ·) else []
    | none => []
theorem waysI_succ {rs : List RD} {z : Str} {n p : Nat} {m : Int} {i : Nat} {r : RD} (h : rs[i]? = some r) : waysI rs z n p m (i + 1) = waysI rs z n p m i ++ (if (decide (r.mode = m) && fitsB r z p) = true then (waysN rs z n (p + r.text.length) r.to).map (i :: ·) else []) := by
  unfold waysI
  rw [List.range_succ, List.flatMap_append]
  simp only [List.flatMap_cons, List.flatMap_nil, List.append_nil, h]
theorem waysN_len (rs : List RD) (z : Str) (h : rs.length ≤ 8) : ∀ n p m, (waysN rs z n p m).length ≤ 8 ^ n
  | 0, _, _ => Nat.le_refl _
  | n + 1, p, m => by
    unfold waysN
    split
    · exact Nat.one_le_pow _ _ (by decide)
    · rw [List.length_flatMap]
      have : ∀ l : List Nat, ((l.map fun k => (match rs[k]? with
          | some r => if (decide (r.mode = m) && fitsB r z p) = true then (waysN rs z n (p + r.text.length) r.to).map (k :: ·) else []
          | none => [] : List (List Nat)).length)).sum ≤ l.length * 8 ^ n := fun l => by
        induction l with
        | nil => exact Nat.zero_le _
        | cons k l ih =>
          rw [List.map_cons, List.sum_cons, List.length_cons, Nat.succ_mul]
          have h1 : (match rs[k]? with
            | some r => if (decide (r.mode = m) && fitsB r z p) = true then (waysN rs z n (p + r.text.length) r.to).map (k :: ·) else []
            | none => [] : List (List Nat)).length ≤ 8 ^ n := by
            split
            · split
              · rw [List.length_map]; exact waysN_len rs z h n _ _
              · exact Nat.zero_le _
            · exact Nat.zero_le _
          omega
      have h2 := this (List.range rs.length)
      rw [List.length_range] at h2
      refine Nat.le_trans h2 ?_
      rw [Nat.pow_succ, Nat.mul_comm]
      exact Nat.mul_le_mul_left _ h
theorem waysN_each (rs : List RD) (z : Str) : ∀ n p m, ∀ w ∈ waysN rs z n p m, w.length ≤ n
  | 0, _, _, w, h => by
    rw [List.mem_singleton.mp (show w ∈ [[]] from h)]
    exact Nat.le_refl _
  | n + 1, p, m, w, h => by
    unfold waysN at h
    split at h
    · rw [List.mem_singleton.mp h]
      exact Nat.zero_le _
    · obtain ⟨k, _, hk⟩ := List.mem_flatMap.mp h
      split at hk
      · split at hk
        · obtain ⟨w0, h0, rfl⟩ := List.mem_map.mp hk
          have := waysN_each rs z n _ _ w0 h0
          rw [List.length_cons]
          omega
        · cases hk
      · cases hk
/-- a list of lists of numbers -/
structure LLs (H : Hp) (p : Addr) (ws : List (List Nat)) : Prop where
  ex : ∃ as : List Addr, H p = some (.lst (as.map V.ref)) ∧ as.length = ws.length ∧ ∀ (i : Nat) a w, as[i]? = some a → ws[i]? = some w → H a = some (.lst (w.map nv))
theorem LLs.same {H H' : Hp} {p : Addr} {ws : List (List Nat)} (h : LLs H p ws) (s : Same H H') : LLs H' p ws := by
  obtain ⟨as, h1, h2, h3⟩ := h.ex
  exact ⟨as, s _ _ h1, h2, fun i a w e1 e2 => s _ _ (h3 i a w e1 e2)⟩
theorem refsAt {as : List Addr} {i : Nat} {v : V} (h : (as.map V.ref)[i]? = some v) : ∃ a, as[i]? = some a ∧ v = V.ref a := by
  rw [List.getElem?_map] at h
  cases z : as[i]? with
  | none => rw [z] at h; cases h
  | some y => rw [z] at h; exact ⟨y, rfl, (Option.some.inj h).symm⟩
def spWays : Nat → Sp
  | 0 => fun _ _ _ _ => False
  | n + 1 => fun vs H Q _ => ∃ (a : Addr) (d : TD) (z : Str) (p : Nat) (m : Int), vs = [.ref a, .str z, .int (p : Int), .int m] ∧ RulesO H a d ∧ (∀ r ∈ d.rules, r.ok) ∧ d.rules.length ≤ 8 ∧ z.length ≤ 5 ∧ p ≤ z.length ∧ z.length ≤ p + n ∧ n ≤ 5 ∧
    ∀ q H', Same H H' → LLs H' q (waysN d.rules z n p m) → Q (.ref q) H'
theorem LLs.cat {H H' : Hp} {p q r : Addr} {us ws : List (List Nat)} {xs ys : List V} (h1 : LLs H p us) (h2 : LLs H q ws) (e1 : H p = some (.lst xs)) (e2 : H q = some (.lst ys)) (s : Same H H') (e : H' r = some (.lst (xs ++ ys))) : LLs H' r (us ++ ws) := by
  obtain ⟨as, a1, a2, a3⟩ := h1.ex
  obtain ⟨bs, b1, b2, b3⟩ := h2.ex
  have e3 : xs = as.map V.ref := HO.lst.inj (Option.some.inj (e1.symm.trans a1))
  have e4 : ys = bs.map V.ref := HO.lst.inj (Option.some.inj (e2.symm.trans b1))
  subst e3 e4
  refine ⟨as ++ bs, by rw [e, List.map_append], by rw [List.length_append, List.length_append, a2, b2], fun i x w h3 h4 => ?_⟩
  by_cases il : i < as.length
  · rw [List.getElem?_append_left il] at h3
    rw [List.getElem?_append_left (by omega)] at h4
    exact s _ _ (a3 i x w h3 h4)
  · rw [List.getElem?_append_right (by omega)] at h3
    rw [List.getElem?_append_right (by omega), ← a2] at h4
    exact s _ _ (b3 _ x w h3 h4)
theorem waysI_len {rs : List RD} (z : Str) (n p : Nat) (m : Int) {i : Nat} (h : rs.length ≤ 8) (hi : i ≤ rs.length) : (waysI rs z n p m i).length ≤ i * 8 ^ n := by
  induction i with
  | zero => exact Nat.zero_le _
  | succ i ih =>
    have hri : rs[i]? = some (rs[i]'(by omega)) := List.getElem?_eq_getElem _
    rw [waysI_succ hri, List.length_append, Nat.succ_mul]
    have h1 := ih (by omega)
    have h2 : (if (decide ((rs[i]'(by omega)).mode = m) && fitsB (rs[i]'(by omega)) z p) = true then (waysN rs z n (p + (rs[i]'(by omega)).text.length) (rs[i]'(by omega)).to).map (i :: ·) else []).length ≤ 8 ^ n := by
      split
      · rw [List.length_map]; exact waysN_len rs z h n _ _
      · exact Nat.zero_le _
    omega
section
variable {P : Program} {w : World} {K : PySem.W.Frag} {mg : Str → Option Value} {base : Heap}
abbrev nsLawWays : List Str := ["rules", "text", "at", "mode", "found", "k", "row", "way"]
theorem scLawWays : FnScope nsLawWays ["rules", "text", "at", "mode"] (defScope sLawWays) := ⟨rfl, rfl, rfl, by decide +kernel, rfl, by decide +kernel, by decide +kernel⟩
theorem ok_law_ways (t : T K mg) : ∀ n, Ok P w K mg base (n + 2) "_law_ways" ["rules", "text", "at", "mode"] (spWays n)
  | 0 => mkOk t.d_law_ways t.g_law_ways scLawWays (fun vs H Q E h => h.elim) (fun _ _ _ _ _ _ us hl => match us, hl with | [_, _, _, _], _ => rfl) fun cdv A outer s H vs Q E hr h => h.elim
  | n + 1 => by
    have ih := ok_law_ways t n
    refine mkOk t.d_law_ways t.g_law_ways scLawWays (fun vs H Q E h => ?_) (fun _ _ _ _ _ _ us hl => match us, hl with | [_, _, _, _], _ => rfl) fun cdv A outer s H vs Q E hr h => ?_
    · obtain ⟨a, d, z, p, m, rfl, _⟩ := h; rfl
    obtain ⟨a, d, z, p, m, rfl, hR, ho, hl, zl, pz, pn, n5, k⟩ := h
    have hr1 : Room 1 _ := hr.mono (by omega)
    have hr2 : Room (n + 2) _ := hr
    refine ⟨_, pss_cons (ps_if (pt_cmpR op_eq (pv 2) (pe_callB call_len_str rfl t.f_len boot_len (pa_cons (pv 1) pa_nil)) (nomark _))
      (pss_one (ps_ret (pe_lst (pa_cons (pe_lst pa_nil) pa_nil))))
      pss_nil)
    (pss_cons (ps_set (i := 4) scLawWays.nd rfl (Or.inl rfl) (pe_lst pa_nil))
    (pss_cons (ps_for PassesOwn.never rfl (pi_range1 rfl t.f_range (pa_cons (pe_callB call_len_seq rfl t.f_len boot_len (pa_cons (pe_ix ix_list (pv 0) pe_int (fun _ _ => rfl)) pa_nil)) pa_nil)) (pg_name (i := 5) scLawWays.nd rfl (Or.inr rfl))
      (pss_cons (ps_set (i := 6) scLawWays.nd rfl (Or.inl rfl) (pe_ix ix_list (pe_ix ix_list (pv 0) pe_int (fun _ _ => rfl)) (pv 5) (fun _ _ => rfl)))
    (pss_one (ps_if (PW.pt (pw_and (pt_cmpR op_eq (pe_ix ix_list (pv 6) pe_int (fun _ _ => rfl)) (pv 3) (nomark _)) (pw_and1 (pt_val (pe_ok (ok_law_fits t) hr1 rfl (pa_cons (pv 6) (pa_cons (pv 1) (pa_cons (pv 2) pa_nil))))))))
      (pss_one (ps_set (i := 4) scLawWays.nd rfl (Or.inl rfl) (pe_op op_cat (pv 4) (pe_lc (own := [("way", 7)]) (g := gName 7) (tt := tYes) rfl scLawWays.nd (pi_list (pe_ok ih hr2 rfl (pa_cons (pv 0) (pa_cons (pv 1) (pa_cons (pe_op op_add (pv 2) (pe_callB call_len_str rfl t.f_len boot_len (pa_cons (pe_ix ix_list (pv 6) pe_int (fun _ _ => rfl)) pa_nil))) (pa_cons (pe_ix ix_list (pv 6) pe_int (fun _ _ => rfl)) pa_nil)))))) (blkOk_by (own := [("way", 7)]) (N := nsLawWays) (sc := defScope sLawWays) (by decide +kernel)) (fun _ _ _ _ _ => pg_name (i := 7) scLawWays.nd rfl (Or.inl rfl)) (fun _ _ _ _ _ => pts_nil) (fun _ _ _ _ _ => (pe_op op_cat (pe_lst (pa_cons (pv 5) pa_nil)) (pv 7)))))))
      pss_nil))))
    (pss_one (ps_ret (pv 4))))), ?_⟩
    have zs : z.length ≤ sizeLine := Nat.le_trans (show _ ≤ 1000 by omega) (by decide)
    obtain ⟨l, ha, hrow⟩ := hR
    refine ⟨_, rfl, _, rfl, z, rfl, zs, rfl, _, rfl, ite2 (fun h1 => ?_) (fun h1 => ?_)⟩
    · have e : p = z.length := by have := V.int.inj (of_decide_eq_true h1); omega
      refine ⟨(by show 0 ≤ sizeLine; decide), fun e1 he => ⟨(by show 1 ≤ sizeLine; decide), fun q hq => ?_⟩⟩
      have s1 : Same H (upd H e1 (.lst [])) := Same.new he
      have nq : e1 ≠ q := fun z => by rw [← z, upd_same] at hq; cases hq
      refine k q _ (s1.trans (Same.new hq)) ⟨[e1], upd_same, ?_, fun i a' w h2 h3 => ?_⟩
      · cases n with
        | zero => rfl
        | succ n => unfold waysN; rw [if_pos e]; rfl
      · have ew : waysN d.rules z n p m = [[]] := by
          cases n with
          | zero => rfl
          | succ n => unfold waysN; rw [if_pos e]
        rw [ew] at h3
        match i, h2, h3 with
        | 0, h2, h3 =>
          obtain rfl := Option.some.inj h2
          obtain rfl := Option.some.inj h3
          rw [upd_ne nq]
          exact upd_same
    have ne : p ≠ z.length := fun e => h1 (decide_eq_true (by rw [e]))
    obtain ⟨n, rfl⟩ : ∃ n', n = n' + 1 := ⟨n - 1, by omega⟩
    have ew : waysN d.rules z (n + 1) p m = waysI d.rules z n p m d.rules.length := by
      show (if p = z.length then [[]] else _) = _
      rw [if_neg ne]
      rfl
    rw [ew] at k
    obtain ⟨vs, hl1, vl, hv⟩ := hrow.ex
    refine ⟨(by show 0 ≤ sizeLine; decide), fun F hF => ?_⟩
    have s0 : Same H (upd H F (.lst [])) := Same.new hF
    refine ⟨_, rfl, a, _, _, _, rfl, rfl, SqL.of (s0 _ _ ha), atI_nat (j := 2) rfl, l, _, rfl, .inl (SqL.of (s0 _ _ hl1)), _, rfl, by omega, by omega, ?_⟩
    rw [vl]
    refine for_range (lo := 0) (n := ((d.rules.length : Nat) : Int).toNat) (fun i σ' H' => (∃ (f : Addr) (o5 o6 : Option V), σ' = [some (.ref a), some (.str z), some (.int (p : Int)), some (.int m), some (.ref f), o5, o6, none] ∧ LLs H' f (waysI d.rules z n p m i)) ∧ Same H H') ⟨⟨F, none, none, rfl, [], upd_same, rfl, fun i a w h2 _ => by simp at h2⟩, s0⟩ ?_ ?_
    · rintro i σ' H1 hi ⟨⟨f, o5, o6, rfl, hLf⟩, s1⟩
      have il : i < d.rules.length := by omega
      have hri : d.rules[i]? = some d.rules[i] := List.getElem?_eq_getElem il
      have e0 : (0 : Int) + (i : Int) = (i : Int) := by omega
      rw [e0]
      have fs := waysI_succ (z := z) (n := n) (p := p) (m := m) hri
      have wl0 := waysI_len z n p m hl (Nat.le_of_lt il)
      have ro := ho _ (List.getElem_mem il)
      obtain ⟨v, hvi⟩ : ∃ v, vs[i]? = some v := ⟨_, List.getElem?_eq_getElem (by omega)⟩
      obtain ⟨xr, cr, rfl, hxr, hcr⟩ := (hv i _ _ hvi hri).same s1
      generalize d.rules[i] = r at fs ro hxr hcr
      have tl := ro.tl
      have ts : r.text.length ≤ sizeLine := Nat.le_trans (show _ ≤ 1000 by omega) (by decide)
      refine ⟨_, rfl, a, _, _, _, rfl, rfl, SqL.of (s1 _ _ ha), atI_nat (j := 2) rfl, _, rfl, l, _, _, _, rfl, rfl, SqL.of (s1 _ _ hl1), atI_nat hvi, ?_⟩
      refine ⟨_, rfl, xr, _, _, _, rfl, rfl, SqL.of hxr, atI_nat (j := 0) rfl, _, rfl, rfl, _, rfl, ?_⟩
      have dI : decide (V.int r.mode = V.int m) = decide (r.mode = m) := by
        rw [decide_eq_decide]
        exact ⟨fun h => V.int.inj h, fun h => by rw [h]⟩
      rw [dI]
      refine ite2 (fun h2 => ?_) (fun h2 => ?_)
      · rw [h2, Bool.true_and] at fs
        refine ⟨_, rfl, _, rfl, _, rfl, .ref xr, r, z, p, rfl, ⟨xr, cr, rfl, hxr, hcr⟩, ro, by omega, pz, _, rfl, ?_⟩
        refine ite2 (fun h3 => ?_) (fun h3 => ?_)
        · rw [h3, if_pos rfl] at fs
          have sl : slicB r z p = true := by
            have := h3
            unfold fitsB at this
            exact (Bool.and_eq_true_iff.mp this).1
          have pe := slic_le ro pz sl
          refine ⟨_, rfl, _, rfl, _, rfl, _, rfl, _, rfl, xr, _, _, _, rfl, rfl, SqL.of hxr, atI_nat (j := 1) rfl, _, rfl, ts, _, _, rfl, rfl, _, rfl, xr, _, _, _, rfl, rfl, SqL.of hxr, atI_nat (j := 3) rfl, ?_⟩
          refine ⟨a, d, z, p + r.text.length, r.to, rfl, ⟨l, s1 _ _ ha, hrow.same s1⟩, ho, hl, zl, pe, by omega, by omega, fun q H2 s2 hLq => ?_⟩
          obtain ⟨as, hq2, asl, hasw⟩ := id hLq.ex
          have wsl := waysN_len d.rules z hl n (p + r.text.length) r.to
          refine ⟨q, rfl, ⟨_, SqL.of hq2⟩, fun C hC => ?_⟩
          have hLf2 := hLf.same s2
          have e8 : (8 : Nat) ^ n ≤ 8 ^ 5 := Nat.pow_le_pow_right (by decide) (by omega)
          have e9 : (8 : Nat) ^ 5 = 32768 := by decide
          have s12 := s1.trans s2
          refine lc_list (K := K) (a := q) (xs := as.map V.ref) (g := gName 7) (tt := tYes) (fun j H3 => (∃ ys : List Addr, H3 C = some (.lst (ys.map V.ref)) ∧ ys.length = j ∧ ∀ (e : Nat) y w, ys[e]? = some y → (waysN d.rules z n (p + r.text.length) r.to)[e]? = some w → H3 y = some (.lst ((i :: w).map nv))) ∧ Same H2 H3) ⟨⟨[], upd_same, rfl, fun e y w h _ => by simp at h⟩, Same.new hC⟩ (fun j H3 _ z => SqL.of (z.2 _ _ hq2)) ?_ ?_
          · rintro j v H3 hv3 ⟨⟨ys, hY, yl, hE⟩, s3⟩
            obtain ⟨aw, eaw, rfl⟩ := refsAt hv3
            have jl : j < (waysN d.rules z n (p + r.text.length) r.to).length := by rw [← asl]; exact (List.getElem?_eq_some_iff.mp eaw).1
            have ew1 : (waysN d.rules z n (p + r.text.length) r.to)[j]? = some (waysN d.rules z n (p + r.text.length) r.to)[j] := List.getElem?_eq_getElem jl
            have haw := s3 _ _ (hasw j aw _ eaw ew1)
            refine ⟨rfl, ?_⟩
            refine ⟨_, rfl, (by show 1 ≤ sizeLine; decide), fun e1 he1 => ⟨_, rfl, e1, aw, _, _, rfl, rfl, upd_same, Same.new he1 _ _ haw, ?_, fun r2 hr2 => ?_⟩⟩
            · have := waysN_each d.rules z n (p + r.text.length) r.to _ (List.getElem_mem jl)
              rw [List.length_map]
              exact Nat.le_trans (show _ ≤ 1000 by rw [List.length_singleton]; omega) (by decide)
            · have nCr : C ≠ r2 := fun z => by rw [← z, upd_ne (ne_of_none hY he1).symm.symm] at hr2; rw [hY] at hr2; cases hr2
              have s4 : Same H3 (upd (upd H3 e1 (.lst [V.int (i : Int)])) r2 (.lst ([V.int (i : Int)] ++ (waysN d.rules z n (p + r.text.length) r.to)[j].map nv))) := (Same.new he1).trans (Same.new hr2)
              refine ⟨_, s4 _ _ hY, by rw [List.length_map]; exact small1 (by omega), ⟨ys ++ [r2], by rw [upd_same, List.map_append]; rfl, by rw [List.length_append, yl]; rfl, fun e y w e3 e4 => ?_⟩, Same.put (s3.trans s4) hC⟩
              rcases Nat.lt_or_ge e ys.length with q1 | q1
              · rw [List.getElem?_append_left q1] at e3
                have hy := hE e y w e3 e4
                rw [upd_ne (ne_of hy hY (fun z => ?_))]
                · exact s4 _ _ hy
                · have e5 := HO.lst.inj z
                  rw [List.map_cons] at e5
                  cases ys with
                  | nil => exact absurd q1 (Nat.not_lt_zero _)
                  | cons y0 ys0 => rw [List.map_cons] at e5; cases (List.cons.inj e5).1
              · rw [List.getElem?_append_right q1] at e3
                have e6 : e - ys.length = 0 := by
                  have := (List.getElem?_eq_some_iff.mp e3).1
                  rw [List.length_singleton] at this
                  omega
                rw [e6] at e3
                obtain rfl := Option.some.inj e3
                have e7 : e = j := by omega
                subst e7
                rw [ew1] at e4
                obtain rfl := Option.some.inj e4
                rw [upd_ne nCr.symm, upd_same]
                rfl
          · rintro H3 ⟨⟨ys, hY, yl, hE⟩, s3⟩
            obtain ⟨fs0, hf0, fsl, hfs⟩ := (hLf2.same s3).ex
            have lA : (waysI d.rules z n p m i).length ≤ 8 * 8 ^ 5 := Nat.le_trans wl0 (Nat.mul_le_mul (by omega) e8)
            rw [List.length_map] at yl
            refine ⟨f, C, _, _, rfl, rfl, hf0, hY, ?_, fun r3 hr3 => ?_⟩
            · rw [List.length_map, List.length_map]
              exact Nat.le_trans (show _ ≤ 1000000 by omega) (by decide)
            · refine ⟨⟨r3, _, _, rfl, ?_⟩, s12.trans (s3.trans (Same.new hr3))⟩
              rw [fs]
              refine LLs.cat (hLf2.same s3) ⟨ys, hY, by rw [List.length_map]; omega, fun e y w e3 e4 => ?_⟩ hf0 hY (Same.new hr3) upd_same
              rw [List.getElem?_map] at e4
              cases e10 : (waysN d.rules z n (p + r.text.length) r.to)[e]? with
              | none => rw [e10] at e4; cases e4
              | some w0 =>
                rw [e10] at e4
                obtain rfl := Option.some.inj e4
                exact hE e y w0 e3 e10
        · rw [if_neg h3, List.append_nil] at fs
          rw [fs]
          exact ⟨⟨f, _, _, rfl, hLf⟩, s1⟩
      · have h3 : decide (r.mode = m) = false := by simpa using h2
        rw [h3, Bool.false_and, if_neg (by decide), List.append_nil] at fs
        rw [fs]
        exact ⟨⟨f, _, _, rfl, hLf⟩, s1⟩
    · rintro σ' H' ⟨⟨f, o5, o6, rfl, hLf⟩, s1⟩
      rw [Int.toNat_natCast] at hLf
      exact ⟨_, rfl, k f _ s1 hLf⟩
end
end Sx

set_option Elab.async false
set_option linter.all false
set_option maxRecDepth 100000
set_option maxHeartbeats 1000000
namespace Sx
open PySem PySem.Spec PyProof.Rows L2 SxA
/-! ### the cells of a way -/
def cellsF (rs : List RD) (w : List Nat) : List Int := w.flatMap fun k => match rs[k]? with
  | some r => r.cells
  | none => []
theorem cellsF_snoc (rs : List RD) (w : List Nat) (k : Nat) (r : RD) (h : rs[k]? = some r) : cellsF rs (w ++ [k]) = cellsF rs w ++ r.cells := by
  unfold cellsF
  rw [List.flatMap_append]
  simp only [List.flatMap_cons, List.flatMap_nil, List.append_nil, h]
theorem cellsF_len (rs : List RD) (ho : ∀ r ∈ rs, r.ok) : ∀ w : List Nat, (cellsF rs w).length ≤ 100 * w.length
  | [] => Nat.le_refl _
  | k :: w => by
    have ih := cellsF_len rs ho w
    unfold cellsF at ih ⊢
    rw [List.flatMap_cons, List.length_append, List.length_cons]
    have h1 : (match rs[k]? with
      | some r => r.cells
      | none => [] : List Int).length ≤ 100 := by
      split
      · rename_i r e
        exact (ho r (List.mem_of_getElem? e)).cl
      · exact Nat.zero_le _
    omega
def spLawCells : Sp := fun vs H Q _ => ∃ (a b : Addr) (d : TD) (w : List Nat), vs = [.ref a, .ref b] ∧ RulesO H a d ∧ (∀ r ∈ d.rules, r.ok) ∧ H b = some (.lst (w.map nv)) ∧ w.length ≤ 100 ∧ (∀ k ∈ w, k < d.rules.length) ∧
  ∀ q H', Same H H' → H' q = some (.lst ((cellsF d.rules w).map V.int)) → H q = none → Q (.ref q) H'
section
variable {P : Program} {w : World} {K : PySem.W.Frag} {mg : Str → Option Value} {base : Heap}
abbrev nsLawCells : List Str := ["rules", "way", "found", "k"]
theorem scLawCells : FnScope nsLawCells ["rules", "way"] (defScope sLawCells) := ⟨rfl, rfl, rfl, by decide +kernel, rfl, by decide +kernel, by decide +kernel⟩
theorem ok_law_cells (t : T K mg) : Ok P w K mg base 1 "_law_cells" ["rules", "way"] spLawCells := by
  refine mkOk t.d_law_cells t.g_law_cells scLawCells (fun vs H Q E h => ?_) (fun _ _ _ _ _ _ us hl => match us, hl with | [_, _], _ => rfl) fun cdv A outer s H vs Q E hr h => ?_
  · obtain ⟨a, b, d, w, rfl, _⟩ := h; rfl
  obtain ⟨a, b, d, w, rfl, ⟨l, ha, hrow⟩, ho, hb, wl, wk, k⟩ := h
  refine ⟨_, pss_cons (ps_set (i := 2) scLawCells.nd rfl (Or.inl rfl) (pe_lst pa_nil))
    (pss_cons (ps_for PassesOwn.never rfl (pi_list (pv 1)) (pg_name (i := 3) scLawCells.nd rfl (Or.inl rfl))
      (pss_one (ps_set (i := 2) scLawCells.nd rfl (Or.inl rfl) (pe_op op_cat (pv 2) (pe_ix ix_list (pe_ix ix_list (pe_ix ix_list (pv 0) pe_int (fun _ _ => rfl)) (pv 3) (fun _ _ => rfl)) pe_int (fun _ _ => rfl))))))
    (pss_one (ps_ret (pv 2)))), ?_⟩
  obtain ⟨vs, hl1, vl, hv⟩ := hrow.ex
  refine ⟨(by show 0 ≤ sizeLine; decide), fun F hF => ?_⟩
  have s0 : Same H (upd H F (.lst [])) := Same.new hF
  refine ⟨_, rfl, b, rfl, ⟨_, SqL.of (s0 _ _ hb)⟩, ?_⟩
  refine for_list (K := K) (a := b) (xs := w.map nv) (fun i σ' H' => (∃ (f : Addr) (o3 : Option V), σ' = [some (.ref a), some (.ref b), some (.ref f), o3] ∧ H' f = some (.lst ((cellsF d.rules (w.take i)).map V.int)) ∧ H f = none) ∧ Same H H') ⟨⟨F, none, rfl, upd_same, hF⟩, s0⟩ (fun i σ' H' _ p => SqL.of (p.2 _ _ hb)) ?_ ?_
  · rintro i v σ' H1 hvi ⟨⟨f, o3, rfl, hf, hf0⟩, s1⟩
    obtain ⟨x, hx, rfl⟩ : ∃ x, w[i]? = some x ∧ v = nv x := by
      rw [List.getElem?_map] at hvi
      cases e : w[i]? with
      | none => rw [e] at hvi; cases hvi
      | some y => rw [e] at hvi; exact ⟨y, rfl, (Option.some.inj hvi).symm⟩
    have xl := wk x (List.mem_of_getElem? hx)
    have hri : d.rules[x]? = some d.rules[x] := List.getElem?_eq_getElem xl
    obtain ⟨v, hvi⟩ : ∃ v, vs[x]? = some v := ⟨_, List.getElem?_eq_getElem (by omega)⟩
    obtain ⟨xr, cr, rfl, hxr, hcr⟩ := (hv x _ _ hvi hri).same s1
    have cl := (ho _ (List.getElem_mem xl)).cl
    have cs := cellsF_snoc d.rules (w.take i) x _ hri
    have fl := cellsF_len d.rules ho (w.take i)
    rw [List.length_take] at fl
    have tk : w.take (i + 1) = w.take i ++ [x] := by rw [List.take_add_one, hx]; rfl
    refine ⟨_, rfl, _, rfl, a, _, _, _, rfl, rfl, SqL.of (s1 _ _ ha), atI_nat (j := 2) rfl, _, rfl, l, _, _, _, rfl, rfl, SqL.of (s1 _ _ hl1), atI_nat hvi, xr, _, _, _, rfl, rfl, SqL.of hxr, atI_nat (j := 2) rfl, ?_⟩
    refine ⟨f, cr, _, _, rfl, rfl, hf, hcr, ?_, fun r3 hr3 => ⟨⟨r3, _, rfl, ?_, Sx.Same.none s1 _ hr3⟩, s1.trans (Same.new hr3)⟩⟩
    · rw [List.length_map, List.length_map]
      exact Nat.le_trans (show _ ≤ 1000000 by omega) (by decide)
    · rw [upd_same, tk, cs, List.map_append]
  · rintro σ' H' ⟨⟨f, o3, rfl, hf, hf0⟩, s1⟩
    rw [List.length_map, List.take_length] at hf
    exact ⟨_, rfl, k f _ s1 hf hf0⟩
end
end Sx

set_option Elab.async false
set_option linter.all false
set_option maxRecDepth 100000
set_option maxHeartbeats 1000000
namespace Sx
open PySem PySem.Spec PyProof.Rows L2 SxA
def OkS (ws : List Str) : Prop := ∀ s, s ∈ ws → PyData.strOk s = true
def pStrs (ws : List Str) : PyData := .list (ws.map PyData.str)
theorem lay_strs : ∀ {ws : List Str}, OkS ws → PyData.canLayAll0 (ws.map PyData.str) = true
  | [], _ => by simp [PyData.canLayAll0]
  | x :: r, h => by
    have := lay_strs (ws := r) fun s hs => h s (List.mem_cons_of_mem _ hs)
    have hx := h x List.mem_cons_self
    simp [PyData.canLayAll0, PyData.canLay0, hx, this]
theorem dep_strs : ∀ ws : List Str, PyData.depthAll (ws.map PyData.str) ≤ 5
  | [] => by simp [PyData.depthAll]
  | x :: r => by
    have := dep_strs r
    simp [PyData.depthAll, PyData.depth]
    omega
theorem shaped_strs {ws : List Str} (h : OkS ws) : SeqAt.shaped (pStrs ws) = true := by
  have h1 := dep_strs ws
  unfold SeqAt.shaped pStrs
  simp [PyData.canLay0, PyData.depth, lay_strs h]
  omega
theorem dpAll_strs {K : PySem.W.Frag} {H : Hp} : ∀ ws : List Str, DpAll K H (ws.map V.str) (ws.map PyData.str)
  | [] => .nil
  | x :: r => .cons (.str x) (dpAll_strs r)
theorem dp_strs {K : PySem.W.Frag} {H : Hp} {p : Addr} {ws : List Str} (h : H p = some (.lst (ws.map V.str))) : Dp K H (.ref p) (pStrs ws) := .lst (SqL.of h) (dpAll_strs ws)
theorem eqS_nil {K : PySem.W.Frag} {H : Hp} {p q : Addr} {ws : List Str} {Q : VK} (h : OkS ws) (hp : H p = some (.lst (ws.map V.str))) (hq : H q = some (.lst [])) (k : Q (.bl (decide (ws = []))) H) : rEqD K (.ref p) (.ref q) H Q := by
  refine ⟨pStrs ws, .list [], dp_strs hp, .lst (SqL.of hq) .nil, shaped_strs h, rfl, ?_⟩
  cases ws <;> exact k

theorem Dk.none {H H' : Hp} {d l b : Addr} (h : Dk H' d l) (s : But d H H') (e : H' b = Option.none) : H b = Option.none := by
  obtain ⟨ns, a, x, y, e1, _⟩ := h.ex
  exact Sx.But.none s e1 e
theorem sum_ones : ∀ ys : List Str, (∀ y ∈ ys, y.length = 1 ∧ PyData.strOk y = true) → (ys.map (·.length)).sum ≤ ys.length
  | [], _ => Nat.le_refl _
  | y :: ys, h => by
    have := sum_ones ys fun x hx => h x (.tail _ hx)
    have h1 := (h y (.head _)).1
    rw [List.map_cons, List.sum_cons, List.length_cons]
    omega
/-! ### the sides of a rule -/
def spLawSide : Sp := fun vs H Q _ => ∃ (d l : Addr) (z e : Str), vs = [.ref d, .str z, .str e] ∧ Dk H d l ∧ (∀ c ∈ (z ++ e).cps.toList, PyData.strOk ⟨#[c]⟩ = true) ∧ (z ++ e).length ≤ 100 ∧ ∀ (o : Option Str) H', Dk H' d l → But d H H' → Q (oV o) H'
section
variable {P : Program} {w : World} {K : PySem.W.Frag} {mg : Str → Option Value} {base : Heap}
abbrev nsLawSide : List Str := ["deck", "signs", "end", "chosen", "sign"]
theorem scLawSide : FnScope nsLawSide ["deck", "signs", "end"] (defScope sLawSide) := ⟨rfl, rfl, rfl, by decide +kernel, rfl, by decide +kernel, by decide +kernel⟩
theorem ok_law_side (t : T K mg) : Ok P w K mg base 2 "_law_side" ["deck", "signs", "end"] spLawSide := by
  refine mkOk t.d_law_side t.g_law_side scLawSide (fun vs H Q E h => ?_) (fun _ _ _ _ _ _ us hl => match us, hl with | [_, _, _], _ => rfl) fun cdv A outer s H vs Q E hr h => ?_
  · obtain ⟨d, l, z, e, rfl, _⟩ := h; rfl
  obtain ⟨d, l, z, e, rfl, hD, hok, hl, k⟩ := h
  have hr1 : Room 1 _ := hr.mono (by decide)
  refine ⟨_, pss_cons (ps_if (pt_cmpR op_gt (pe_ok (ok_law_draw t) hr1 rfl (pa_cons (pv 0) (pa_cons pe_int pa_nil))) pe_int (nomark _))
      (pss_one (ps_ret pe_non))
      pss_nil)
    (pss_cons (ps_setLc (i := 3) (own := [("sign", 4)]) (g := gName 4) (by rfl) scLawSide.nd rfl rfl (sw_true rfl rfl rfl (by decide +kernel)) (pi_str (pe_op op_add_str (pv 1) (pv 2))) (blkOk_by (own := [("sign", 4)]) (N := nsLawSide) (sc := defScope sLawSide) (by decide +kernel)) (fun _ _ _ _ _ => pg_name (i := 4) scLawSide.nd rfl (Or.inl rfl)) (fun _ _ _ _ _ => pts_one (pt_cmpR op_eq (pe_ok (ok_law_draw t) hr1 rfl (pa_cons (pv 0) (pa_cons pe_int pa_nil))) pe_int (nomark _))) (fun _ _ _ _ _ => (pv 4)))
    (pss_cons (ps_if (pt_cmpR (op_eqD (hu64 hr)) (pv 3) (pe_lst pa_nil) (nomark _))
      (pss_one (ps_ret (pv 2)))
      pss_nil)
    (pss_one (ps_ret (pe_join pe_str (pv 3)))))), ?_⟩
  refine ⟨_, rfl, d, l, 3, rfl, hD, by decide, by decide, fun v H1 v0 v1 hD1 b1 => ⟨_, _, rfl, rfl, _, rfl, ?_⟩⟩
  refine ite2 (fun h1 => k none H1 hD1 b1) (fun h1 => ?_)
  have zl : z.length + e.length ≤ 100 := by rw [← len_app]; exact hl
  refine ⟨_, rfl, _, rfl, z, e, rfl, rfl, Nat.le_trans zl (by decide), _, rfl, fun D hDn => ?_⟩
  have hDn0 : H D = none := hD1.none b1 hDn
  have ndD : d ≠ D := hD1.ne hDn
  have nlD : l ≠ D := hD1.neL hDn
  refine lc_it (walk_str (z := z ++ e)) (g := gName 4) (fun i H' => (∃ ys : List Str, H' D = some (.lst (ys.map V.str)) ∧ ys.length ≤ i ∧ ∀ y ∈ ys, y.length = 1 ∧ PyData.strOk y = true) ∧ Dk H' d l ∧ But d H H') ⟨⟨[], upd_same, Nat.le_refl _, fun y h => by cases h⟩, hD1.upd ndD nlD, b1.new hDn0⟩ (fun i H' _ _ => trivial) ?_ ?_
  · rintro i x H2 H3 hi ⟨⟨ys, hY, yl, hys⟩, hD2, b2⟩ ⟨rfl, c, hc, rfl⟩
    have il : i < 100 := by have : (z ++ e).cps.size = (z ++ e).length := rfl; omega
    refine ⟨rfl, ?_⟩
    refine ⟨_, rfl, d, l, 2, rfl, hD2, by decide, by decide, fun v H4 v0 v1 hD4 b4 => ⟨rfl, _, rfl, ?_⟩⟩
    have hY4 : H4 D = some (.lst (ys.map V.str)) := b4 _ _ hY ndD.symm
    refine ite2 (fun h2 => ?_) (fun h2 => ⟨⟨ys, hY4, by omega, hys⟩, hD4, b2.trans b4⟩)
    refine ⟨_, rfl, _, hY4, by rw [List.length_map]; exact small1 (by omega), ⟨ys ++ [⟨#[c]⟩], by rw [upd_same, List.map_append]; rfl, by rw [List.length_append]; exact Nat.succ_le_succ yl, fun y hy => ?_⟩, hD4.upd ndD nlD, ?_⟩
    · rcases List.mem_append.mp hy with h | h
      · exact hys y h
      · rw [List.mem_singleton.mp h]
        exact ⟨rfl, hok c (Array.mem_toList_iff.mpr (Array.mem_of_getElem? hc))⟩
    · exact Sx.But.new (b2.trans b4) hDn0
  · rintro H2 ⟨⟨ys, hY, yl, hys⟩, hD2, b2⟩
    have yl0 := yl
    have yl : ys.length ≤ 100 := Nat.le_trans yl hl
    have sm := sum_ones ys hys
    refine ⟨_, rfl, (by show 0 ≤ sizeLine; decide), fun E1 hE1 => ?_⟩
    refine eqS_nil (ws := ys) (fun y hy => (hys y hy).2) (Same.new hE1 _ _ hY) upd_same ⟨_, rfl, ?_⟩
    have hD3 := hD2.upd (o := .lst []) (hD2.ne hE1) (hD2.neL hE1)
    have b3 := b2.new (o := .lst []) (hD2.none b2 hE1)
    refine ite2 (fun h2 => ⟨_, rfl, k (some e) _ hD3 b3⟩) (fun h2 => ?_)
    refine ⟨⟨_, rfl⟩, _, rfl, _, D, ys, rfl, rfl, .inl (SqL.of (Same.new hE1 _ _ hY)), ?_, k (some _) _ hD3 b3⟩
    have e0 : (Str.ofString "").length = 0 := rfl
    rw [e0]
    omega
end
end Sx

set_option Elab.async false
set_option linter.all false
set_option maxRecDepth 100000
set_option maxHeartbeats 1000000
namespace Sx
open PySem PySem.Spec PyProof.Rows L2 SxA
/-- a rule as it is drawn, of M modes -/
structure RD.dr (r : RD) (M : Int) : Prop where
  ok : r.ok
  tl : r.text.length ≤ 3
  cl : r.cells.length ≤ 3
  mo : 0 ≤ r.mode ∧ r.mode < M
  to : 0 ≤ r.to ∧ r.to < M
/-- signs as they are drawn -/
structure SgOk (z : Str) : Prop where
  ln : 2 ≤ z.length ∧ z.length ≤ 10
  ok : ∀ c ∈ z.cps.toList, PyData.strOk ⟨#[c]⟩ = true
theorem SgOk.with_ {z e : Str} (h : SgOk z) (he : e.length ≤ 10) (hok : ∀ c ∈ e.cps.toList, PyData.strOk ⟨#[c]⟩ = true) : (∀ c ∈ (z ++ e).cps.toList, PyData.strOk ⟨#[c]⟩ = true) ∧ (z ++ e).length ≤ 100 := by
  constructor
  · intro c hc
    have e1 : (z ++ e).cps.toList = z.cps.toList ++ e.cps.toList := by
      show (z.cps ++ e.cps).toList = _
      rw [Array.toList_append]
    rw [e1] at hc
    exact (List.mem_append.mp hc).elim (h.ok c) (hok c)
  · rw [len_app]
    have := h.ln
    omega
theorem ixS {z : Str} (h : z.length ≤ 100) {v : Int} (h0 : 0 ≤ v) (h1 : v < (z.length : Int)) : ∃ c : Nat, atI z.cps.toList v = some c ∧ c ∈ z.cps.toList := by
  obtain ⟨n, rfl⟩ : ∃ n : Nat, v = (n : Int) := ⟨v.toNat, by omega⟩
  have zn : z.cps.toList.length = z.length := by simp [Str.length]
  have e1 : z.cps.toList[n]? = some (z.cps.toList[n]'(by omega)) := List.getElem?_eq_getElem _
  exact ⟨_, atI_nat e1, List.getElem_mem _⟩
theorem five {v : Int} (h0 : 0 ≤ v) (h1 : v < 5) : ∃ n : Nat, atI [V.int 1, .int 1, .int 2, .int 2, .int 3] v = some (.int (n : Int)) ∧ 1 ≤ n ∧ n ≤ 3 := by
  obtain rfl | rfl | rfl | rfl | rfl : v = 0 ∨ v = 1 ∨ v = 2 ∨ v = 3 ∨ v = 4 := by omega
  · exact ⟨1, rfl, by decide, by decide⟩
  · exact ⟨1, rfl, by decide, by decide⟩
  · exact ⟨2, rfl, by decide, by decide⟩
  · exact ⟨2, rfl, by decide, by decide⟩
  · exact ⟨3, rfl, by decide, by decide⟩
theorem six {v : Int} (h0 : 0 ≤ v) (h1 : v < 6) : ∃ n : Nat, atI [V.int 1, .int 1, .int 1, .int 2, .int 2, .int 3] v = some (.int (n : Int)) ∧ 1 ≤ n ∧ n ≤ 3 := by
  obtain rfl | rfl | rfl | rfl | rfl | rfl : v = 0 ∨ v = 1 ∨ v = 2 ∨ v = 3 ∨ v = 4 ∨ v = 5 := by omega
  · exact ⟨1, rfl, by decide, by decide⟩
  · exact ⟨1, rfl, by decide, by decide⟩
  · exact ⟨1, rfl, by decide, by decide⟩
  · exact ⟨2, rfl, by decide, by decide⟩
  · exact ⟨2, rfl, by decide, by decide⟩
  · exact ⟨3, rfl, by decide, by decide⟩
def spLawRule : Sp := fun vs H Q _ => ∃ (d l : Addr) (z : Str) (M : Int), vs = [.ref d, .str z, .int M, .bl true] ∧ Dk H d l ∧ SgOk z ∧ 0 < M ∧ M ≤ 10 ∧
  ∀ (a c : Addr) (r : RD) H', H a = none → H c = none → a ≠ c → H' a = some (.lst (rowV r c)) → H' c = some (.lst (r.cells.map V.int)) → r.dr M → Dk H' d l → But d H H' → Q (.ref a) H'
section
variable {P : Program} {w : World} {K : PySem.W.Frag} {mg : Str → Option Value} {base : Heap}
abbrev nsLawRule : List Str := ["deck", "signs", "modes", "sides", "text", "k", "cells", "row"]
theorem scLawRule : FnScope nsLawRule ["deck", "signs", "modes", "sides"] (defScope sLawRule) := ⟨rfl, rfl, rfl, by decide +kernel, rfl, by decide +kernel, by decide +kernel⟩
theorem ok_law_rule (t : T K mg) : Ok P w K mg base 3 "_law_rule" ["deck", "signs", "modes", "sides"] spLawRule := by
  refine mkOk t.d_law_rule t.g_law_rule scLawRule (fun vs H Q E h => ?_) (fun _ _ _ _ _ _ us hl => match us, hl with | [_, _, _, _], _ => rfl) fun cdv A outer s H vs Q E hr h => ?_
  · obtain ⟨d, l, z, M, rfl, _⟩ := h; rfl
  obtain ⟨d, l, z, M, rfl, hD, hz, m0, m1, k⟩ := h
  have hr1 : Room 1 _ := hr.mono (by decide)
  have hr2 : Room 2 _ := hr.mono (by decide)
  refine ⟨_, C8.pss_cut (ps_set (i := 4) scLawRule.nd rfl (Or.inl rfl) (pe_join pe_str (pe_lc (own := [("k", 5)]) (g := gName 5) (tt := tYes) rfl scLawRule.nd (pi_range1 rfl t.f_range (pa_cons (pe_ix ix_list (pe_lst (pa_cons pe_int (pa_cons pe_int (pa_cons pe_int (pa_cons pe_int (pa_cons pe_int pa_nil)))))) (pe_ok (ok_law_draw t) hr1 rfl (pa_cons (pv 0) (pa_cons pe_int pa_nil))) (fun _ _ => rfl)) pa_nil)) (blkOk_by (own := [("k", 5)]) (N := nsLawRule) (sc := defScope sLawRule) (by decide +kernel)) (fun _ _ _ _ _ => pg_name (i := 5) scLawRule.nd rfl (Or.inl rfl)) (fun _ _ _ _ _ => pts_nil) (fun _ _ _ _ _ => (pe_ix ix_str (pv 1) (pe_ok (ok_law_draw t) hr1 rfl (pa_cons (pv 0) (pa_cons (pe_callB call_len_str rfl t.f_len boot_len (pa_cons (pv 1) pa_nil)) pa_nil))) (fun _ _ => rfl))))))
    (C8.pss_cut (ps_setLc (i := 6) (own := [("k", 5)]) (g := gName 5) (tt := tYes) (by rfl) scLawRule.nd rfl rfl (sw_true rfl rfl rfl (by decide +kernel)) (pi_range1 rfl t.f_range (pa_cons (pe_ix ix_list (pe_lst (pa_cons pe_int (pa_cons pe_int (pa_cons pe_int (pa_cons pe_int (pa_cons pe_int (pa_cons pe_int pa_nil))))))) (pe_ok (ok_law_draw t) hr1 rfl (pa_cons (pv 0) (pa_cons pe_int pa_nil))) (fun _ _ => rfl)) pa_nil)) (blkOk_by (own := [("k", 5)]) (N := nsLawRule) (sc := defScope sLawRule) (by decide +kernel)) (fun _ _ _ _ _ => pg_name (i := 5) scLawRule.nd rfl (Or.inl rfl)) (fun _ _ _ _ _ => pts_nil) (fun _ _ _ _ _ => (pe_op op_add pe_int (pe_ok (ok_law_draw t) hr1 rfl (pa_cons (pv 0) (pa_cons pe_int pa_nil))))))
    (pss_cons (ps_set (i := 7) scLawRule.nd rfl (Or.inl rfl) (pe_lst (pa_cons (pe_ok (ok_law_draw t) hr1 rfl (pa_cons (pv 0) (pa_cons (pv 2) pa_nil))) (pa_cons (pv 4) (pa_cons (pv 6) (pa_cons (pe_ok (ok_law_draw t) hr1 rfl (pa_cons (pv 0) (pa_cons (pv 2) pa_nil))) (pa_cons pe_non (pa_cons pe_non pa_nil))))))))
    (pss_cons (ps_if (pt_val (pv 3))
      (pss_cons (ps_asg (pe_ok (ok_law_side t) hr2 rfl (pa_cons (pv 0) (pa_cons (pv 1) (pa_cons pe_str pa_nil)))) (pg_sub (pv 7) pe_int set_list))
    (pss_one (ps_asg (pe_ok (ok_law_side t) hr2 rfl (pa_cons (pv 0) (pa_cons (pv 1) (pa_cons pe_str pa_nil)))) (pg_sub (pv 7) pe_int set_list))))
      pss_nil)
    (pss_one (ps_ret (pv 7)))))), ?_⟩
  have zl := hz.ln
  have zs : z.length ≤ sizeLine := Nat.le_trans (show _ ≤ 1000 by omega) (by decide)
  -- the text
  refine ⟨fun σ' H' => (∃ tx : Str, σ' = [some (.ref d), some (.str z), some (.int M), some (.bl true), some (.str tx), none, none, none] ∧ 1 ≤ tx.length ∧ tx.length ≤ 3) ∧ Dk H' d l ∧ But d H H', ?_, ?_⟩
  · refine ⟨⟨_, rfl⟩, (by show 5 ≤ sizeLine; decide), fun A1 hA1 => ?_⟩
    have hD1 := hD.upd (o := .lst [V.int 1, .int 1, .int 2, .int 2, .int 3]) (hD.ne hA1) (hD.neL hA1)
    have b1 : But d H (upd H A1 (.lst [V.int 1, .int 1, .int 2, .int 2, .int 3])) := But.of (Same.new hA1)
    have nA : A1 ≠ d := (hD.ne hA1).symm
    refine ⟨_, rfl, d, l, 5, rfl, hD1, by decide, by decide, fun v H2 v0 v1 hD2 b2 => ?_⟩
    obtain ⟨n, hn, n1, n3⟩ := five v0 v1
    refine ⟨A1, _, _, _, rfl, rfl, SqL.of (b2 _ _ upd_same nA), hn, _, rfl, by omega, by omega, fun D hDn => ?_⟩
    have b12 := b1.trans b2
    have hDn0 : H D = none := hD2.none b12 hDn
    have ndD : d ≠ D := hD2.ne hDn
    have nlD : l ≠ D := hD2.neL hDn
    refine lc_range (lo := 0) (n := ((n : Nat) : Int).toNat) (fun j H3 => (∃ ys : List Str, H3 D = some (.lst (ys.map V.str)) ∧ ys.length = j ∧ ∀ y ∈ ys, y.length = 1 ∧ PyData.strOk y = true) ∧ Dk H3 d l ∧ But d H H3) ⟨⟨[], upd_same, rfl, fun y h => by cases h⟩, hD2.upd ndD nlD, Sx.But.new b12 hDn0⟩ ?_ ?_
    · rintro j H3 hj ⟨⟨ys, hY, yl, hys⟩, hD3, b3⟩
      refine ⟨rfl, ?_⟩
      refine ⟨_, rfl, _, rfl, _, rfl, z, rfl, zs, d, l, (z.length : Int), rfl, hD3, by omega, by omega, fun v2 H4 v20 v21 hD4 b4 => ?_⟩
      obtain ⟨c, hc, hcm⟩ := ixS (by omega) v20 v21
      have hY4 : H4 D = some (.lst (ys.map V.str)) := b4 _ _ hY ndD.symm
      refine ⟨z, _, c, rfl, rfl, zs, hc, _, hY4, by rw [List.length_map]; exact small1 (by omega), ⟨ys ++ [⟨#[c]⟩], by rw [upd_same, List.map_append]; rfl, by rw [List.length_append, yl]; rfl, fun y hy => ?_⟩, hD4.upd ndD nlD, Sx.But.new (b3.trans b4) hDn0⟩
      rcases List.mem_append.mp hy with h | h
      · exact hys y h
      · rw [List.mem_singleton.mp h]
        exact ⟨rfl, hz.ok c hcm⟩
    · rintro H3 ⟨⟨ys, hY, yl, hys⟩, hD3, b3⟩
      have sm := sum_ones ys hys
      have jl := PySem.W.KT.join_ones ys fun y hy => (hys y hy).1
      rw [Int.toNat_natCast] at yl
      have e0 : (Str.ofString "").length = 0 := rfl
      exact ⟨_, D, ys, rfl, rfl, .inl (SqL.of hY), by rw [e0]; omega, ⟨_, rfl, by rw [jl]; omega, by rw [jl]; omega⟩, hD3, b3⟩
  rintro σ' H' ⟨⟨tx, rfl, tx1, tx3⟩, hD', b'⟩
  refine ⟨fun σ2 H2 => (∃ (c : Addr) (cs : List Int), σ2 = [some (.ref d), some (.str z), some (.int M), some (.bl true), some (.str tx), none, some (.ref c), none] ∧ H c = none ∧ H2 c = some (.lst (cs.map V.int)) ∧ 1 ≤ cs.length ∧ cs.length ≤ 3) ∧ Dk H2 d l ∧ But d H H2, ?_, ?_⟩
  · refine ⟨(by show 6 ≤ sizeLine; decide), fun A1 hA1 => ?_⟩
    have hD1 := hD'.upd (o := .lst [V.int 1, .int 1, .int 1, .int 2, .int 2, .int 3]) (hD'.ne hA1) (hD'.neL hA1)
    have b1 : But d H (upd H' A1 (.lst [V.int 1, .int 1, .int 1, .int 2, .int 2, .int 3])) := b'.trans (But.of (Same.new hA1))
    have nA : A1 ≠ d := (hD'.ne hA1).symm
    refine ⟨_, rfl, d, l, 6, rfl, hD1, by decide, by decide, fun v H2 v0 v1 hD2 b2 => ?_⟩
    obtain ⟨n, hn, n1, n3⟩ := six v0 v1
    refine ⟨A1, _, _, _, rfl, rfl, SqL.of (b2 _ _ upd_same nA), hn, _, rfl, by omega, by omega, fun D hDn => ?_⟩
    have b12 := b1.trans b2
    have hDn0 : H D = none := hD2.none b12 hDn
    have ndD : d ≠ D := hD2.ne hDn
    have nlD : l ≠ D := hD2.neL hDn
    refine lc_range (lo := 0) (n := ((n : Nat) : Int).toNat) (fun j H3 => (∃ ys : List Int, H3 D = some (.lst (ys.map V.int)) ∧ ys.length = j) ∧ Dk H3 d l ∧ But d H H3) ⟨⟨[], upd_same, rfl⟩, hD2.upd ndD nlD, Sx.But.new b12 hDn0⟩ ?_ ?_
    · rintro j H3 hj ⟨⟨ys, hY, yl⟩, hD3, b3⟩
      refine ⟨rfl, ?_⟩
      refine ⟨_, rfl, d, l, 3, rfl, hD3, by decide, by decide, fun v2 H4 v20 v21 hD4 b4 => ?_⟩
      have hY4 : H4 D = some (.lst (ys.map V.int)) := b4 _ _ hY ndD.symm
      exact ⟨_, _, rfl, rfl, _, hY4, by rw [List.length_map]; exact small1 (by omega), ⟨ys ++ [1 + v2], by rw [upd_same, List.map_append]; rfl, by rw [List.length_append, yl]; rfl⟩, hD4.upd ndD nlD, Sx.But.new (b3.trans b4) hDn0⟩
    · rintro H3 ⟨⟨ys, hY, yl⟩, hD3, b3⟩
      rw [Int.toNat_natCast] at yl
      exact ⟨⟨D, ys, rfl, hDn0, hY, by omega, by omega⟩, hD3, b3⟩
  rintro σ2 H2 ⟨⟨c, cs, rfl, hc0, hc, c1, c3⟩, hD2, b2⟩
  have ndc : d ≠ c := fun z => by
    obtain ⟨ns, a, x, y, e, _⟩ := hD.ex
    rw [z, hc0] at e
    cases e
  refine ⟨_, rfl, _, rfl, d, l, M, rfl, hD2, m0, by omega, fun mo H3 mo0 mo1 hD3 b3 => ?_⟩
  refine ⟨_, rfl, _, rfl, _, rfl, _, rfl, d, l, M, rfl, hD3, m0, by omega, fun to H4 to0 to1 hD4 b4 => ?_⟩
  refine ⟨(by show 6 ≤ sizeLine; decide), fun A hA => ?_⟩
  have b24 := b2.trans (b3.trans b4)
  have hA0 : H A = none := hD4.none b24 hA
  have ndA : d ≠ A := hD4.ne hA
  have nlA : l ≠ A := hD4.neL hA
  have hc4 : H4 c = some (.lst (cs.map V.int)) := (b3.trans b4) _ _ hc ndc.symm
  have nAc : A ≠ c := fun z => by rw [z, hc4] at hA; cases hA
  have hD5 := hD4.upd (o := .lst [V.int mo, V.str tx, V.ref c, V.int to, V.non, V.non]) ndA nlA
  have b5 : But d H (upd H4 A (.lst [V.int mo, V.str tx, V.ref c, V.int to, V.non, V.non])) := Sx.But.new b24 hA0
  obtain ⟨w1, w2⟩ := hz.with_ (e := Str.ofString "^") (by decide +kernel) (by decide +kernel)
  obtain ⟨w3, w4⟩ := hz.with_ (e := Str.ofString "$") (by decide +kernel) (by decide +kernel)
  refine ⟨_, rfl, _, rfl, iteT ?_⟩
  refine ⟨_, rfl, _, rfl, d, l, z, _, rfl, hD5, w1, w2, fun o1 H6 hD6 b6 => ?_⟩
  refine ⟨_, rfl, A, _, _, 4, rfl, rfl, b6 _ _ upd_same ndA.symm, rfl, ?_⟩
  have hD7 := hD6.upd (o := .lst ([V.int mo, V.str tx, V.ref c, V.int to, V.non, V.non].set 4 (oV o1))) ndA nlA
  have b7 : But d H (upd H6 A (.lst ([V.int mo, V.str tx, V.ref c, V.int to, V.non, V.non].set 4 (oV o1)))) := Sx.But.new (b5.trans b6) hA0
  refine ⟨_, rfl, _, rfl, d, l, z, _, rfl, hD7, w3, w4, fun o2 H8 hD8 b8 => ?_⟩
  refine ⟨_, rfl, A, _, _, 5, rfl, rfl, b8 _ _ upd_same ndA.symm, rfl, ?_⟩
  have hc8 : H8 c = some (.lst (cs.map V.int)) := b8 _ _ (by rw [upd_ne nAc.symm]; exact b6 _ _ (by rw [upd_ne nAc.symm]; exact hc4) ndc.symm) ndc.symm
  refine ⟨_, rfl, k A c ⟨mo, tx, cs, to, o1, o2⟩ _ hA0 hc0 nAc upd_same (by rw [upd_ne nAc.symm]; exact hc8) ⟨⟨fun e => ?_, ⟨by show 0 < tx.length; omega, by show tx.length ≤ 100; omega⟩, fun e => ?_, by show cs.length ≤ 100; omega⟩, tx3, c3, ⟨mo0, mo1⟩, ⟨to0, to1⟩⟩ (hD8.upd ndA nlA) (Sx.But.new (b7.trans b8) hA0)⟩
  · have e2 : tx = Str.ofString "" := e
    rw [e2] at tx1
    exact absurd tx1 (by decide)
  · have e2 : cs = [] := e
    rw [e2] at c1
    exact absurd c1 (by decide)
end
end Sx

set_option Elab.async false
set_option linter.all false
set_option maxRecDepth 100000
set_option maxHeartbeats 1000000
namespace Sx
open PySem PySem.Spec PyProof.Rows L2 SxA
/-- a rule of a drawn table -/
structure RD.dr4 (r : RD) (M : Int) : Prop where
  ok : r.ok
  tl : r.text.length ≤ 4
  cl : r.cells.length ≤ 3
  mo : 0 ≤ r.mode ∧ r.mode < M
  to : 0 ≤ r.to ∧ r.to < M
theorem RD.dr.d4 {r : RD} {M : Int} (h : r.dr M) : r.dr4 M := ⟨h.ok, Nat.le_succ_of_le h.tl, h.cl, h.mo, h.to⟩
structure RwF (H : Hp) (F : Addr) (rs : List RD) (M : Int) : Prop where
  rows : RowsL H F rs
  ok : ∀ r ∈ rs, r.dr4 M
theorem RwF.refs {H : Hp} {F : Addr} {rs : List RD} {M : Int} (h : RwF H F rs M) {vs : List V} (hF : H F = some (.lst vs)) : vs.length = rs.length ∧ ∀ (i : Nat) v r, vs[i]? = some v → rs[i]? = some r → RowO H v r := by
  obtain ⟨vs', h1, h2, h3⟩ := h.rows.ex
  obtain rfl := HO.lst.inj (Option.some.inj (h1.symm.trans hF))
  exact ⟨h2, h3⟩
theorem RwF.push {H : Hp} {F a : Addr} {rs : List RD} {M : Int} {vs : List V} {r : RD} (h : RwF H F rs M) (hF : H F = some (.lst vs)) (ho : RowO H (.ref a) r) (hr : r.dr4 M) : RwF (upd H F (.lst (vs ++ [.ref a]))) F (rs ++ [r]) M := by
  obtain ⟨h2, h3⟩ := h.refs hF
  have ne : ∀ (v : V) (q : RD), RowO H v q → q.ok → v ∈ vs ++ [V.ref a] → RowO (upd H F (.lst (vs ++ [.ref a]))) v q := fun v q ⟨x, c, e, hx, hc⟩ qo hv => by
    have n0 : ∀ (l : List V) (i : Int) (l2 : List V), H F = some (.lst (.int i :: l2)) → False := fun _ i l2 z => by
      have e1 := HO.lst.inj (Option.some.inj (hF.symm.trans z))
      cases vs with
      | nil => cases e1
      | cons v0 vs0 =>
        rw [(List.cons.inj e1).1] at h3
        have e4 : rs[0]? = some (rs[0]'(by rw [← h2]; exact Nat.succ_pos _)) := List.getElem?_eq_getElem _
        obtain ⟨_, _, e5, _⟩ := h3 0 _ _ rfl e4
        cases e5
    have nx : x ≠ F := fun z => by rw [z] at hx; exact n0 [] _ _ hx
    have nc : c ≠ F := fun z => by
      rw [z] at hc
      cases e6 : q.cells with
      | nil => exact qo.c0 e6
      | cons y ys => rw [e6, List.map_cons] at hc; exact n0 [] _ _ hc
    exact ⟨x, c, e, by rw [upd_ne nx]; exact hx, by rw [upd_ne nc]; exact hc⟩
  refine ⟨⟨vs ++ [.ref a], upd_same, by rw [List.length_append, List.length_append, h2]; rfl, fun i v q e1 e2 => ?_⟩, fun q hq => ?_⟩
  · have hv : v ∈ vs ++ [V.ref a] := List.mem_of_getElem? e1
    by_cases il : i < vs.length
    · rw [List.getElem?_append_left il] at e1
      rw [List.getElem?_append_left (by omega)] at e2
      exact ne v q (h3 i v q e1 e2) (h.ok q (List.mem_of_getElem? e2)).ok hv
    · rw [List.getElem?_append_right (by omega)] at e1
      rw [List.getElem?_append_right (by omega), ← h2] at e2
      have e0 : i - vs.length = 0 := by
        have := (List.getElem?_eq_some_iff.mp e1).1
        rw [List.length_singleton] at this
        omega
      rw [e0] at e1 e2
      obtain rfl := Option.some.inj e1
      obtain rfl := Option.some.inj e2
      exact ne _ _ ho hr.ok hv
  · rcases List.mem_append.mp hq with h4 | h4
    · exact h.ok q h4
    · rw [List.mem_singleton.mp h4]; exact hr
theorem RwF.but {H H' : Hp} {d l F : Addr} {rs : List RD} {M : Int} (h : RwF H F rs M) (D : Dk H d l) (b : But d H H') : RwF H' F rs M := ⟨h.rows.but D b, h.ok⟩
theorem RwF.same {H H' : Hp} {F : Addr} {rs : List RD} {M : Int} (h : RwF H F rs M) (s : Same H H') : RwF H' F rs M := ⟨h.rows.same s, h.ok⟩
/-- what is drawn -/
structure TD.dr (d : TD) : Prop where
  sg : SgOk d.signs
  mo : 1 ≤ d.modes ∧ d.modes ≤ 3
  ln : 1 ≤ d.rules.length ∧ d.rules.length ≤ 8
  ru : ∀ r ∈ d.rules, r.dr4 d.modes
def spLawRules : Sp := fun vs H Q _ => ∃ (d l : Addr) (b : Bool), vs = [.ref d, .bl b] ∧ Dk H d l ∧ ∀ (p : Addr) (t : TD) H', RulesO H' p t → t.dr → Dk H' d l → But d H H' → Q (.ref p) H'
theorem abcd_ok (v : Int) (h0 : 0 ≤ v) (h1 : v < 2) : SgOk (cutS (Str.ofString "abcd") none (some (2 + v))) ∧ (cutS (Str.ofString "abcd") none (some (2 + v))).length ≤ 3 := by
  obtain rfl | rfl : v = 0 ∨ v = 1 := by omega
  · exact ⟨⟨by decide +kernel, by decide +kernel⟩, by decide +kernel⟩
  · exact ⟨⟨by decide +kernel, by decide +kernel⟩, by decide +kernel⟩
section
variable {P : Program} {w : World} {K : PySem.W.Frag} {mg : Str → Option Value} {base : Heap}
abbrev nsLawRules : List Str := ["deck", "base", "signs", "modes", "rows", "sign", "k", "row", "other"]
theorem scLawRules : FnScope nsLawRules ["deck", "base"] (defScope sLawRules) := ⟨rfl, rfl, rfl, by decide +kernel, rfl, by decide +kernel, by decide +kernel⟩
theorem ok_law_rules (t : T K mg) : Ok P w K mg base 4 "_law_rules" ["deck", "base"] spLawRules := by
  refine mkOk t.d_law_rules t.g_law_rules scLawRules (fun vs H Q E h => ?_) (fun _ _ _ _ _ _ us hl => match us, hl with | [_, _], _ => rfl) fun cdv A outer s H vs Q E hr h => ?_
  · obtain ⟨d, l, b, rfl, _⟩ := h; rfl
  obtain ⟨d, l, b, rfl, hD, k⟩ := h
  have hr1 : Room 1 _ := hr.mono (by decide)
  have hr3 : Room 3 _ := hr.mono (by decide)
  refine ⟨_, pss_cons (ps_set (i := 2) scLawRules.nd rfl (Or.inl rfl) (pe_slice sl_str pe_str po_none (po_some (pe_op op_add pe_int (pe_ok (ok_law_draw t) hr1 rfl (pa_cons (pv 0) (pa_cons pe_int pa_nil)))))))
    (pss_cons (ps_set (i := 3) scLawRules.nd rfl (Or.inl rfl) (pe_op op_add pe_int (pe_ok (ok_law_draw t) hr1 rfl (pa_cons (pv 0) (pa_cons pe_int pa_nil)))))
    (pss_cons (ps_set (i := 4) scLawRules.nd rfl (Or.inl rfl) (pe_lst pa_nil))
    (C8.pss_cut (ps_for PassesOwn.never rfl (pi_str (pv 2)) (pg_name (i := 5) scLawRules.nd rfl (Or.inl rfl))
      (pss_one (ps_if (pt_val (pv 1))
      (pss_one (ps_expr (pe_bm PySem.F.plainAttrs_list PySem.F.slot_list_append PySem.F.type_list_append mt_append (pv 4) (pa_cons (pe_lst (pa_cons pe_int (pa_cons (pv 5) (pa_cons (pe_lst (pa_cons (pe_op op_add pe_int (pe_ok (ok_law_draw t) hr1 rfl (pa_cons (pv 0) (pa_cons pe_int pa_nil)))) pa_nil)) (pa_cons pe_int (pa_cons pe_non (pa_cons pe_non pa_nil))))))) pa_nil))))
      pss_nil)))
    (C8.pss_cut (ps_for PassesOwn.never rfl (pi_range1 rfl t.f_range (pa_cons (pe_op op_add pe_int (pe_ok (ok_law_draw t) hr1 rfl (pa_cons (pv 0) (pa_cons pe_int pa_nil)))) pa_nil)) (pg_name (i := 6) scLawRules.nd rfl (Or.inl rfl))
      (pss_cons (ps_set (i := 7) scLawRules.nd rfl (Or.inr rfl) (pe_ok (ok_law_rule t) hr3 rfl (pa_cons (pv 0) (pa_cons (pv 2) (pa_cons (pv 3) (pa_cons pe_bl pa_nil))))))
    (C8.pss_cut (ps_if (pt_cmpR op_gt (pe_callB call_len_seq rfl t.f_len boot_len (pa_cons (pe_lc (own := [("other", 8)]) (g := gName 8) rfl scLawRules.nd (pi_list (pv 4)) (blkOk_by (own := [("other", 8)]) (N := nsLawRules) (sc := defScope sLawRules) (by decide +kernel)) (fun _ _ _ _ _ => pg_name (i := 8) scLawRules.nd rfl (Or.inl rfl)) (fun _ _ _ _ _ => pts_one (PW.pt (pw_and (pt_cmpR op_eq (pe_ix (ix_listK (K := K) rfl) (pv 8) pe_int (fun _ _ => rfl)) (pe_ix (ix_listK (K := K) rfl) (pv 7) pe_int (fun _ _ => rfl)) (nomark _)) (pw_and1 (pt_cmpR op_eq (pe_ix (ix_listK (K := K) rfl) (pv 8) pe_int (fun _ _ => rfl)) (pe_ix (ix_listK (K := K) rfl) (pv 7) pe_int (fun _ _ => rfl)) (nomark _)))))) (fun _ _ _ _ _ => (pv 8))) pa_nil)) pe_int (nomark _))
      (pss_one (ps_asg (pe_op op_add_str (pe_ix ix_list (pv 7) pe_int (fun _ _ => rfl)) (pe_ix ix_str (pv 2) pe_int (fun _ _ => rfl))) (pg_sub (pv 7) pe_int set_list)))
      pss_nil)
    (pss_one (ps_expr (pe_bm PySem.F.plainAttrs_list PySem.F.slot_list_append PySem.F.type_list_append mt_append (pv 4) (pa_cons (pv 7) pa_nil)))))))
    (pss_one (ps_ret (pe_lst (pa_cons (pv 2) (pa_cons (pv 3) (pa_cons (pv 4) pa_nil)))))))))), ?_⟩
  refine ⟨_, rfl, d, l, 2, rfl, hD, by decide, by decide, fun v1 H1 v10 v11 hD1 b1 => ⟨_, _, rfl, rfl, _, rfl, _, rfl, by decide +kernel, ?_⟩⟩
  obtain ⟨hz, zl3⟩ := abcd_ok v1 v10 v11
  show gName 2 (V.str (cutS (Str.ofString "abcd") none (some (2 + v1)))) _ H1 _
  generalize cutS (Str.ofString "abcd") none (some (2 + v1)) = z at hz zl3
  have zl := hz.ln
  have zs : z.length ≤ sizeLine := Nat.le_trans (show _ ≤ 1000 by omega) (by decide)
  refine ⟨_, rfl, d, l, 3, rfl, hD1, by decide, by decide, fun v2 H2 v20 v21 hD2 b2 => ⟨_, _, rfl, rfl, ?_⟩⟩
  have M0 : 1 ≤ 1 + v2 ∧ 1 + v2 ≤ 3 := by omega
  show gName 3 (V.int (1 + v2)) _ H2 _
  generalize 1 + v2 = M at M0
  refine ⟨(by show 0 ≤ sizeLine; decide), fun F hF => ?_⟩
  have b12 := b1.trans b2
  have hF0 : H F = none := hD2.none b12 hF
  have ndF : d ≠ F := hD2.ne hF
  have nlF : l ≠ F := hD2.neL hF
  refine ⟨fun σ' H' => (∃ o5 : Option V, σ' = [some (.ref d), some (.bl b), some (.str z), some (.int M), some (.ref F), o5, none, none, none]) ∧ (∃ (vs : List V) (rs : List RD), H' F = some (.lst vs) ∧ RwF H' F rs M ∧ rs.length ≤ 3) ∧ Dk H' d l ∧ But d H H', ?_, ?_⟩
  · refine ⟨_, rfl, z, rfl, ?_⟩
    refine for_it (walk_str (z := z)) (fun i σ' H' => (∃ o5 : Option V, σ' = [some (.ref d), some (.bl b), some (.str z), some (.int M), some (.ref F), o5, none, none, none]) ∧ (∃ (vs : List V) (rs : List RD), H' F = some (.lst vs) ∧ RwF H' F rs M ∧ rs.length ≤ i) ∧ Dk H' d l ∧ But d H H') ⟨⟨_, rfl⟩, ⟨[], [], upd_same, ⟨⟨[], upd_same, rfl, fun i v r e _ => by simp at e⟩, fun r h => by cases h⟩, Nat.le_refl _⟩, hD2.upd ndF nlF, Sx.But.new b12 hF0⟩ (fun i σ' H' _ _ => trivial) ?_ ?_
    · rintro i x σ' H3 H4 hi ⟨⟨o5, rfl⟩, ⟨vs, rs, hF3, hR, rl⟩, hD3, b3⟩ ⟨rfl, c, hc, rfl⟩
      have il : i < 3 := by have : z.cps.size = z.length := rfl; omega
      refine ⟨_, rfl, _, rfl, ?_⟩
      cases b with
      | false => exact iteF ⟨⟨_, rfl⟩, ⟨vs, rs, hF3, hR, by omega⟩, hD3, b3⟩
      | true =>
        refine iteT ?_
        refine ⟨_, rfl, .inl ⟨rfl, _, SqL.of hF3⟩, _, rfl, _, rfl, d, l, 4, rfl, hD3, by decide, by decide, fun v H5 v0 v5 hD5 b5 => ⟨_, _, rfl, rfl, (by show 1 ≤ sizeLine; decide), fun ce hce => ⟨(by show 6 ≤ sizeLine; decide), fun a ha => ?_⟩⟩⟩
        have hF5 := b5 _ _ hF3 ndF.symm
        have hR5 := hR.but hD3 b5
        have s6 : Same H5 (upd (upd H5 ce (.lst [V.int (1 + v)])) a (.lst [.int 0, .str ⟨#[c]⟩, .ref ce, .int 0, .non, .non])) := (Same.new hce).trans (Same.new ha)
        have nca : ce ≠ a := fun z => by rw [← z, upd_same] at ha; cases ha
        have hvl : vs.length = rs.length := (hR.refs hF3).1
        have hD6 := (hD5.upd (o := .lst [V.int (1 + v)]) (hD5.ne hce) (hD5.neL hce))
        have hD7 := hD6.upd (o := .lst [.int 0, .str ⟨#[c]⟩, .ref ce, .int 0, .non, .non]) (hD6.ne ha) (hD6.neL ha)
        refine ⟨F, _, _, rfl, rfl, s6 _ _ hF5, by rw [hvl]; exact small1 (by omega), ⟨_, rfl⟩, ⟨vs ++ [.ref a], rs ++ [⟨0, ⟨#[c]⟩, [1 + v], 0, none, none⟩], upd_same, (hR5.same s6).push (s6 _ _ hF5) ⟨a, ce, rfl, upd_same, by rw [upd_ne nca]; exact upd_same⟩ ⟨⟨fun e => ?_, ⟨(by show 0 < 1; decide), (by show 1 ≤ 100; decide)⟩, (fun e => by cases e), (by show 1 ≤ 100; decide)⟩, (by show 1 ≤ 4; decide), (by show 1 ≤ 3; decide), ⟨Int.le_refl _, by show 0 < M; omega⟩, ⟨Int.le_refl _, by show 0 < M; omega⟩⟩, by rw [List.length_append]; exact Nat.succ_le_succ rl⟩, hD7.upd ndF nlF, Sx.But.new ((b3.trans b5).trans (But.of s6)) hF0⟩
        have e2 : (1 : Nat) = 0 := congrArg Str.length e
        exact absurd e2 (by decide)
    · rintro σ' H' ⟨h1, ⟨vs, rs, h2, h3, h4⟩, h5, h6⟩
      exact ⟨h1, ⟨vs, rs, h2, h3, by have : z.cps.size = z.length := rfl; omega⟩, h5, h6⟩
  rintro σ' H' ⟨⟨o5, rfl⟩, ⟨vs, rs, hF3, hR, rl⟩, hD3, b3⟩
  refine ⟨fun σ' H' => (∃ o5 o6 o7 : Option V, σ' = [some (.ref d), some (.bl b), some (.str z), some (.int M), some (.ref F), o5, o6, o7, none]) ∧ (∃ (vs : List V) (rs : List RD), H' F = some (.lst vs) ∧ RwF H' F rs M ∧ 1 ≤ rs.length ∧ rs.length ≤ 8) ∧ Dk H' d l ∧ But d H H', ?_, ?_⟩
  · refine ⟨_, rfl, d, l, 5, rfl, hD3, by decide, by decide, fun v H4 v0 v5 hD4 b4 => ⟨_, _, rfl, rfl, _, rfl, by omega, by omega, ?_⟩⟩
    obtain ⟨n, hn, n1, n5⟩ : ∃ n : Nat, 1 + v = (n : Int) ∧ 1 ≤ n ∧ n ≤ 5 := ⟨(1 + v).toNat, by omega, by omega, by omega⟩
    have e5 : (1 + v).toNat = n := by omega
    rw [e5]
    refine for_range (lo := 0) (n := n) (fun i σ' H' => (∃ o5 o6 o7 : Option V, σ' = [some (.ref d), some (.bl b), some (.str z), some (.int M), some (.ref F), o5, o6, o7, none]) ∧ (∃ (vs : List V) (rs : List RD), H' F = some (.lst vs) ∧ RwF H' F rs M ∧ i ≤ rs.length ∧ rs.length ≤ 3 + i) ∧ Dk H' d l ∧ But d H H') ⟨⟨_, _, _, rfl⟩, ⟨vs, rs, b4 _ _ hF3 ndF.symm, hR.but hD3 b4, Nat.zero_le _, by omega⟩, hD4, b3.trans b4⟩ ?_ (fun σ' H' h => by
      obtain ⟨h1, ⟨vs, rs, h2, h3, h4, h5⟩, h6, h7⟩ := h
      exact ⟨h1, ⟨vs, rs, h2, h3, by omega, by omega⟩, h6, h7⟩)
    rintro i σ' H5 hi ⟨⟨o5, o6, o7, rfl⟩, ⟨vs, rs, hF5, hR5, ri, rl⟩, hD5, b5⟩
    have hvl : vs.length = rs.length := (hR5.refs hF5).1
    refine ⟨_, rfl, _, rfl, _, rfl, d, l, z, M, rfl, hD5, hz, by omega, by omega, fun a c r H6 ha0 hc0 nac ha hc hr hD6 b6 => ?_⟩
    have hF6 := b6 _ _ hF5 ndF.symm
    have nda : d ≠ a := hD5.ne ha0
    have ndc : d ≠ c := hD5.ne hc0
    have nla : l ≠ a := hD5.neL ha0
    have hR6 := hR5.but hD5 b6
    refine ⟨fun σ2 H7 => (σ2 = [some (.ref d), some (.bl b), some (.str z), some (.int M), some (.ref F), o5, some (.int (0 + (i : Int))), some (.ref a), none]) ∧ (∃ r2 : RD, RowO H7 (.ref a) r2 ∧ r2.dr4 M) ∧ H7 F = some (.lst vs) ∧ RwF H7 F rs M ∧ Dk H7 d l ∧ But d H H7, ?_, ?_⟩
    · refine ⟨_, rfl, F, rfl, ⟨_, SqL.of hF6⟩, fun C hC => ?_⟩
      refine lc_list (K := K) (a := F) (xs := vs) (g := gName 8) (fun j H' => (∃ ys : List V, H' C = some (.lst ys) ∧ ys.length ≤ j) ∧ Same H6 H') ⟨⟨[], upd_same, Nat.le_refl _⟩, Same.new hC⟩ (fun j H' _ q => SqL.of (q.2 _ _ hF6)) ?_ ?_
      · rintro j x H7 hx ⟨⟨ys, hY, yl⟩, s7⟩
        have jl : j < rs.length := by rw [← hvl]; exact (List.getElem?_eq_some_iff.mp hx).1
        have hrj : rs[j]? = some rs[j] := List.getElem?_eq_getElem jl
        obtain ⟨xo, co, rfl, hxo, hco⟩ := ((hR6.refs hF6).2 j x _ hx hrj).same s7
        have ha7 := s7 _ _ ha
        refine ⟨rfl, ?_⟩
        refine ⟨_, rfl, xo, _, _, _, rfl, rfl, SqL.of hxo, atI_nat (j := 0) rfl, _, rfl, a, _, _, _, rfl, rfl, SqL.of ha7, atI_nat (j := 0) rfl, rfl, _, rfl, ?_⟩
        refine ite2 (fun h1 => ?_) (fun h1 => ⟨⟨ys, hY, by omega⟩, s7⟩)
        refine ⟨_, rfl, xo, _, _, _, rfl, rfl, SqL.of hxo, atI_nat (j := 1) rfl, _, rfl, a, _, _, _, rfl, rfl, SqL.of ha7, atI_nat (j := 1) rfl, rfl, _, rfl, ?_⟩
        refine ite2 (fun h2 => ?_) (fun h2 => ⟨⟨ys, hY, by omega⟩, s7⟩)
        exact ⟨_, rfl, _, hY, small1 (by omega), ⟨_, upd_same, by rw [List.length_append]; exact Nat.succ_le_succ yl⟩, Same.put s7 hC⟩
      · rintro H7 ⟨⟨ys, hY, yl⟩, s7⟩
        have ha7 := s7 _ _ ha
        have hc7 := s7 _ _ hc
        refine ⟨C, _, rfl, .inl (SqL.of hY), _, _, rfl, rfl, _, rfl, ?_⟩
        refine ite2 (fun h1 => ?_) (fun h1 => ?_)
        · obtain ⟨ch, hch, _⟩ := ixS (z := z) (v := 0) (by omega) (Int.le_refl _) (by omega)
          have tl := hr.tl
          refine ⟨_, rfl, a, _, _, _, rfl, rfl, SqL.of ha7, atI_nat (j := 1) rfl, _, rfl, z, _, ch, rfl, rfl, zs, hch, _, _, rfl, rfl, ?_, _, rfl, a, _, _, 1, rfl, rfl, ha7, rfl, ?_⟩
          · have e1 : (⟨#[ch]⟩ : Str).length = 1 := rfl
            rw [e1]
            exact Nat.le_trans (show _ ≤ 1000 by omega) (by decide)
          have bN : ∀ o, But d H5 (upd H7 a o) := fun o => Sx.But.new (b6.trans (But.of s7)) ha0
          have ln : (r.text ++ ⟨#[ch]⟩ : Str).length = r.text.length + 1 := len_app _ _
          refine ⟨rfl, ⟨⟨r.mode, r.text ++ ⟨#[ch]⟩, r.cells, r.to, r.ahead, r.behind⟩, ⟨a, c, rfl, upd_same, by rw [upd_ne nac.symm]; exact hc7⟩, ⟨⟨fun e => ?_, ⟨by show 0 < (r.text ++ ⟨#[ch]⟩ : Str).length; omega, by show (r.text ++ ⟨#[ch]⟩ : Str).length ≤ 100; omega⟩, hr.ok.c0, hr.ok.cl⟩, by show (r.text ++ ⟨#[ch]⟩ : Str).length ≤ 4; omega, hr.cl, hr.mo, hr.to⟩⟩, ?_, hR5.but hD5 (bN _), (hD6.same s7).upd nda nla, b5.trans (bN _)⟩
          · have e2 : (r.text ++ ⟨#[ch]⟩ : Str) = Str.ofString "" := e
            have e3 := congrArg Str.length e2
            rw [ln] at e3
            have e4 : (Str.ofString "").length = 0 := rfl
            omega
          · exact bN _ _ _ hF5 ndF.symm
        · exact ⟨rfl, ⟨r, ⟨a, c, rfl, ha7, hc7⟩, hr.d4⟩, s7 _ _ hF6, hR6.same s7, hD6.same s7, (b5.trans b6).trans (But.of s7)⟩
    rintro σ2 H7 ⟨rfl, ⟨r2, ho2, hd2⟩, hF7, hR7, hD7, b7⟩
    refine ⟨_, rfl, .inl ⟨rfl, _, SqL.of hF7⟩, _, rfl, F, _, _, rfl, rfl, hF7, by rw [hvl]; exact small1 (by omega), ?_⟩
    exact ⟨⟨_, _, _, rfl⟩, ⟨_, _, upd_same, hR7.push hF7 ho2 hd2, by rw [List.length_append]; exact Nat.succ_le_succ ri, by rw [List.length_append]; exact Nat.succ_le_succ rl⟩, hD7.upd ndF nlF, Sx.But.new b7 hF0⟩
  rintro σ' H' ⟨⟨o5, o6, o7, rfl⟩, ⟨vs, rs, hF3, hR, r1, r8⟩, hD3, b3⟩
  refine ⟨_, rfl, _, rfl, _, rfl, (by show 3 ≤ sizeLine; decide), fun p hp => ?_⟩
  exact k p ⟨z, M, rs⟩ _ ⟨F, upd_same, hR.rows.same (Same.new hp)⟩ ⟨hz, M0, ⟨r1, r8⟩, hR.ok⟩ (hD3.upd (hD3.ne hp) (hD3.neL hp)) (b3.trans (But.of (Same.new hp)))
end
end Sx

set_option Elab.async false
set_option linter.all false
set_option maxRecDepth 100000
set_option maxHeartbeats 1000000
namespace Sx
open PySem PySem.Spec PyProof.Rows L2 SxA
theorem call_listK {X : Cx} {K : PySem.W.Frag} (h : X.K = K) : CallR X (.type "list") (fun xs H Q => ∃ p ys, xs = [.ref p] ∧ (SqL K H p ys ∨ SqT K H p ys) ∧ ∀ l, H l = none → Q (.ref l) (upd H l (.lst ys))) := by subst h; exact call_list_of
def spLawTable (K : PySem.W.Frag) : Sp := fun vs H Q _ => ∃ (p : Addr) (d : TD), vs = [.ref p] ∧ RulesO H p d ∧ d.rules.length ≤ 60 ∧ ∀ v H', Same H H' → TableO K H' v d → Q v H'
def spLawText : Sp := fun vs H Q _ => ∃ (d l p : Addr) (t : TD) (m : Nat), vs = [.ref d, .ref p, .int (m : Int)] ∧ Dk H d l ∧ RulesO H p t ∧ SgOk t.signs ∧ m ≤ 10 ∧ ∀ (z : Str) H', z.length ≤ m → Dk H' d l → But d H H' → Q (.str z) H'
section
variable {P : Program} {w : World} {K : PySem.W.Frag} {mg : Str → Option Value} {base : Heap}
abbrev nsLawTable : List Str := ["rules", "rows", "r"]
theorem scLawTable : FnScope nsLawTable ["rules"] (defScope sLawTable) := ⟨rfl, rfl, rfl, by decide +kernel, rfl, by decide +kernel, by decide +kernel⟩
theorem ok_law_table (t : T K mg) : Ok P w K mg base 6 "_law_table" ["rules"] (spLawTable K) := by
  obtain ⟨fR, FR, _, kb⟩ := ok_rule (P := P) (w := w) (base := base) t
  obtain ⟨fT, FT, bT⟩ := ok_table (P := P) (w := w) (base := base) t
  refine mkOk t.d_law_table t.g_law_table scLawTable (fun vs H Q E h => ?_) (fun _ _ _ _ _ _ us hl => match us, hl with | [_], _ => rfl) fun cdv A outer s H vs Q E hr h => ?_
  · obtain ⟨p, d, rfl, _⟩ := h; rfl
  obtain ⟨p, d, rfl, ⟨l, hp, hrow⟩, dl, k⟩ := h
  have hr2 : Room 2 _ := hr.mono (by decide)
  refine ⟨_, pss_cons (ps_setLc (i := 1) (own := [("r", 2)]) (g := gName 2) (tt := tYes) (by rfl) scLawTable.nd rfl rfl (sw_true rfl rfl rfl (by decide +kernel)) (pi_list (pe_ix ix_list (pv 0) pe_int (fun _ _ => rfl))) (blkOk_by (own := [("r", 2)]) (N := nsLawTable) (sc := defScope sLawTable) (by decide +kernel)) (fun _ _ _ _ _ => pg_name (i := 2) scLawTable.nd rfl (Or.inl rfl)) (fun _ _ _ _ _ => pts_nil)
      (fun _ _ _ _ _ => (pe_makeK (n := 4) (ks := ["ahead", "behind"]) t.m_Rule FR hr2 rfl t.g_Rule kb pass0 (pa_cons (pe_ix (ix_listK (K := K) rfl) (pv 2) pe_int (fun _ _ => rfl)) (pa_cons (pe_ix (ix_listK (K := K) rfl) (pv 2) pe_int (fun _ _ => rfl)) (pa_cons (pe_callTy (call_listK (K := K) rfl) rfl t.f_list (by decide +kernel) (pa_cons (pe_ix (ix_listK (K := K) rfl) (pv 2) pe_int (fun _ _ => rfl)) pa_nil)) (pa_cons (pe_ix (ix_listK (K := K) rfl) (pv 2) pe_int (fun _ _ => rfl)) pa_nil)))) (pk_cons (pe_ix (ix_listK (K := K) rfl) (pv 2) pe_int (fun _ _ => rfl)) (pk_cons (pe_ix (ix_listK (K := K) rfl) (pv 2) pe_int (fun _ _ => rfl)) pk_nil)))))
    (pss_one (ps_ret (pe_make t.m_Table FT hr rfl t.g_Table bT .nil pass0 (pa_cons (pe_ix ix_list (pv 0) pe_int (fun _ _ => rfl)) (pa_cons (pe_ix ix_list (pv 0) pe_int (fun _ _ => rfl)) (pa_cons (pv 1) pa_nil)))))), ?_⟩
  obtain ⟨vs, hl, hlen, hv⟩ := hrow.ex
  refine ⟨_, rfl, p, _, _, _, rfl, rfl, SqL.of hp, atI_nat (j := 2) rfl, l, rfl, ⟨_, SqL.of hl⟩, fun D hD => ?_⟩
  have hlen' : vs.length ≤ sizeLine := by rw [hlen]; exact small4 (by omega)
  refine lc_rel (K := K) (fun i v G => ∃ r, d.rules[i]? = some r ∧ RuleO K G v r) (fun i v G G' ⟨r, e, o⟩ s => ⟨r, e, o.same s⟩) hD (SqL.of hl) hlen' (fun _ => rfl) (fun i x H3 Q3 acc hx sm hacc k3 => ?_) (fun H3 ys sm hD3 hly hry => ?_)
  · have li : i < d.rules.length := by rw [← hlen]; exact (List.getElem?_eq_some_iff.mp hx).1
    have hri : d.rules[i]? = some d.rules[i] := List.getElem?_eq_getElem li
    obtain ⟨b, m, rfl, hb, hm⟩ := (hv i x _ hx hri).same sm
    generalize d.rules[i] = r at hri hb hm
    refine ⟨_, rfl, b, _, _, _, rfl, rfl, SqL.of hb, atI_nat (j := 0) rfl, ?_⟩
    refine ⟨_, rfl, b, _, _, _, rfl, rfl, SqL.of hb, atI_nat (j := 1) rfl, ?_⟩
    refine ⟨_, rfl, b, _, _, _, rfl, rfl, SqL.of hb, atI_nat (j := 2) rfl, m, _, rfl, .inl (SqL.of hm), fun cc hcc => ?_⟩
    have sc : Same H3 (upd H3 cc (.lst (r.cells.map V.int))) := Same.new hcc
    have hb4 := sc _ _ hb
    refine ⟨_, rfl, b, _, _, _, rfl, rfl, SqL.of hb4, atI_nat (j := 3) rfl, ?_⟩
    refine ⟨_, rfl, b, _, _, _, rfl, rfl, SqL.of hb4, atI_nat (j := 4) rfl, ?_⟩
    refine ⟨_, rfl, b, _, _, _, rfl, rfl, SqL.of hb4, atI_nat (j := 5) rfl, ?_⟩
    refine ⟨rfl, rfl, fun y dy hy hdy ney => ?_⟩
    have s1 : Same (upd H3 cc (.lst (r.cells.map V.int))) (upd (upd (upd H3 cc (.lst (r.cells.map V.int))) dy (.own y)) y (.ins (He.ga K "Rule") dy [])) := fun b o e => by
      rw [upd_ne (ne_of_none e hy), upd_ne (ne_of_none e hdy)]
      exact e
    refine ⟨y, dy, cc, r, rfl, upd_same, SqL.of (s1 _ _ upd_same), fun H' l' hl' h1 h2 fr => ⟨rfl, ?_⟩⟩
    have s2 : Same (upd H3 cc (.lst (r.cells.map V.int))) H' := Same.made hy hdy fr
    refine k3 _ H' (sc.trans s2) ⟨r, hri, y, dy, l', rfl, ?_, ?_⟩
    · rw [fresh_of (Sx.Same.none sc _ hy)]; exact h1
    · rw [fresh_of (Sx.Same.none sc _ (Sx.Same.none s1 _ hl'))]; exact h2
  · have hu3 := sm _ _ hp
    refine ⟨_, rfl, p, _, _, _, rfl, rfl, SqL.of hu3, atI_nat (j := 0) rfl, ?_⟩
    refine ⟨_, rfl, p, _, _, _, rfl, rfl, SqL.of hu3, atI_nat (j := 1) rfl, ?_⟩
    refine ⟨_, rfl, fun x dx hx hdx nex => ?_⟩
    have s1 : Same H3 (upd (upd H3 dx (.own x)) x (.ins (He.ga K "Table") dx [])) := fun b o e => by
      rw [upd_ne (ne_of_none e hx), upd_ne (ne_of_none e hdx)]
      exact e
    have hR : RulesL K H3 D d.rules := ⟨ys, hD3, by rw [hly, hlen], fun i v r a b => by
      obtain ⟨r', e', o'⟩ := hry i v a
      obtain rfl : r' = r := Option.some.inj (e'.symm.trans b)
      exact (o'.same fresh_le).same off_le⟩
    refine ⟨x, dx, D, d, rfl, upd_same, hR.same s1, by omega, fun H' l' hl' h1 h2 fr => ⟨rfl, ?_⟩⟩
    have s2 : Same H3 H' := Same.made hx hdx fr
    exact k _ H' (sm.trans s2) ⟨x, dx, l', rfl, h1, h2.same fresh_le⟩
abbrev nsLawText : List Str := ["deck", "rules", "most", "k"]
theorem scLawText : FnScope nsLawText ["deck", "rules", "most"] (defScope sLawText) := ⟨rfl, rfl, rfl, by decide +kernel, rfl, by decide +kernel, by decide +kernel⟩
theorem ok_law_text (t : T K mg) : Ok P w K mg base 2 "_law_text" ["deck", "rules", "most"] spLawText := by
  refine mkOk t.d_law_text t.g_law_text scLawText (fun vs H Q E h => ?_) (fun _ _ _ _ _ _ us hl => match us, hl with | [_, _, _], _ => rfl) fun cdv A outer s H vs Q E hr h => ?_
  · obtain ⟨d, l, p, t, m, rfl, _⟩ := h; rfl
  obtain ⟨d, l, p, u, m, rfl, hD, hR, hz, hm, k⟩ := h
  have hr1 : Room 1 _ := hr.mono (by decide)
  refine ⟨_, pss_one (ps_ret (pe_join pe_str (pe_lc (own := [("k", 3)]) (g := gName 3) (tt := tYes) rfl scLawText.nd (pi_range1 rfl t.f_range (pa_cons (pe_ok (ok_law_draw t) hr1 rfl (pa_cons (pv 0) (pa_cons (pe_op op_add (pv 2) pe_int) pa_nil))) pa_nil)) (blkOk_by (own := [("k", 3)]) (N := nsLawText) (sc := defScope sLawText) (by decide +kernel)) (fun _ _ _ _ _ => pg_name (i := 3) scLawText.nd rfl (Or.inl rfl)) (fun _ _ _ _ _ => pts_nil) (fun _ _ _ _ _ => (pe_ix ix_str (pe_ix (ix_listK (K := K) rfl) (pv 1) pe_int (fun _ _ => rfl)) (pe_ok (ok_law_draw t) hr1 rfl (pa_cons (pv 0) (pa_cons (pe_callB call_len_str rfl t.f_len boot_len (pa_cons (pe_ix (ix_listK (K := K) rfl) (pv 1) pe_int (fun _ _ => rfl)) pa_nil)) pa_nil))) (fun _ _ => rfl)))))), ?_⟩
  have zl := hz.ln
  have zs : u.signs.length ≤ sizeLine := Nat.le_trans (show _ ≤ 1000 by omega) (by decide)
  refine ⟨⟨_, rfl⟩, ?_⟩
  refine ⟨_, rfl, _, rfl, _, _, rfl, rfl, d, l, (m : Int) + 1, rfl, hD, by omega, by omega, fun v H1 v0 v1 hD1 b1 => ⟨_, rfl, by omega, by omega, fun D hDn => ?_⟩⟩
  obtain ⟨n, rfl⟩ : ∃ n : Nat, v = (n : Int) := ⟨v.toNat, by omega⟩
  have hDn0 : H D = none := hD1.none b1 hDn
  have ndD : d ≠ D := hD1.ne hDn
  have nlD : l ≠ D := hD1.neL hDn
  refine lc_range (lo := 0) (n := ((n : Nat) : Int).toNat) (fun j H3 => (∃ ys : List Str, H3 D = some (.lst (ys.map V.str)) ∧ ys.length = j ∧ ∀ y ∈ ys, y.length = 1 ∧ PyData.strOk y = true) ∧ Dk H3 d l ∧ But d H H3) ⟨⟨[], upd_same, rfl, fun y h => by cases h⟩, hD1.upd ndD nlD, Sx.But.new b1 hDn0⟩ ?_ ?_
  · rintro j H3 hj ⟨⟨ys, hY, yl, hys⟩, hD3, b3⟩
    obtain ⟨q, hp3, _⟩ := hR.but hD b3
    refine ⟨rfl, ?_⟩
    refine ⟨_, rfl, p, _, _, _, rfl, rfl, SqL.of hp3, atI_nat (j := 0) rfl, _, rfl, _, rfl, p, _, _, _, rfl, rfl, SqL.of hp3, atI_nat (j := 0) rfl, u.signs, rfl, zs, d, l, (u.signs.length : Int), rfl, hD3, by omega, by omega, fun v2 H4 v20 v21 hD4 b4 => ?_⟩
    obtain ⟨c, hc, hcm⟩ := ixS (z := u.signs) (by omega) v20 v21
    have hY4 : H4 D = some (.lst (ys.map V.str)) := b4 _ _ hY ndD.symm
    refine ⟨u.signs, _, c, rfl, rfl, zs, hc, _, hY4, by rw [List.length_map]; exact small1 (by omega), ⟨ys ++ [⟨#[c]⟩], by rw [upd_same, List.map_append]; rfl, by rw [List.length_append, yl]; rfl, fun y hy => ?_⟩, hD4.upd ndD nlD, Sx.But.new (b3.trans b4) hDn0⟩
    rcases List.mem_append.mp hy with h | h
    · exact hys y h
    · rw [List.mem_singleton.mp h]
      exact ⟨rfl, hz.ok c hcm⟩
  · rintro H3 ⟨⟨ys, hY, yl, hys⟩, hD3, b3⟩
    have sm := sum_ones ys hys
    have jl := PySem.W.KT.join_ones ys fun y hy => (hys y hy).1
    rw [Int.toNat_natCast] at yl
    have e0 : (Str.ofString "").length = 0 := rfl
    exact ⟨_, D, ys, rfl, rfl, .inl (SqL.of hY), by rw [e0]; omega, k _ H3 (by rw [jl]; omega) hD3 b3⟩
end
end Sx

set_option Elab.async false
set_option linter.all false
set_option maxRecDepth 100000
set_option maxHeartbeats 4000000
/-! set(x), x a list of ints: the members, and the order known -/
namespace L2
open PySem PySem.Spec PyProof.Rows
abbrev nsO (w : World) : Obj := { cls := .type "set", dict := none, data := .set #[] 0 (.fresh 0 0 (!w.params.followText "set-order")) }
section
variable {P : Program} {w : World} {A : Around} {E : Value → Shared → Prop} {s : Shared}
/-- what set.__init__ does with a list of ints, for a new set -/
theorem init_ints {S lp : Addr} {items : Array Value} {ns : List Int} {Q : Fin → Shared → Prop} (hd : A.handled = none) (hS : s.heap.get? S = some (nsO w)) (hp : s.heap.IsList lp items) (np : lp ≠ S) (hit : IntsAre items.toList ns) (hb : ns.length + 1 < scanBound)
    (hfin : ∀ (h' : Heap) (tk c : Nat), SetR w h' S (fun j => decide (j ∈ ns)) c → c ≤ ns.length → (∀ b o, b ≠ S → s.heap.get? b = some o → h'.get? b = some o) → Q (.done (.ret .none)) { s with heap := h', toks := tk }) :
    wpAny (model P w) A (Builtin.«set.__init__» ⟨[.ref S, .ref lp], []⟩) Q E s := by
  have len : items.size = ns.length := by rw [← Array.length_toList, IntsAre.length hit]
  have tS : s.TypeIs (.ref S) "set" := ⟨_, hS, rfl⟩
  obtain ⟨o, ho, cl, nl, dt⟩ := id hp
  obtain ⟨a1, a2, a3, a4⟩ := o
  simp only at cl dt
  subst cl dt
  have f1 := F.sub_list_set
  have f2 := F.sub_list_frozenset
  have f3 : (Value.type "list" == Value.type "dict") = false := by decide
  unfold Builtin.«set.__init__» noKeywords Builtin.Frozenset.updateFrom
  generalize ep : pyIter = it0
  wp_walk
  subst ep
  have lS : S < s.heap.objs.size := Heap.lt_size hS
  have lP : lp < s.heap.objs.size := Heap.lt_size ho
  have valsI : ∀ (i : Nat) (v : Value), items[i]? = some v → ∃ k t, ns[i]? = some k ∧ v = .int k t := fun i v hv => by
    have il : i < items.size := (Array.getElem?_eq_some_iff.mp hv).1
    obtain ⟨t, e⟩ := IntsAre.int_at hit i v (by rw [Array.getElem?_toList, hv])
    have e2 : ns[i]? = some (ns[i]'(by omega)) := List.getElem?_eq_getElem _
    exact ⟨_, t, e2, by rw [e, List.getD_eq_getElem?_getD, e2, Option.getD_some]⟩
  refine wpAny_pyIter_list hp (wpAny_bind (wpAny_runValue ?_))
  have hd1 : A.in1.handled = none := hd
  refine set_update_ints (Walks.list hd1 s.heap.objs.size lp (Nat.ne_of_lt lP) items).toS S (fun z => ?_) ns len hb valsI items.size 0 _ (Nat.sub_zero _) (Nat.zero_le _) ⟨⟨_, Heap.get?_push_size _ rfl, rfl, rfl⟩, hp.push _⟩ ⟨0, Nat.le_refl 0, setR_new_at (Heap.get?_push_of_some _ hS)⟩ fun s2 c mv hc hR => ?_
  · rcases List.mem_cons.mp z with z | z
    · exact absurd z (Nat.ne_of_lt lS)
    · exact np (List.mem_singleton.mp z).symm
  · obtain ⟨h2, g2, d2, t2, o2⟩ := s2
    obtain rfl : g2 = s.gens := mv.gens
    obtain rfl : d2 = s.drawn := mv.drawn
    obtain rfl : o2 = s.os := mv.os
    rw [len] at hc
    refine wpAny_pure (wpAny_pure ?_)
    refine hfin h2 t2 c hR hc fun b o hb e => mv.heap b o (fun z => ?_) (Heap.get?_push_of_some _ e)
    rcases List.mem_cons.mp z with z | z
    · exact hb z
    · exact absurd (Heap.lt_size e) (by rw [List.mem_singleton.mp z]; exact Nat.lt_irrefl _)
/-- set(x) -/
theorem call_set_ints {lp : Addr} {items : Array Value} {ns : List Int} {Q : Value → Shared → Prop} (hd : A.handled = none) (hp : s.heap.IsList lp items) (hit : IntsAre items.toList ns) (hb : ns.length + 1 < scanBound)
    (hfin : ∀ (h' : Heap) (tk c : Nat), SetR w h' s.heap.objs.size (fun j => decide (j ∈ ns)) c → c ≤ ns.length → (∀ b o, s.heap.get? b = some o → h'.get? b = some o) → Q (.ref s.heap.objs.size) { s with heap := h', toks := tk }) :
    wpAny (model P w) A (call (.type "set") [.ref lp]) Q E s := by
  obtain ⟨c0, tl, mr⟩ := F.called_set.mro
  have k1 := F.called_set.made; have k2 := F.called_set.sub; have k3 := F.called_set.notType; have k4 := F.called_set.canCreate; have k5 := F.typeCall_set_1 (.ref lp); have k6 := F.called_set.init.lookup
  have k7 := F.called_set.init.bind (.ref s.heap.objs.size)
  have lP : lp < s.heap.objs.size := by
    obtain ⟨o, ho, _⟩ := hp
    exact Heap.lt_size ho
  have new : (s.heap.push (nsO w)).get? s.heap.objs.size = some (nsO w) := Heap.get?_push_size _ rfl
  have inn := codeAny_call_builtin (R := wants (fun r t => r = Value.none ∧ Q (.ref s.heap.objs.size) t) E) (A := A.in1) (s := { s with heap := s.heap.push (nsO w) }) F.called_set.init.plain F.entry_set_init
    (check_set_init_1 (self := .ref s.heap.objs.size) (a := .ref lp) ⟨_, new, rfl⟩ (init_ints (P := P) (ns := ns) (by simp [hd]) new (hp.push _) (Nat.ne_of_lt lP) hit hb fun h' tk c r cn k => ⟨rfl, hfin h' tk c r cn fun b o e => k b o (Nat.ne_of_lt (Heap.lt_size e)) (Heap.get?_push_of_some _ e)⟩))
  refine wpAny_call (codeAny_of_tree ?_); show wpAny _ _ (callAny (.type "set") _) _ _ _
  refine wpAny_pure ⟨Code.quiet_builtin _ (by decide +kernel), codeAny_builtin F.entry_type_call ?_⟩; rw [Around.under_plain (weight_type_call_type "set" [.ref lp] []) rfl]
  repeat (any_goals (first | assumption | wp_step))
  refine codeAny_mono (code_set_led1 (.ref lp) (E := E) (Q₁ := fun v t => v = .ref s.heap.objs.size ∧ t = { s with heap := s.heap.push (nsO w) }) ⟨rfl, rfl⟩) fun r t hr => ?_
  match r, hr with
  | .ok (.ret v), hr =>
    obtain ⟨rfl, rfl⟩ := hr
    have tS : Shared.TypeIs { s with heap := s.heap.push (nsO w) } (.ref s.heap.objs.size) "set" := ⟨_, new, rfl⟩
    repeat (any_goals (first | assumption | wp_step))
    refine codeAny_mono inn fun r2 t2 h2 => ?_
    match r2, h2 with
    | .ok (.ret v2), h2 =>
      obtain ⟨rfl, hq⟩ := h2
      repeat (any_goals (first | assumption | wp_step))
    | .error e, h2 => exact h2
  | .error e, hr => exact hr
end
end L2

set_option Elab.async false
set_option linter.all false
set_option maxRecDepth 100000
set_option maxHeartbeats 4000000
namespace Sx
open PySem PySem.Spec PyProof.Rows L2 SxA PySem.W
/-! ### sorted(set(x)), x a list of ints -/
def tSortSet (K : PySem.W.Frag) (te : TE) : TE := fun σ H Q => te σ H fun x H1 => ∃ (a : Addr) (ns : List Int), x = .ref a ∧ SqL K H1 a (ns.map V.int) ∧ ns.length ≤ 60 ∧ ∀ (out : List Int) p, out.Pairwise (· < ·) → (∀ k, k ∈ out ↔ k ∈ ns) → H1 p = none → Q (.ref p) (upd H1 p (.lst (out.map V.int)))
theorem pe_sortSet {X : Cx} {e : Expr} {te : TE} {p p2 q pos : Pos} (hg : Gl X "sorted") (hm : X.mg "sorted" = none) (hg2 : Gl X "set") (hm2 : X.mg "set" = none) (he : PE X e te) (hc : X.calm = true := by rfl)
    (na : starEach [e] X.env = (false, eval e X.env) :: starEach [] X.env := by rfl) : PE X (.Call (.Name "sorted" p) [.Call (.Name "set" p2) [e] [] q] [] pos) (tSortSet X.K te) := by
  refine ⟨fun pins s σ H Q I h => ?_⟩
  refine Call_ (ld_blt (u := .builtin "sorted") I hg hm (by decide +kernel) (PyProof.Rows.callWith_builtin1 (PyProof.Rows.args_cons (Call_ (ld_blt I hg2 hm2 PyProof.Rows.boot_set (PyProof.Rows.callWith_type1 (PyProof.Rows.args_cons (thn (he.run pins s σ H _ I h) fun v s1 hv => PyProof.Rows.args_nil ?_) na) na rfl))) rfl) rfl rfl))
  obtain ⟨x, H1, I1, r1, a, ns, rfl, hq, hl, k⟩ := hv
  cases r1
  obtain ⟨its, r, pl, hz⟩ := I1.list hq
  refine call_set_ints (ns := ns) (I1.ok.hd hc) pl.isList (by simpa using RZ.intsAre_vals r) (by unfold scanBound; omega) fun h' tk c R cn kp => PyProof.Rows.args_nil ?_
  have I2 : Inv X pins σ H1 { s1 with heap := h', toks := tk } := I1.kept kp
  refine sorted_set R (I2.ok.hd hc) (by omega) fun s' p3 out c3 ms kh g o hp hgt hi hs hmem hlen => ?_
  have l3 : (ms.map V.int).length ≤ sizeLine := by rw [List.length_map, hlen, sizeLine_eq]; omega
  have fr : H1 p3 = none := I2.hok.fresh hp
  have kh2 : ∀ b o, s1.heap.get? b = some o → s'.heap.get? b = some o := fun b o e => kh b o (kp b o e)
  have hp2 : s1.heap.objs.size ≤ p3 := Nat.le_trans (Nat.le_of_lt R.lt) hp
  have J : Inv X pins σ (upd H1 p3 (.lst (ms.map V.int))) { s1 with heap := s'.heap, gens := s'.gens, drawn := s'.drawn, toks := s'.toks } :=
    I1.call (ch := []) (Un.laid kh2 hp2 fr) (I1.hok.laid kh2 hp2 ⟨l3, out.toList, c3, vals_of_ints hi, hgt⟩) (by rw [g]; exact I1.bare) (fun _ z => nomatch z)
  have es : s' = { s1 with heap := s'.heap, gens := s'.gens, drawn := s'.drawn, toks := s'.toks } := by
    cases s'
    cases s1
    cases o
    rfl
  rw [es]
  exact ⟨.ref p3, _, J, rfl, k ms p3 hs (fun j => by rw [hmem j, decide_eq_true_eq]) fr⟩
/-! ### min(x, default=d), x a list of data -/
@[irreducible] def rMinDef (K : PySem.W.Frag) : List V → List V → Hp → VK → Prop := fun vs zs H Q => ∃ (a : Addr) (xs : List V) (ds : List PyData) (d : V), vs = [V.ref a] ∧ zs = [d] ∧ SqL K H a xs ∧ DpAll K H xs ds ∧ AlikeAll ds ∧ PyData.depthAll ds ≤ 60 ∧
  (ds = [] → Q d H) ∧ ∀ (x : PyData) (r : List PyData), ds = x :: r → ∀ (i : Nat) (v : V), xs[i]? = some v → ds.getD i .none = minD x r → Q v H
theorem cr_minDef {X : Cx} (hc : X.calm = true) (hu : X.A.units + 64 < cLine) : CallRK X (.builtin "min") ["default"] (rMinDef X.K) := by
  intro pins s σ H vs zs us ws Q I rr rz h
  unfold rMinDef at h
  obtain ⟨a, xs, ds, d, rfl, rfl, hs, hd, ha, hdep, q0, q⟩ := h
  obtain ⟨its, rv, hl, _⟩ := I.list hs
  obtain ⟨as, hr⟩ := Dp.readsAll I ds _ _ hd rv
  rw [Vals.ref1 rr]
  cases rz with
  | cons rd rz =>
    cases rz
    have hl' := hl.isList
    have hr' : ReadsAll s.heap its.toArray.toList ds as := by simpa using hr
    have hn : its.toArray.size = ds.length := readsAll_len hr'
    show wpAny _ _ (call (.builtin "min") [.ref a] [(Str.ofString "default", _)]) _ _ _
    refine call_min_walkD (iter_listW (A := X.A.in1) (I.ok.hd hc) hl' fun s₂ e W st hfp hw hk => ?_)
    refine ⟨_, _, _, _, _, _, _, s.heap, (fun i j => dataLt (ds.getD i .none) (ds.getD j .none)), rfl, W, st, hfp, hw, hk, fun hz s' m => ?_, fun hp => ⟨cmpIn_lt (A := X.A.in1) hr' ha (by show X.A.units + 1 + _ < _; omega), fun v s' hP m => ?_⟩⟩
    · obtain ⟨h', tk, rfl, hk'⟩ := moved_old e rfl m
      exact ⟨_, H, I.kept hk', rd, q0 (List.eq_nil_of_length_eq_zero (by omega))⟩
    · obtain ⟨h', tk, rfl, hk'⟩ := moved_old e rfl m
      cases ds with
      | nil => exact absurd hp (by rw [hn]; exact Nat.lt_irrefl 0)
      | cons x r =>
        have e1 : its.toArray.size - 1 = r.length := by rw [hn]; rfl
        have e2 := (argBest_fold dataLt PyData.none x r r.length (Nat.le_refl _)).2
        rw [List.take_length] at e2
        rw [e1] at hP
        have hi : argBest (fun i j => dataLt ((x :: r).getD i PyData.none) ((x :: r).getD j PyData.none)) r.length < its.length := by
          have := (Array.getElem?_eq_some_iff.mp hP).1
          simpa using this
        have vl : xs.length = its.length := Vals.length rv
        obtain ⟨u, e3, e4⟩ := Vals.get rv (List.getElem?_eq_getElem (show _ < xs.length by rw [vl]; exact hi))
        have e5 : u = v := by
          rw [List.getElem?_toArray] at hP
          exact Option.some.inj (e3.symm.trans hP)
        subst e5
        exact ⟨_, H, I.kept hk', e4, q x r rfl _ _ (List.getElem?_eq_getElem _) e2⟩
end Sx

set_option Elab.async false
set_option linter.all false
set_option maxRecDepth 100000
set_option maxHeartbeats 2000000
namespace Sx
open PySem PySem.Spec PyProof.Rows L2 SxA
/-! ### dict comprehensions whose keys are tuples -/
section
variable {X : Cx}
/-- what a comprehension's turn writes: D[t] = z, t a tuple of ints and texts -/
def PutT (D : Addr) (y z : V) (H : Hp) (N : Hp → Prop) : Prop := ∃ (kvs : List (List Key × V)) (k : List Key) (b : Addr), y = .ref b ∧ H b = some (.tup (k.map kV)) ∧ H D = some (.dT kvs) ∧ kvs.length < sizeLine ∧ N (upd H D (.dT (putK kvs k z)))
def stepT (g : TG) (tt : TT) (tk tv : TE) (vs : List Nat) (σ : L2.St) (D : Addr) (x : V) (H : Hp) (N : Hp → Prop) : Prop :=
  g x (wipe σ vs) H fun τ H1 => wipe τ vs = wipe σ vs ∧ tt τ H1 fun b H2 => if b = true then tk τ H2 (fun y H3 => tv τ H3 fun z H4 => PutT D y z H4 N) else N H2
def tDcT (wi : TI) (g : TG) (tt : TT) (tk tv : TE) (vs : List Nat) : TE := fun σ H Q => wi σ H fun J H1 => ∀ D, H1 D = none →
  ∃ W : Nat → Nat → Hp → Prop, (∃ m, W 0 m (upd H1 D (.dT []))) ∧ ∀ i m H2, W i m H2 →
    (J.stop i H2 ∧ Q (.ref D) H2) ∨ (J.go i H2 ∧ ∃ N : Hp → Prop, (∀ H3, N H3 → ∃ n, n < m ∧ W (i + 1) n H3) ∧ ∀ x H3, J.yld i H2 x H3 → stepT g tt tk tv vs σ D x H3 N)
theorem dictSet_T {pins : List (Addr × Obj)} {σ : L2.St} {H : Hp} {s : Shared} {E : Value → Shared → Prop} {D : Addr} {y z : V} {u r : Value} {N : Hp → Prop} {Q : Unit → Shared → Prop} (hu : X.A.units < cLine) (I : Inv X pins σ H s) (p : PutT D y z H N)
    (ry : RelV y u) (rz : RelV z r) (h : ∀ H' s', Inv X pins σ H' s' → N H' → Q () s') : wpAny (model X.prog X.w) X.A (dictSet D u r) Q E s := by
  obtain ⟨kvs, k, b, rfl, hb, hD, hl, n⟩ := p
  obtain rfl : u = Value.ref b := ry
  obtain ⟨l1, ns, xs, rel, dd⟩ := dt_of I.hok hD
  have l2 : xs.length ≤ sizeLine := (Paired.length rel) ▸ l1
  have l3 : (putK kvs k z).length ≤ sizeLine := Nat.le_trans (length_putK kvs k z) hl
  apply wpAny_dictSet_heap (hsz := l2) (show (tupleKind (mixKind X.prog X.w)).room X.A from hu) (key_of I.hok hb) dd
  intro h' dd' same
  obtain ⟨o, es, ep, q1, q2, q3, q4, _, q5⟩ := dd'
  refine h _ _ (d_write (ob := .dT (putK kvs k z)) I (by rw [hD]; trivial) same ⟨o, q1⟩ ⟨l3, ns, _, (rel.put k hb rz).keeps ?_, o, es, ep, q1, q2, q3, q4, q5⟩) n
  intro c ys hc
  rw [upd_ne (ne_of hc hD (fun z => nomatch z))]
  exact hc
/-- the loop of such a comprehension, in its own block Y -/
theorem turns_T {Y : Cx} {tg iter kx vx : Expr} {ifs : List Expr} {scope : Scope} {pos : Pos} {g : TG} {tt : TT} {tk tv : TE} (calm : Y.calm = true) (hu : Y.A.units < cLine) (nopin : Y.pn = []) (noex : Y.xe = fun _ _ => False) {J : It} {fp : List Addr} {it : Addr} {tn : Nat → Heap → Prop}
    (T : Turn Y.prog Y.w Y.K tg J fp it tn) (ex : ∀ b ∈ fp, b ∈ Y.ex) (pg : PG Y tg g) (pt : PTs Y ifs tt) (pk : PE Y kx tk) (pv : PE Y vx tv) {vs : List Nat} {σ : L2.St} {D : Addr} {W : Nat → Nat → Hp → Prop} {Qd : Hp → Prop}
    (turn : ∀ i m H2, W i m H2 → (J.stop i H2 ∧ Qd H2) ∨ (J.go i H2 ∧ ∃ N : Hp → Prop, (∀ H3, N H3 → ∃ n, n < m ∧ W (i + 1) n H3) ∧ ∀ x H3, J.yld i H2 x H3 → stepT g tt tk tv vs σ D x H3 N))
    {R : Result → Shared → Prop} (post : ∀ s' H', Inv Y [] (wipe σ vs) H' s' → Qd H' → R (.ok .next) s') {m0 : Nat} {H0 : Hp} {s : Shared} (I0 : Inv Y [] (wipe σ vs) H0 s) (t0 : tn 0 s.heap) (f0 : ∀ b ∈ fp, H0 b = none) (w0 : W 0 m0 H0) :
    codeAny (model Y.prog Y.w) Y.A (.compLoop (.DictComp kx vx [⟨tg, iter, ifs, 0⟩] scope pos) 0 (.ref it) (.ref D) Y.env) R s := by
  have free : ∀ {τ : L2.St} {H' : Hp} {s' : Shared}, Inv Y [] τ H' s' → (∀ b ∈ fp, H' b = none) → ∀ b ∈ fp, FpOk Y [] H' b := by
    intro τ H' s' I' hn b hb
    have q := I'.ok.exf b (ex b hb)
    refine ⟨hn b hb, q.1, I'.ok.exfs b (ex b hb), Or.inl (ex b hb), fun x c e => q.2 x c e, ?_⟩
    rw [nopin]
    intro p hp
    cases hp
  refine compLoop_anyD (fun n s' => ∃ i H', Inv Y [] (wipe σ vs) H' s' ∧ tn i s'.heap ∧ (∀ b ∈ fp, H' b = none) ∧ W i n H') ?_ m0 ⟨0, H0, I0, t0, f0, w0⟩
  rintro n s1 ⟨i, H1, I1, t1, f1, w1⟩
  cases turn i n H1 w1 with
  | inl e =>
    have d := T.done Y rfl rfl rfl calm i [] s1 _ H1 (fun _ _ => False) I1 (free I1 f1) t1 e.1
    refine thnF d ?_
    rintro r s2 ⟨rfl, I2⟩
    exact post s2 H1 I2 e.2
  | inr e =>
    obtain ⟨go, N, hN, step⟩ := e
    have d := T.item Y rfl rfl rfl calm i [] s1 _ H1 (fun _ _ => False) I1 (free I1 f1) t1 go
    refine thnF d ?_
    rintro r s2 ⟨u, rfl, d2⟩
    refine thnF d2 ?_
    rintro _ s3 ⟨x, H3, I3, rx, yl, t3, f3⟩
    have P3 := I3.pinned (free I3 f3) (T.obj _ _ t3)
    have a1 := pg.run _ s3 _ H3 x u _ P3 rx (step x H3 yl)
    rw [noex] at a1
    refine thnF a1 ?_
    rintro _ s4 ⟨τ, H4, I4, wp, q4⟩
    have a2 := pt.run _ s4 τ H4 _ I4 q4
    rw [noex] at a2
    refine thnF a2 ?_
    rintro b s5 ⟨H5, I5, q5⟩
    have back : ∀ {s' : Shared} {H' : Hp}, Inv Y ([] ++ pinsAt fp s3.heap) τ H' s' → N H' → ∃ m, m < n ∧ ∃ i H', Inv Y [] (wipe σ vs) H' s' ∧ tn i s'.heap ∧ (∀ b ∈ fp, H' b = none) ∧ W i m H' := by
      intro s' H' I' h
      obtain ⟨m, hm, hw⟩ := hN H' h
      have stay : ∀ b ∈ fp, ∀ o, s3.heap.get? b = some o → s'.heap.get? b = some o ∧ H' b = none := by
        intro b hb o e
        have q := I'.pin (b, o) (List.mem_append_right _ (List.mem_append_right _ (mem_pinsAt hb e)))
        exact And.intro q.1 q.2.1
      have len : (wipe σ vs).length = τ.length := by
        rw [← wp, wipe_length]
      refine ⟨m, hm, i + 1, H', (I'.unpinned (pins := [])).weak len ?_, ?_, ?_, hw⟩
      · intro j v e
        rw [← wp] at e
        exact (wipe_some e).1
      · exact T.keep _ _ _ t3 fun b hb o e => (stay b hb o e).1
      · intro b hb
        obtain ⟨o, e, _⟩ := T.obj _ _ t3 b hb
        exact (stay b hb o e).2
    cases b with
    | false => exact back I5 q5
    | true =>
      have q5' : tk τ H5 (fun y H3 => tv τ H3 fun z H4 => PutT D y z H4 N) := q5
      have a3 := pk.run _ s5 τ H5 _ I5 q5'
      rw [noex] at a3
      refine thnF a3 ?_
      rintro ky s6 ⟨y, H6, I6, ry, q6⟩
      have a4 := pv.run _ s6 τ H6 _ I6 q6
      rw [noex] at a4
      refine thnF a4 ?_
      rintro kv s7 ⟨z, H7, I7, rz, q7⟩
      exact dictSet_T hu I7 q7 ry rz fun H' s' I' h => back I' h
/-- such a comprehension, its dict used as use says -/
theorem core_T {pins : List (Addr × Obj)} {s : Shared} {σ : L2.St} {H : Hp} {Q : VK} {kx vx tg iter : Expr} {ifs : List Expr} {scope : Scope} {own : List (Str × Nat)} {pos pos2 : Pos} {wi : TI} {g : TG} {tt : TT} {tk tv : TE} {use : Option (Value → Sem Unit)} {Qf : Value → Shared → Prop}
    (calm : X.calm = true) (hu : X.A.units < cLine) (nd : X.N.Nodup) (I : Inv X pins σ H s) (pi : PI X tg iter wi) (ok : BlkOk X.N X.env.scope scope own)
    (pg : ∀ (s : Shared) (H : Hp) (C : Addr) (cl : List (Str × Addr)) (fp : List Addr), PG (X.blk s H scope (compEnvC scope cl C X.env) fp) tg g)
    (pt : ∀ (s : Shared) (H : Hp) (C : Addr) (cl : List (Str × Addr)) (fp : List Addr), PTs (X.blk s H scope (compEnvC scope cl C X.env) fp) ifs tt)
    (pk : ∀ (s : Shared) (H : Hp) (C : Addr) (cl : List (Str × Addr)) (fp : List Addr), PE (X.blk s H scope (compEnvC scope cl C X.env) fp) kx tk)
    (pv : ∀ (s : Shared) (H : Hp) (C : Addr) (cl : List (Str × Addr)) (fp : List Addr), PE (X.blk s H scope (compEnvC scope cl C X.env) fp) vx tv)
    (fold : ∀ x, foldedSetIterable iter X.env x = pure x) (h : tDcT wi g tt tk tv (own.map (·.2)) σ H Q)
    (fin : ∀ D C s' m H', Inv X pins σ H' s' → Q (.ref D) H' → s'.heap.Ns C m → FpOk X pins H' C → compPost (model X.prog X.w) X.A X.xe use Qf (.ref D) C (.ok .next) s') :
    wpAny (model X.prog X.w) X.A (comprehension (.DictComp kx vx [⟨tg, iter, ifs, 0⟩] scope pos) scope X.env pos2 newDict false (eval iter X.env) use) Qf X.xe s := by
  have cells : ∀ y ∈ scope.names, y.2 = .free → ∃ c, X.env.cells.lookup y.1 = some c := by
    intro y hy e
    cases ok.free y hy e with
    | inl q => exact I.ok.has _ (Or.inl q)
    | inr q => exact I.ok.has _ (Or.inr q)
  refine wpAny_comprehension_free (use := use) rfl fold (closure_ok cells) ok.kind (fun y hy e => by rw [ok.uniq y hy, e]) ?_
  refine thn (pi.run pins s σ H _ I h) ?_
  intro xv s1 h1
  refine thn h1 ?_
  rintro _ s2 ⟨it, fp, tn, J, H2, rfl, I2, T, t2, f2, q⟩
  refine wpAny_newObj_type (newEnv_comp ?_)
  have Dn : H2 s2.heap.objs.size = none := I2.hok.fresh (Nat.le_refl _)
  obtain ⟨W, ⟨m0, w0⟩, turn⟩ := q _ Dn
  have old : ∀ b ∈ fp, b < s2.heap.objs.size := by
    intro b hb
    obtain ⟨o, e, _⟩ := T.obj _ _ t2 b hb
    exact Heap.lt_size e
  have new : ∀ (b : Addr) (o : Obj), s2.heap.get? b = some o → (s2.heap.push { cls := .type "dict", data := .dict #[] }).get? b = some o := fun b o e => Heap.get?_push_of_some _ e
  have I3 : Inv X pins σ (upd H2 s2.heap.objs.size (.dT [])) { s2 with heap := s2.heap.push { cls := .type "dict", data := .dict #[] } } :=
    I2.laid (t' := s2.toks) new (Nat.le_refl _) (dt_empty s2.heap I2.big)
  have f3 : ∀ b ∈ fp, FpOk X pins (upd H2 s2.heap.objs.size (.dT [])) b ∧ b < (s2.heap.push { cls := .type "dict", data := .dict #[] }).objs.size := by
    intro b hb
    have lt := old b hb
    have q := f2 b hb
    refine ⟨⟨?_, q.2⟩, ?_⟩
    · rw [upd_ne (Nat.ne_of_lt lt)]
      exact q.1
    · rw [Heap.size_push]
      exact Nat.lt_succ_of_lt lt
  have t3 : tn 0 (s2.heap.push { cls := .type "dict", data := .dict #[] }) := T.keep _ _ _ t2 fun b _ o e => new b o e
  have B := block_start I3 ok nd f3
  generalize hs3 : ({ s2 with heap := s2.heap.push { cls := .type "dict", data := .dict #[] } } : Shared) = s3 at I3 B
  have e3 : s3.heap = s2.heap.push { cls := .type "dict", data := .dict #[] } := by rw [← hs3]
  rw [← e3] at t3 f3
  generalize hD : s2.heap.objs.size = D at *
  show codeAny _ _ (.compStart (.DictComp kx vx [⟨tg, iter, ifs, 0⟩] scope pos) 0 (.ref it) (.ref D) (compEnvC scope (cellsFrom (s3.heap.objs.size + 1) scope.names (cloFrom X.env.cells scope.names [])) s3.heap.objs.size X.env))
    (compPost (model X.prog X.w) X.A X.xe use Qf (.ref D) s3.heap.objs.size) { s3 with heap := pushCells (s3.heap.push { cls := .type "dict", data := .dict #[] }) scope.names }
  have g1 := pg s3 (upd H2 D (.dT [])) s3.heap.objs.size (cellsFrom (s3.heap.objs.size + 1) scope.names (cloFrom X.env.cells scope.names [])) fp
  have g2 := pt s3 (upd H2 D (.dT [])) s3.heap.objs.size (cellsFrom (s3.heap.objs.size + 1) scope.names (cloFrom X.env.cells scope.names [])) fp
  have g3 := pk s3 (upd H2 D (.dT [])) s3.heap.objs.size (cellsFrom (s3.heap.objs.size + 1) scope.names (cloFrom X.env.cells scope.names [])) fp
  have g4 := pv s3 (upd H2 D (.dT [])) s3.heap.objs.size (cellsFrom (s3.heap.objs.size + 1) scope.names (cloFrom X.env.cells scope.names [])) fp
  have loc : (compEnvC scope (cellsFrom (s3.heap.objs.size + 1) scope.names (cloFrom X.env.cells scope.names [])) s3.heap.objs.size X.env).locals = s3.heap.objs.size := rfl
  generalize compEnvC scope (cellsFrom (s3.heap.objs.size + 1) scope.names (cloFrom X.env.cells scope.names [])) s3.heap.objs.size X.env = ce at B g1 g2 g3 g4 loc ⊢
  have t4 : tn 0 (pushCells (s3.heap.push { cls := .type "dict", data := .dict #[] }) scope.names) := T.keep _ _ _ t3 fun b _ o e => pushCells_keeps _ _ _ _ (Heap.get?_push_of_some _ e)
  have L := turns_T (Y := X.blk s3 (upd H2 D (.dT [])) scope ce fp) (kx := kx) (vx := vx) (iter := iter) (scope := scope) (pos := pos) calm hu rfl rfl T (fun b hb => hb) g1 g2 g3 g4 turn (R := compPost (model X.prog X.w) X.A X.xe use Qf (.ref D) s3.heap.objs.size) ?_ B t4 (fun b hb => (f3 b hb).1.1) w0
  · exact codeAny_compStart_dict L (T.self X.A 0 _ _ _ t4 L)
  intro s' H' I' q'
  have I7 : Inv X pins σ H' s' := by
    refine I3.call' (ch := fp) I'.os I'.base I'.hok I'.bare ?_
    intro b hb
    have q := (f3 b hb).1
    exact ⟨q.2.2.2.1, q.2.1, q.2.2.2.2.1, q.2.2.2.2.2⟩
  have nC : H' s3.heap.objs.size = none := by
    have z : H' ce.locals = none := I'.free
    rw [loc] at z
    exact z
  obtain ⟨m, hn, _⟩ := I'.loc
  have hm : s'.heap.Ns ce.locals m := hn
  rw [loc] at hm
  exact fin D s3.heap.objs.size s' m H' I7 q' hm (I3.fpOk (Nat.le_refl _) nC)
/-- {(..): .. for ..} -/
theorem pe_dcT {kx vx tg iter : Expr} {ifs : List Expr} {scope : Scope} {own : List (Str × Nat)} {pos : Pos} {wi : TI} {g : TG} {tt : TT} {tk tv : TE} (calm : X.calm = true) (hu : X.A.units < cLine) (nd : X.N.Nodup) (pi : PI X tg iter wi) (ok : BlkOk X.N X.env.scope scope own)
    (pg : ∀ (s : Shared) (H : Hp) (C : Addr) (cl : List (Str × Addr)) (fp : List Addr), PG (X.blk s H scope (compEnvC scope cl C X.env) fp) tg g)
    (pt : ∀ (s : Shared) (H : Hp) (C : Addr) (cl : List (Str × Addr)) (fp : List Addr), PTs (X.blk s H scope (compEnvC scope cl C X.env) fp) ifs tt)
    (pk : ∀ (s : Shared) (H : Hp) (C : Addr) (cl : List (Str × Addr)) (fp : List Addr), PE (X.blk s H scope (compEnvC scope cl C X.env) fp) kx tk)
    (pv : ∀ (s : Shared) (H : Hp) (C : Addr) (cl : List (Str × Addr)) (fp : List Addr), PE (X.blk s H scope (compEnvC scope cl C X.env) fp) vx tv)
    (fold : ∀ x, foldedSetIterable iter X.env x = pure x := by intro _; rfl) : PE X (.DictComp kx vx [⟨tg, iter, ifs, 0⟩] scope pos) (tDcT wi g tt tk tv (own.map (·.2))) := by
  constructor
  intro pins s σ H Q I h
  rw [arm_eval_DictComp]
  refine core_T calm hu nd I pi ok pg pt pk pv fold h ?_
  intro D C s' m H' I' q hn F
  refine ⟨m, hn, ?_⟩
  intro h2 sb
  exact ⟨.ref D, H', I'.turned (t' := s'.toks) (fun b o hb e => (sb.2 b hb).trans e) F.1 F.2.1 F.2.2.2.1 F.2.2.2.2.1 F.2.2.2.2.2, rfl, q⟩
/-- name = {(..): .. for ..} on one line -/
theorem ps_setDcT {i : Nat} {y : Str} {py : Pos} {kx vx tg iter : Expr} {ifs : List Expr} {scope : Scope} {own : List (Str × Nat)} {pos spos : Pos} {wi : TI} {g : TG} {tt : TT} {tk tv : TE} (calm : X.calm = true) (hu : X.A.units < cLine) (nd : X.N.Nodup) (hy : X.N[i]? = some y) (hl : X.env.scope.names.lookup y = some .local)
    (sw : swapsWith (.DictComp kx vx [⟨tg, iter, ifs, 0⟩] scope pos) (some (.Name y py)) spos.line X.env = pure true) (pi : PI X tg iter wi) (ok : BlkOk X.N X.env.scope scope own)
    (pg : ∀ (s : Shared) (H : Hp) (C : Addr) (cl : List (Str × Addr)) (fp : List Addr), PG (X.blk s H scope (compEnvC scope cl C X.env) fp) tg g)
    (pt : ∀ (s : Shared) (H : Hp) (C : Addr) (cl : List (Str × Addr)) (fp : List Addr), PTs (X.blk s H scope (compEnvC scope cl C X.env) fp) ifs tt)
    (pk : ∀ (s : Shared) (H : Hp) (C : Addr) (cl : List (Str × Addr)) (fp : List Addr), PE (X.blk s H scope (compEnvC scope cl C X.env) fp) kx tk)
    (pv : ∀ (s : Shared) (H : Hp) (C : Addr) (cl : List (Str × Addr)) (fp : List Addr), PE (X.blk s H scope (compEnvC scope cl C X.env) fp) vx tv)
    (fold : ∀ x, foldedSetIterable iter X.env x = pure x := by intro _; rfl) : PS X (.Assign [.Name y py] (.DictComp kx vx [⟨tg, iter, ifs, 0⟩] scope pos) spos) (tAsg (tDcT wi g tt tk tv (own.map (·.2))) (gName i)) := by
  constructor
  intro pins s σ H D I h
  rw [exec_Assign_Name_used _ _ _ _ sw]
  refine wpAny_bind (wpAny_standAt (wpAny_bind ?_))
  show wpAny _ X.A (do let _ ← comprehension (.DictComp kx vx [⟨tg, iter, ifs, 0⟩] scope pos) scope X.env (firstIterPos [⟨tg, iter, ifs, 0⟩] pos) newDict false (eval iter X.env) (some (assign (.Name y py) X.env))) _ _ s
  have h' : tDcT wi g tt tk tv (own.map (·.2)) σ H (fun x H1 => gName i x σ H1 D.nx) := h
  have go := core_T (pos := pos) (pos2 := firstIterPos [⟨tg, iter, ifs, 0⟩] pos) (use := some (assign (.Name y py) X.env)) (Qf := fun _ s' => SP X pins D .next s') calm hu nd I pi ok pg pt pk pv fold h' ?_
  · exact wpAny_bind (thn go fun _ s' q => wpAny_pure (wpAny_pure q))
  intro L C s' m H' I' q hn F
  show wpAny _ _ (assign (.Name y py) X.env (.ref L)) _ _ _
  refine wpAny_assign_Name (store_ok2 (v := V.ref L) I' nd hy (Or.inl hl) rfl ?_ (Or.inr hl))
  rintro s2 I2 ⟨a, sb, ha⟩
  have ne : C ≠ a := by
    cases ha with
    | inl z => rw [z]; exact F.2.1
    | inr z => exact fun e => F.2.2.2.2.1 y a z e.symm
  refine ⟨m, hn.sameBut sb ne, ?_⟩
  intro h3 sb3
  exact ⟨_, H', I2.turned (t' := s2.toks) (fun b o hb e => (sb3.2 b hb).trans e) F.1 F.2.1 F.2.2.2.1 F.2.2.2.2.1 F.2.2.2.2.2, q⟩
theorem swD_true {kx vx : Expr} {gs : List Comprehension} {scope : Scope} {pos py : Pos} {y : Str} {l : Nat} {env : Env} (hk : env.scope.kind = .function) (hy : env.scope.names.lookup y = some .local) (hl : (py.line == pos.line) = true)
    (ha : (scope.names.any fun (n, k) => n == y && (k == .local || k == .cell)) = false) : swapsWith (.DictComp kx vx gs scope pos) (some (.Name y py)) l env = pure true := by
  have kk : env.kindOf y = some .local := hy
  have bk : env.blockKind = .function := by
    unfold Env.blockKind
    rw [hk]
    rfl
  unfold swapsWith
  simp only [bk, kk, ha, Expr.pos, hl]
  rfl
end
end Sx

set_option Elab.async false
set_option linter.all false
set_option maxRecDepth 100000
set_option maxHeartbeats 1000000
namespace Sx
open PySem PySem.Spec PyProof.Rows L2 SxA PySem.W
/-! ### the order of lists of ints -/
def ltI : List Int → List Int → Bool
  | [], [] => false
  | [], _ :: _ => true
  | _ :: _, [] => false
  | x :: r, y :: t => decide (x < y) || (decide (x = y) && ltI r t)
theorem ltI_self : ∀ a : List Int, ltI a a = false
  | [] => rfl
  | x :: r => by simp [ltI, ltI_self r]
theorem ltI_conn : ∀ {a b : List Int}, ltI a b = false → ltI b a = false → a = b
  | [], [], _, _ => rfl
  | [], _ :: _, h, _ => by cases h
  | _ :: _, [], _, h => by cases h
  | x :: r, y :: t, h1, h2 => by
    simp only [ltI, Bool.or_eq_false_iff, Bool.and_eq_false_iff, decide_eq_false_iff_not] at h1 h2
    have e : x = y := by omega
    subst e
    have q1 : ltI r t = false := by rcases h1.2 with q | q; exact absurd rfl q; exact q
    have q2 : ltI t r = false := by rcases h2.2 with q | q; exact absurd rfl q; exact q
    rw [ltI_conn q1 q2]
theorem ltI_neg : ∀ {a b c : List Int}, ltI a b = false → ltI b c = false → ltI a c = false
  | _, [], [], h, _ => h
  | [], [], _ :: _, _, h => by cases h
  | _ :: _, [], _ :: _, _, h => by cases h
  | [], _ :: _, _, h, _ => by cases h
  | _ :: _, _ :: _, [], _, _ => rfl
  | x :: r, y :: t, z :: u, h1, h2 => by
    simp only [ltI, Bool.or_eq_false_iff, Bool.and_eq_false_iff, decide_eq_false_iff_not] at h1 h2 ⊢
    refine ⟨by omega, ?_⟩
    by_cases e : x = z
    · have e1 : x = y := by omega
      have e2 : y = z := by omega
      refine .inr (ltI_neg (b := t) ?_ ?_)
      · rcases h1.2 with q | q
        · exact absurd e1 q
        · exact q
      · rcases h2.2 with q | q
        · exact absurd e2 q
        · exact q
    · exact .inl e
theorem ltI_pre : ∀ (x : List Int) {a b : List Int}, ltI (x ++ a) (x ++ b) = ltI a b
  | [], _, _ => rfl
  | y :: x, a, b => by
    show (decide (y < y) || (decide (y = y) && ltI (x ++ a) (x ++ b))) = _
    rw [ltI_pre x]
    simp
/-- rows: the shorter first, then by their cells -/
def ltR (a b : List Int) : Bool := decide (a.length < b.length) || (decide (a.length = b.length) && ltI a b)
theorem ltR_self (a : List Int) : ltR a a = false := by simp [ltR, ltI_self]
theorem ltR_conn {a b : List Int} (h1 : ltR a b = false) (h2 : ltR b a = false) : a = b := by
  simp only [ltR, Bool.or_eq_false_iff, Bool.and_eq_false_iff, decide_eq_false_iff_not] at h1 h2
  have e : a.length = b.length := by omega
  refine ltI_conn ?_ ?_
  · rcases h1.2 with q | q
    · exact absurd e q
    · exact q
  · rcases h2.2 with q | q
    · exact absurd e.symm q
    · exact q
theorem ltR_neg {a b c : List Int} (h1 : ltR a b = false) (h2 : ltR b c = false) : ltR a c = false := by
  simp only [ltR, Bool.or_eq_false_iff, Bool.and_eq_false_iff, decide_eq_false_iff_not] at h1 h2 ⊢
  refine ⟨by omega, ?_⟩
  by_cases e : a.length = c.length
  · have e1 : a.length = b.length := by omega
    have e2 : b.length = c.length := by omega
    refine .inr (ltI_neg (b := b) ?_ ?_)
    · rcases h1.2 with q | q
      · exact absurd e1 q
      · exact q
    · rcases h2.2 with q | q
      · exact absurd e2 q
      · exact q
  · exact .inl e
theorem ltR_pre (x : List Int) {a b : List Int} : ltR (x ++ a) (x ++ b) = ltR a b := by
  unfold ltR
  rw [ltI_pre]
  simp only [List.length_append]
  congr 1
  · exact decide_eq_decide.mpr (by omega)
  · congr 1
    exact decide_eq_decide.mpr (by omega)
/-! ### the same order of data -/
def tokI (xs : List Int) : List (Int ⊕ List Nat) := xs.flatMap fun x => [.inl 1, .inl x]
theorem toks_ints : ∀ xs : List Int, keyToksAll (xs.map PyData.int) = tokI xs ++ [.inl 0]
  | [] => by simp [keyToksAll, tokI]
  | x :: r => by
    rw [List.map_cons, toks_all_cons, toks_ints r]
    simp [keyToks, tokI]
theorem lt_atom (a b : Int) (h : a ≠ b) (l m : List (Int ⊕ List Nat)) : PyProof.Rows.lexLt itemOrd (.inl a :: l) (.inl b :: m) = decide (a < b) := by
  rw [lex_atom (by intro z; exact h (Sum.inl.inj z))]
  exact dataLt_int a b
theorem lt_same (a : Int) (l m : List (Int ⊕ List Nat)) : PyProof.Rows.lexLt itemOrd (.inl a :: l) (.inl a :: m) = PyProof.Rows.lexLt itemOrd l m := lex_pre [.inl a] l m
theorem lt_num (a b : Int) (l m : List (Int ⊕ List Nat)) : PyProof.Rows.lexLt itemOrd (.inl a :: l) (.inl b :: m) = (decide (a < b) || (decide (a = b) && PyProof.Rows.lexLt itemOrd l m)) := by
  by_cases h : a = b
  · subst h
    rw [lt_same]
    simp
  · rw [lt_atom a b h]
    simp [h]
theorem lt_toks : ∀ (xs ys : List Int) (l m : List (Int ⊕ List Nat)), PyProof.Rows.lexLt itemOrd (tokI xs ++ .inl 0 :: l) (tokI ys ++ .inl 0 :: m) = (ltI xs ys || (decide (xs = ys) && PyProof.Rows.lexLt itemOrd l m))
  | [], [], l, m => by
    show PyProof.Rows.lexLt itemOrd (.inl 0 :: l) (.inl 0 :: m) = _
    rw [lt_same]
    simp [ltI]
  | [], y :: t, l, m => by
    show PyProof.Rows.lexLt itemOrd (.inl 0 :: l) (.inl 1 :: _) = _
    rw [lt_atom _ _ (by decide)]
    simp [ltI]
  | x :: r, [], l, m => by
    show PyProof.Rows.lexLt itemOrd (.inl 1 :: _) (.inl 0 :: m) = _
    rw [lt_atom _ _ (by decide)]
    simp [ltI]
  | x :: r, y :: t, l, m => by
    show PyProof.Rows.lexLt itemOrd (.inl 1 :: (.inl x :: (tokI r ++ .inl 0 :: l))) (.inl 1 :: (.inl y :: (tokI t ++ .inl 0 :: m))) = _
    rw [lt_same, lt_num, lt_toks r t]
    by_cases h : x = y
    · subst h
      simp [ltI]
    · simp [ltI, h]
/-- a candidate: (cells, the row, a number) -/
def cndD (R : List Int) (k : Nat) : PyData := .tuple [.int (R.length : Int), pInts R, .int (k : Int)]
theorem toks_cnd (R : List Int) (k : Nat) : keyToks (cndD R k) = .inl 1 :: .inl (R.length : Int) :: .inl 1 :: (tokI R ++ .inl 0 :: [.inl 1, .inl (k : Int), .inl 0]) := by
  unfold cndD pInts
  simp only [keyToks, keyToksAll, toks_ints]
  simp
theorem lt_cnd (R S : List Int) (k j : Nat) : dataLt (cndD R k) (cndD S j) = (ltR R S || (decide (R = S) && decide (k < j))) := by
  unfold dataLt
  rw [toks_cnd, toks_cnd, lt_same, lt_num, lt_same, lt_toks, lt_same, lt_num]
  unfold ltR
  have e0 : PyProof.Rows.lexLt itemOrd [.inl 0] [.inl 0] = false := lex_irrefl _
  rw [e0]
  by_cases h : R = S
  · subst h
    simp [ltI_self]
  · by_cases hl : R.length = S.length
    · simp [h, hl]
    · simp [h, hl]
      intro e _
      omega
/-- a row of the law: [cells, the row, the way] -/
def rwD (R : List Int) (u : List Int) : PyData := .list [.int (R.length : Int), pInts R, pInts u]
theorem toks_rw (R u : List Int) : keyToks (rwD R u) = .inl 1 :: .inl (R.length : Int) :: .inl 1 :: (tokI R ++ .inl 0 :: (.inl 1 :: (tokI u ++ .inl 0 :: [.inl 0]))) := by
  unfold rwD pInts
  simp only [keyToks, keyToksAll, toks_ints]
  simp
theorem lt_rw (R S u v : List Int) : dataLt (rwD R u) (rwD S v) = (ltR R S || (decide (R = S) && ltI u v)) := by
  unfold dataLt
  rw [toks_rw, toks_rw, lt_same, lt_num, lt_same, lt_toks, lt_same, lt_toks]
  unfold ltR
  have e0 : PyProof.Rows.lexLt itemOrd [.inl 0] [.inl 0] = false := lex_irrefl _
  rw [e0]
  by_cases h : R = S
  · subst h
    simp [ltI_self]
  · by_cases hl : R.length = S.length
    · simp [h, hl]
    · simp [h, hl]
      intro e _
      omega
end Sx

set_option Elab.async false
set_option linter.all false
set_option maxRecDepth 100000
set_option maxHeartbeats 1000000
namespace Sx
open PySem PySem.Spec PyProof.Rows L2 SxA PySem.W
def IsW (rs : List RD) (z : Str) : Nat → Int → List Nat → Prop
  | p, _, [] => p = z.length
  | p, m, k :: w => ∃ r, rs[k]? = some r ∧ r.mode = m ∧ fitsB r z p = true ∧ IsW rs z (p + r.text.length) r.to w
theorem fits_le {r : RD} {z : Str} {p : Nat} (ro : r.ok) (pz : p ≤ z.length) (h : fitsB r z p = true) : p + r.text.length ≤ z.length := by
  unfold fitsB at h
  exact slic_le ro pz (Bool.and_eq_true_iff.mp h).1
theorem isW_mem (rs : List RD) (z : Str) (ho : ∀ r ∈ rs, r.ok) : ∀ (n p : Nat) (m : Int) (w : List Nat), p ≤ z.length → z.length ≤ p + n → (IsW rs z p m w ↔ w ∈ waysN rs z n p m)
  | 0, p, m, w, pz, pn => by
    have e : p = z.length := by omega
    unfold waysN
    rw [List.mem_singleton]
    cases w with
    | nil => exact ⟨fun _ => rfl, fun _ => e⟩
    | cons k w =>
      refine ⟨fun h => ?_, fun h => by cases h⟩
      obtain ⟨r, h1, h2, h3, h4⟩ := h
      have := fits_le (ho r (List.mem_of_getElem? h1)) pz h3
      have := (ho r (List.mem_of_getElem? h1)).tl
      omega
  | n + 1, p, m, w, pz, pn => by
    unfold waysN
    by_cases e : p = z.length
    · rw [if_pos e, List.mem_singleton]
      cases w with
      | nil => exact ⟨fun _ => rfl, fun _ => e⟩
      | cons k w =>
        refine ⟨fun h => ?_, fun h => by cases h⟩
        obtain ⟨r, h1, h2, h3, h4⟩ := h
        have := fits_le (ho r (List.mem_of_getElem? h1)) pz h3
        have := (ho r (List.mem_of_getElem? h1)).tl
        omega
    · rw [if_neg e, List.mem_flatMap]
      cases w with
      | nil =>
        refine ⟨fun h => absurd h e, fun ⟨k, _, hk⟩ => ?_⟩
        split at hk
        · split at hk
          · obtain ⟨w0, _, h0⟩ := List.mem_map.mp hk
            cases h0
          · cases hk
        · cases hk
      | cons k w =>
        constructor
        · rintro ⟨r, h1, h2, h3, h4⟩
          have ro := ho r (List.mem_of_getElem? h1)
          have hl := fits_le ro pz h3
          have := ro.tl
          refine ⟨k, List.mem_range.mpr (List.getElem?_eq_some_iff.mp h1).1, ?_⟩
          rw [h1]
          show _ ∈ (if (decide (r.mode = m) && fitsB r z p) = true then _ else _)
          rw [h3, decide_eq_true h2, Bool.and_self, if_pos rfl]
          exact List.mem_map.mpr ⟨w, (isW_mem rs z ho n _ _ w hl (by omega)).mp h4, rfl⟩
        · rintro ⟨k', _, hk⟩
          split at hk
          · rename_i r h1
            split at hk
            · rename_i h2
              obtain ⟨w0, h0, e0⟩ := List.mem_map.mp hk
              injection e0 with e1 e2
              subst e1 e2
              obtain ⟨h3, h4⟩ := Bool.and_eq_true_iff.mp h2
              have ro := ho r (List.mem_of_getElem? h1)
              have hl := fits_le ro pz h4
              have := ro.tl
              exact ⟨r, h1, of_decide_eq_true h3, h4, (isW_mem rs z ho n _ _ w0 hl (by omega)).mpr h0⟩
            · cases hk
          · cases hk
theorem isW_lt {rs : List RD} {z : Str} : ∀ {w : List Nat} {p : Nat} {m : Int}, IsW rs z p m w → ∀ k ∈ w, k < rs.length
  | [], _, _, _, k, hk => by cases hk
  | x :: w, p, m, h, k, hk => by
    obtain ⟨r, e, _, _, h2⟩ := h
    rcases List.mem_cons.mp hk with rfl | hk
    · exact (List.getElem?_eq_some_iff.mp e).1
    · exact isW_lt h2 k hk
def natI (w : List Nat) : List Int := w.map fun (k : Nat) => (k : Int)
theorem natI_nv (w : List Nat) : (natI w).map V.int = w.map nv := by
  unfold natI
  rw [List.map_map]
  rfl
theorem natI_inj {u w : List Nat} (h : natI u = natI w) : u = w := by
  induction u generalizing w with
  | nil => cases w with
    | nil => rfl
    | cons y w => cases h
  | cons x u ih => cases w with
    | nil => cases h
    | cons y w =>
      have h1 := (List.cons.inj h).1
      have h2 := (List.cons.inj h).2
      rw [ih h2, Int.ofNat.inj h1]
/-- ways: by their rows, then by their numbers -/
def ltW (rs : List RD) (u w : List Nat) : Bool := ltR (cellsF rs u) (cellsF rs w) || (decide (cellsF rs u = cellsF rs w) && ltI (natI u) (natI w))
/-- the least way from a place on -/
structure Least (rs : List RD) (z : Str) (p : Nat) (m : Int) (w : List Nat) : Prop where
  way : IsW rs z p m w
  le : ∀ u, IsW rs z p m u → ltW rs u w = false
theorem ltW_conn {rs : List RD} {u w : List Nat} (h1 : ltW rs u w = false) (h2 : ltW rs w u = false) : u = w := by
  simp only [ltW, Bool.or_eq_false_iff, Bool.and_eq_false_iff, decide_eq_false_iff_not] at h1 h2
  have e := ltR_conn h1.1 h2.1
  refine natI_inj (ltI_conn ?_ ?_)
  · rcases h1.2 with q | q
    · exact absurd e q
    · exact q
  · rcases h2.2 with q | q
    · exact absurd e.symm q
    · exact q
theorem Least.one {rs : List RD} {z : Str} {p : Nat} {m : Int} {u w : List Nat} (h1 : Least rs z p m u) (h2 : Least rs z p m w) : u = w := ltW_conn (h2.le u h1.way) (h1.le w h2.way)
theorem cellsF_cons {rs : List RD} {k : Nat} {r : RD} (e : rs[k]? = some r) (w : List Nat) : cellsF rs (k :: w) = r.cells ++ cellsF rs w := by
  unfold cellsF
  rw [List.flatMap_cons, e]
theorem isW_end {rs : List RD} {z : Str} {m : Int} (ho : ∀ r ∈ rs, r.ok) {w : List Nat} (h : IsW rs z z.length m w) : w = [] := by
  cases w with
  | nil => rfl
  | cons k w =>
    obtain ⟨r, e, _, hf, _⟩ := h
    have ro := ho r (List.mem_of_getElem? e)
    have := fits_le ro (Nat.le_refl _) hf
    have := ro.tl
    omega
theorem Least.fin {rs : List RD} {z : Str} {m : Int} (ho : ∀ r ∈ rs, r.ok) : Least rs z z.length m [] := ⟨rfl, fun u hu => by
  rw [isW_end ho hu]
  simp [ltW, ltR_self, ltI_self]⟩
/-- the least of the candidates makes the least way -/
theorem Least.step {rs : List RD} {z : Str} {p : Nat} {m : Int} (pz : p < z.length) {k : Nat} {r : RD} {w : List Nat} (e : rs[k]? = some r) (em : r.mode = m) (hf : fitsB r z p = true) (hw : Least rs z (p + r.text.length) r.to w)
    (all : ∀ (j : Nat) (s : RD) (u : List Nat), rs[j]? = some s → s.mode = m → fitsB s z p = true → Least rs z (p + s.text.length) s.to u → (ltR (s.cells ++ cellsF rs u) (r.cells ++ cellsF rs w) || (decide (s.cells ++ cellsF rs u = r.cells ++ cellsF rs w) && decide (j < k))) = false)
    (some_ : ∀ (j : Nat) (s : RD) (u : List Nat), rs[j]? = some s → s.mode = m → fitsB s z p = true → IsW rs z (p + s.text.length) s.to u → ∃ v, Least rs z (p + s.text.length) s.to v) : Least rs z p m (k :: w) := by
  refine ⟨⟨r, e, em, hf, hw.way⟩, fun u hu => ?_⟩
  cases u with
  | nil =>
    have : p = z.length := hu
    omega
  | cons j u =>
    obtain ⟨s, es, sm, sf, su⟩ := hu
    obtain ⟨v, hv⟩ := some_ j s u es sm sf su
    have a := all j s v es sm sf hv
    have b := hv.le u su
    simp only [Bool.or_eq_false_iff, Bool.and_eq_false_iff, decide_eq_false_iff_not] at a
    have b1 : ltR (cellsF rs u) (cellsF rs v) = false := (Bool.or_eq_false_iff.mp b).1
    have b2 : ltR (s.cells ++ cellsF rs u) (s.cells ++ cellsF rs v) = false := by rw [ltR_pre]; exact b1
    have c1 := ltR_neg b2 a.1
    unfold ltW
    rw [cellsF_cons es, cellsF_cons e, c1, Bool.false_or, Bool.and_eq_false_iff]
    by_cases q : s.cells ++ cellsF rs u = r.cells ++ cellsF rs w
    · right
      -- the same row: its candidate has it, too
      have d : ltR (r.cells ++ cellsF rs w) (s.cells ++ cellsF rs v) = false := by rw [← q]; exact b2
      have g : s.cells ++ cellsF rs v = r.cells ++ cellsF rs w := ltR_conn a.1 d
      have kj : ¬ j < k := by
        rcases a.2 with h | h
        · exact absurd g h
        · exact h
      show (decide ((j : Int) < (k : Int)) || (decide ((j : Int) = (k : Int)) && ltI (natI u) (natI w))) = false
      have n1 : ¬ ((j : Int) < (k : Int)) := by omega
      rw [decide_eq_false n1, Bool.false_or, Bool.and_eq_false_iff]
      by_cases jk : j = k
      · subst jk
        right
        obtain rfl := Option.some.inj (es.symm.trans e)
        have hu2 := hw.le u su
        have qc := List.append_cancel_left q
        unfold ltW at hu2
        rw [qc, ltR_self, Bool.false_or, decide_eq_true rfl, Bool.true_and] at hu2
        exact hu2
      · left
        exact decide_eq_false (by omega)
    · left
      exact decide_eq_false q
end Sx

set_option Elab.async false
set_option linter.all false
set_option maxRecDepth 100000
set_option maxHeartbeats 1000000
namespace Sx
open PySem PySem.Spec PyProof.Rows L2 SxA
theorem pi_listK {X : Cx} {K : PySem.W.Frag} {tg l : Expr} {tl : TE} (h : X.K = K) (hl : PE X l tl) : PI X tg l (iList K tl) := by subst h; exact pi_list hl
def spIsWay (K : PySem.W.Frag) : Sp := fun vs H Q _ => ∃ (v : V) (d : TD) (z : Str) (q : Addr) (w : List Nat), vs = [v, .str z, .ref q] ∧ TableO K H v d ∧ d.ok ∧ z.length ≤ 1000 ∧ H q = some (.lst (w.map nv)) ∧ w.length ≤ 1000 ∧
  ∀ b H', (b = true ↔ IsW d.rules z 0 0 w) → Same H H' → Q (.bl b) H'
def spCellsOfWay (K : PySem.W.Frag) : Sp := fun vs H Q _ => ∃ (v : V) (d : TD) (q : Addr) (w : List Nat), vs = [v, .ref q] ∧ TableO K H v d ∧ d.ok ∧ H q = some (.lst (w.map nv)) ∧ w.length ≤ 1000 ∧ (∀ k ∈ w, k < d.rules.length) ∧
  ∀ p H', Same H H' → H' p = some (.lst ((cellsF d.rules w).map V.int)) → Q (.ref p) H'
def spNumberOfMode : Sp := fun vs H Q _ => ∃ (p : Addr) (row : List Int) (m : Int), vs = [.ref p, .int m] ∧ H p = some (.lst (row.map V.int)) ∧ 0 ≤ m ∧ Q (.int (row.getD m.toNat 0)) H
section
variable {P : Program} {w : World} {K : PySem.W.Frag} {mg : Str → Option Value} {base : Heap}
abbrev nsNumberOfMode : List Str := ["row", "mode"]
theorem scNumberOfMode : FnScope nsNumberOfMode ["row", "mode"] (defScope sNumberOfMode) := ⟨rfl, rfl, rfl, by decide +kernel, rfl, by decide +kernel, by decide +kernel⟩
theorem ok_number_of_mode (t : T K mg) : Ok P w K mg base 1 "number_of_mode" ["row", "mode"] spNumberOfMode := by
  refine mkOk t.d_number_of_mode t.g_number_of_mode scNumberOfMode (fun vs H Q E h => ?_) (fun _ _ _ _ _ _ us hl => match us, hl with | [_, _], _ => rfl) fun cdv A outer s H vs Q E hr h => ?_
  · obtain ⟨p, row, m, rfl, _⟩ := h; rfl
  obtain ⟨p, row, m, rfl, hp, m0, k⟩ := h
  refine ⟨_, pss_one (ps_ret (pe_ifExp (pt_chain op_le op_lt pe_int (pv 1) (pe_callB call_len_seq rfl t.f_len boot_len (pa_cons (pv 0) pa_nil))) (pe_ix ix_list (pv 0) (pv 1) (fun _ _ => rfl)) pe_int)), ?_⟩
  obtain ⟨n, rfl⟩ : ∃ n : Nat, m = (n : Int) := ⟨m.toNat, by omega⟩
  rw [Int.toNat_natCast] at k
  refine ⟨_, rfl, _, _, rfl, rfl, _, rfl, ?_⟩
  rw [if_pos (decide_eq_true (show (0 : Int) ≤ (n : Int) by omega))]
  refine ⟨_, rfl, p, _, rfl, .inl (SqL.of hp), _, _, rfl, rfl, _, rfl, ?_⟩
  refine ite2 (fun h1 => ?_) (fun h1 => ?_)
  · have nl : n < row.length := by
      have := of_decide_eq_true h1
      rw [List.length_map] at this
      omega
    have e : row[n]? = some row[n] := List.getElem?_eq_getElem nl
    rw [List.getD_eq_getElem?_getD, e] at k
    exact ⟨_, rfl, _, rfl, p, _, _, .int row[n], rfl, rfl, SqL.of hp, atI_nat (by rw [List.getElem?_map, e]; rfl), k⟩
  · have nl : ¬ n < row.length := fun z => h1 (decide_eq_true (by rw [List.length_map]; omega))
    rw [List.getD_eq_getElem?_getD, List.getElem?_eq_none (by omega)] at k
    exact k
abbrev nsIsWay : List Str := ["table", "text", "way", "place", "mode", "number", "rule"]
theorem scIsWay : FnScope nsIsWay ["table", "text", "way"] (defScope sIsWay) := ⟨rfl, rfl, rfl, by decide +kernel, rfl, by decide +kernel, by decide +kernel⟩
theorem ok_is_way (t : T K mg) : Ok P w K mg base 3 "is_way" ["table", "text", "way"] (spIsWay K) := by
  refine mkOk t.d_is_way t.g_is_way scIsWay (fun vs H Q E h => ?_) (fun _ _ _ _ _ _ us hl => match us, hl with | [_, _, _], _ => rfl) fun cdv A outer s H vs Q E hr h => ?_
  · obtain ⟨v, d, z, q, w, rfl, _⟩ := h; rfl
  obtain ⟨v, d, z, q, w, rfl, ⟨x, dx, l, rfl, hx, ⟨ws, hl, wl, hw⟩⟩, dok, zl, hq, wlen, k⟩ := h
  have hr2 : Room 2 _ := hr.mono (by decide)
  refine ⟨_, pss_cons (ps_set (i := 3) scIsWay.nd rfl (Or.inl rfl) pe_int)
    (pss_cons (ps_set (i := 4) scIsWay.nd rfl (Or.inl rfl) pe_int)
    (pss_cons (ps_for PassesOwn.never rfl (pi_list (pv 2)) (pg_name (i := 5) scIsWay.nd rfl (Or.inl rfl))
      (pss_cons (ps_if (pt_not (pt_chain op_le op_lt pe_int (pv 5) (pe_callB call_len_seq rfl t.f_len boot_len (pa_cons (pe_fld (pv 0) rfl) pa_nil))))
      (pss_one (ps_ret pe_bl))
      pss_nil)
    (pss_cons (ps_set (i := 6) scIsWay.nd rfl (Or.inl rfl) (pe_ix ix_list (pe_fld (pv 0) rfl) (pv 5) (fun _ _ => rfl)))
    (pss_cons (ps_if (PW.pt (pw_or (pt_cmpR op_ne (pe_fld (pv 6) rfl) (pv 4) (nomark _)) (pw_or1 (pt_not (pt_val (pe_ok (ok_fits t) hr2 rfl (pa_cons (pv 6) (pa_cons (pv 1) (pa_cons (pv 3) pa_nil)))))))))
      (pss_one (ps_ret pe_bl))
      pss_nil)
    (pss_cons (ps_aug (i := 3) scIsWay.nd rfl (Or.inl rfl) (pe_callB call_len_str rfl t.f_len boot_len (pa_cons (pe_fld (pv 6) rfl) pa_nil)) ip_add)
    (pss_one (ps_set (i := 4) scIsWay.nd rfl (Or.inl rfl) (pe_fld (pv 6) rfl))))))))
    (pss_one (ps_ret (pe_cmpR op_eq (pv 3) (pe_callB call_len_str rfl t.f_len boot_len (pa_cons (pv 1) pa_nil)) (nomark _)))))), ?_⟩
  have zs : z.length ≤ sizeLine := Nat.le_trans zl (by decide)
  refine ⟨_, rfl, q, rfl, ⟨_, SqL.of hq⟩, ?_⟩
  refine for_list (K := K) (a := q) (xs := w.map nv) (fun i σ' H' => (∃ (p : Nat) (m : Int) (o5 o6 : Option V), σ' = [some (.ref x), some (.str z), some (.ref q), some (.int (p : Int)), some (.int m), o5, o6] ∧ p ≤ z.length ∧ (IsW d.rules z 0 0 w ↔ IsW d.rules z p m (w.drop i))) ∧ Same H H') ⟨⟨0, 0, none, none, rfl, Nat.zero_le _, by rw [List.drop_zero]⟩, Same.refl _⟩ (fun i σ' H' _ p => SqL.of (p.2 _ _ hq)) ?_ ?_
  · rintro i v σ' H1 hvi ⟨⟨p, m, o5, o6, rfl, pz, hI⟩, s1⟩
    obtain ⟨k0, hk0, rfl⟩ : ∃ k0, w[i]? = some k0 ∧ v = nv k0 := by
      rw [List.getElem?_map] at hvi
      cases e : w[i]? with
      | none => rw [e] at hvi; cases hvi
      | some y => rw [e] at hvi; exact ⟨y, rfl, (Option.some.inj hvi).symm⟩
    have il := (List.getElem?_eq_some_iff.mp hk0).1
    have dr : w.drop i = k0 :: w.drop (i + 1) := by
      rw [List.drop_eq_getElem_cons il]
      congr 1
      exact Option.some.inj ((List.getElem?_eq_getElem il).symm.trans hk0)
    rw [dr] at hI
    have hx1 := s1 _ _ hx
    refine ⟨_, rfl, _, _, rfl, rfl, _, rfl, ?_⟩
    rw [if_pos (decide_eq_true (show (0 : Int) ≤ (k0 : Int) by omega))]
    refine ⟨_, rfl, x, _, dx, _, _, rfl, hx1, t.c_Table, t.n_Table_rules, lk_rules _ _, l, _, rfl, .inl (SqL.of (s1 _ _ hl)), _, _, rfl, rfl, _, rfl, ?_⟩
    have noW : (¬ ∃ r, d.rules[k0]? = some r ∧ r.mode = m ∧ fitsB r z p = true) → ∀ H2, Same H H2 → Q (.bl false) H2 := fun hn H2 s2 => by
      refine k false H2 ⟨(fun h => by cases h), fun h => ?_⟩ s2
      obtain ⟨r, h1, h2, h3, _⟩ := hI.mp h
      exact absurd ⟨r, h1, h2, h3⟩ hn
    by_cases kl : k0 < d.rules.length
    · have h1 : decide ((k0 : Int) < ((ws.length : Nat) : Int)) = true := decide_eq_true (by omega)
      rw [h1]
      refine iteF ?_
      have hri : d.rules[k0]? = some d.rules[k0] := List.getElem?_eq_getElem kl
      obtain ⟨v, hv0⟩ : ∃ v, ws[k0]? = some v := ⟨_, List.getElem?_eq_getElem (by omega)⟩
      obtain ⟨xr, dr1, lr, rfl, hxr, hlr⟩ := (hw k0 v _ hv0 hri).same s1
      have rok := dok.ro _ (List.getElem_mem kl)
      generalize d.rules[k0] = r at hri hxr hlr rok
      have tl := rok.tl
      refine ⟨_, rfl, x, _, dx, _, _, rfl, hx1, t.c_Table, t.n_Table_rules, lk_rules _ _, _, rfl, l, _, _, _, rfl, rfl, SqL.of (s1 _ _ hl), atI_nat hv0, ?_⟩
      refine ⟨_, rfl, xr, _, dr1, _, _, rfl, hxr, t.c_Rule, t.n_Rule_mode, lk_mode _ _, _, rfl, rfl, _, rfl, ?_⟩
      have dI : decide (V.int r.mode = V.int m) = decide (r.mode = m) := by
        rw [decide_eq_decide]
        exact ⟨fun h => V.int.inj h, fun h => by rw [h]⟩
      rw [dI]
      by_cases hm : r.mode = m
      · rw [decide_eq_true hm]
        refine iteF ?_
        refine ⟨_, rfl, _, rfl, _, rfl, .ref xr, r, z, p, rfl, ⟨xr, dr1, lr, rfl, hxr, hlr⟩, rok, zl, pz, fun H2 s2 => ⟨_, rfl, ?_⟩⟩
        cases hf : fitsB r z p with
        | false =>
          refine iteT (noW (fun ⟨r', e1, e2, e3⟩ => ?_) _ (s1.trans s2))
          obtain rfl : r' = r := Option.some.inj (e1.symm.trans hri)
          rw [hf] at e3
          cases e3
        | true =>
          refine iteF ?_
          have pe := fits_le rok pz hf
          have hxr2 := s2 _ _ hxr
          refine ⟨_, rfl, _, rfl, xr, _, dr1, _, _, rfl, hxr2, t.c_Rule, t.n_Rule_text, lk_text _ _, _, rfl, Nat.le_trans (show _ ≤ 1000 by omega) (by decide), _, _, rfl, rfl, ?_⟩
          refine ⟨_, rfl, xr, _, dr1, _, _, rfl, hxr2, t.c_Rule, t.n_Rule_to, lk_to _ _, ?_⟩
          refine ⟨⟨p + r.text.length, r.to, _, _, rfl, pe, hI.trans ⟨fun ⟨r', e1, e2, e3, e4⟩ => ?_, fun e4 => ⟨r, hri, hm, hf, e4⟩⟩⟩, s1.trans s2⟩
          obtain rfl : r' = r := Option.some.inj (e1.symm.trans hri)
          exact e4
      · rw [decide_eq_false hm]
        refine iteT (noW (fun ⟨r', e1, e2, e3⟩ => ?_) _ s1)
        obtain rfl : r' = r := Option.some.inj (e1.symm.trans hri)
        exact hm e2
    · have h1 : decide ((k0 : Int) < ((ws.length : Nat) : Int)) = false := decide_eq_false (by omega)
      rw [h1]
      refine iteT (noW (fun ⟨r', e1, e2, e3⟩ => ?_) _ s1)
      exact kl (List.getElem?_eq_some_iff.mp e1).1
  · rintro σ' H1 ⟨⟨p, m, o5, o6, rfl, pz, hI⟩, s1⟩
    rw [List.length_map, List.drop_length] at hI
    refine ⟨_, rfl, _, rfl, z, rfl, zs, rfl, k _ H1 ?_ s1⟩
    rw [hI, decide_eq_true_iff]
    exact ⟨fun h => by have := V.int.inj h; show p = z.length; omega, fun h => by rw [show p = z.length from h]⟩
abbrev nsCellsOfWay : List Str := ["table", "way", "number", "cell"]
theorem scCellsOfWay : FnScope nsCellsOfWay ["table", "way"] (defScope sCellsOfWay) := ⟨rfl, rfl, rfl, by decide +kernel, rfl, by decide +kernel, by decide +kernel⟩
theorem ok_cells_of_way (t : T K mg) : Ok P w K mg base 1 "cells_of_way" ["table", "way"] (spCellsOfWay K) := by
  refine mkOk t.d_cells_of_way t.g_cells_of_way scCellsOfWay (fun vs H Q E h => ?_) (fun _ _ _ _ _ _ us hl => match us, hl with | [_, _], _ => rfl) fun cdv A outer s H vs Q E hr h => ?_
  · obtain ⟨v, d, q, w, rfl, _⟩ := h; rfl
  obtain ⟨v, d, q, w, rfl, ⟨x, dx, l, rfl, hx, ⟨ws, hl, wl, hw⟩⟩, dok, hq, wlen, wk, k⟩ := h
  refine ⟨_, pss_one (ps_ret (pe_lc2 (own := [("number", 2), ("cell", 3)]) (vs1 := [3]) (g := gName 2) (tt := tYes) (g1 := gName 3) (tt1 := tYes) rfl scCellsOfWay.nd (pi_list (pv 1)) (blkOk_by (own := [("number", 2), ("cell", 3)]) (N := nsCellsOfWay) (sc := defScope sCellsOfWay) (by decide +kernel)) (by decide) (fun _ _ _ _ _ => pg_name (i := 2) scCellsOfWay.nd rfl (Or.inl rfl)) (fun _ _ _ _ _ => pts_nil)
    (fun _ _ _ _ _ => pi_listK (K := K) rfl (pe_fldK (K := K) rfl (pe_ix (ix_listK (K := K) rfl) (pe_fldK (K := K) rfl (pv 0)) (pv 2) (fun _ _ => rfl)))) (fun _ _ _ _ _ => pg_name (i := 3) scCellsOfWay.nd rfl (Or.inl rfl)) (fun _ _ _ _ _ => pts_nil) (fun _ _ _ _ _ => pv 3))), ?_⟩
  refine ⟨_, rfl, q, rfl, ⟨_, SqL.of hq⟩, fun D hD => ?_⟩
  have wlm : (w.map nv).length = w.length := List.length_map ..
  refine ⟨fun i m H' => m = w.length - i ∧ i ≤ w.length ∧ H' D = some (.lst ((cellsF d.rules (w.take i)).map V.int)) ∧ Same H H', ⟨_, rfl, Nat.zero_le _, upd_same, Same.new hD⟩, ?_⟩
  rintro i m H1 ⟨rfl, iw, hD1, s1⟩
  have sq := SqL.of (K := K) (s1 _ _ hq)
  by_cases il : i < w.length
  · refine .inr ⟨(walk_list (K := K) (a := q) (xs := w.map nv)).goes i H1 (by omega) sq, fun H' => H' D = some (.lst ((cellsF d.rules (w.take (i + 1))).map V.int)) ∧ Same H H', fun H' z => ⟨_, by omega, rfl, il, z.1, z.2⟩, fun y H' hy => ?_⟩
    obtain ⟨e0, hy2⟩ := (walk_list (K := K) (a := q) (xs := w.map nv)).yields i H1 y H' (by omega) sq hy
    have e1 := e0.symm
    subst e1
    obtain ⟨k0, hk0, rfl⟩ : ∃ k0, w[i]? = some k0 ∧ y = nv k0 := by
      rw [List.getElem?_map] at hy2
      cases e : w[i]? with
      | none => rw [e] at hy2; cases hy2
      | some y => rw [e] at hy2; exact ⟨y, rfl, (Option.some.inj hy2).symm⟩
    have kl := wk k0 (List.mem_of_getElem? hk0)
    have hri : d.rules[k0]? = some d.rules[k0] := List.getElem?_eq_getElem kl
    obtain ⟨v, hv0⟩ : ∃ v, ws[k0]? = some v := ⟨_, List.getElem?_eq_getElem (by omega)⟩
    obtain ⟨xr, dr1, lr, rfl, hxr0, hlr0⟩ := hw k0 v _ hv0 hri
    have hxr := s1 _ _ hxr0
    have hlr := s1 _ _ hlr0
    have rok := dok.ro _ (List.getElem_mem kl)
    have tk : w.take (i + 1) = w.take i ++ [k0] := by rw [List.take_add_one, hk0]; rfl
    have cs := cellsF_snoc d.rules (w.take i) k0 _ hri
    have cl0 := cellsF_len d.rules dok.ro (w.take i)
    rw [List.length_take] at cl0
    rw [← tk] at cs
    generalize d.rules[k0] = r at hri hxr hlr hxr0 hlr0 rok cs
    have rcl := rok.cl
    refine ⟨rfl, ?_⟩
    refine ⟨_, rfl, x, _, dx, _, _, rfl, s1 _ _ hx, t.c_Table, t.n_Table_rules, lk_rules _ _, _, rfl, l, _, _, _, rfl, rfl, SqL.of (s1 _ _ hl), atI_nat hv0, xr, _, dr1, _, _, rfl, hxr, t.c_Rule, t.n_Rule_cells, lk_cells _ _, lr, rfl, ⟨_, SqL.of hlr⟩, ?_⟩
    have rlm : (r.cells.map V.int).length = r.cells.length := List.length_map ..
    refine ⟨fun j k H' => k = r.cells.length - j ∧ j ≤ r.cells.length ∧ H' D = some (.lst ((cellsF d.rules (w.take i) ++ r.cells.take j).map V.int)) ∧ Same H H', ⟨_, rfl, Nat.zero_le _, by rw [List.take_zero, List.append_nil]; exact hD1, s1⟩, ?_⟩
    rintro j kk H2 ⟨rfl, jr, hD2, s2⟩
    have sq3 := SqL.of (K := K) (s2 _ _ hlr0)
    by_cases jl : j < r.cells.length
    · refine .inr ⟨(walk_list (K := K) (a := lr) (xs := r.cells.map V.int)).goes j H2 (by omega) sq3, fun H' => H' D = some (.lst ((cellsF d.rules (w.take i) ++ r.cells.take (j + 1)).map V.int)) ∧ Same H H', fun H' z => ⟨_, by omega, rfl, jl, z.1, z.2⟩, fun y H' hy => ?_⟩
      obtain ⟨e0, hy2⟩ := (walk_list (K := K) (a := lr) (xs := r.cells.map V.int)).yields j H2 y H' (by omega) sq3 hy
      have e1 := e0.symm
      subst e1
      have hc : r.cells[j]? = some r.cells[j] := List.getElem?_eq_getElem jl
      rw [List.getElem?_map, hc] at hy2
      obtain rfl := Option.some.inj hy2
      have e3 : (cellsF d.rules (w.take i) ++ r.cells.take (j + 1)).map V.int = (cellsF d.rules (w.take i) ++ r.cells.take j).map V.int ++ [V.int r.cells[j]] := by
        rw [List.take_add_one, hc, ← List.append_assoc]
        exact List.map_append
      exact ⟨rfl, _, rfl, _, hD2, by rw [List.length_map, List.length_append, List.length_take]; exact small1 (by omega), by rw [upd_same, e3], Same.put s2 hD⟩
    · have e : j = r.cells.length := by omega
      subst e
      rw [List.take_length, ← cs] at hD2
      exact .inl ⟨by have := (walk_list (K := K) (a := lr) (xs := r.cells.map V.int)).stops H2 sq3; rw [rlm] at this; exact this, hD2, s2⟩
  · have e : i = w.length := by omega
    subst e
    rw [List.take_length] at hD1
    exact .inl ⟨by have := (walk_list (K := K) (a := q) (xs := w.map nv)).stops H1 sq; rw [wlm] at this; exact this, k D H1 s1 hD1⟩
end
end Sx

set_option Elab.async false
set_option linter.all false
set_option maxRecDepth 100000
set_option maxHeartbeats 2000000
namespace Sx
open PySem PySem.Spec PyProof.Rows L2 SxA PySem.W
/-- lists of ints, in a list -/
structure NLs (H : Hp) (p : Addr) (ns : List (List Int)) : Prop where
  ex : ∃ as : List Addr, H p = some (.lst (as.map V.ref)) ∧ as.length = ns.length ∧ ∀ (i : Nat) a n, as[i]? = some a → ns[i]? = some n → H a = some (.lst (n.map V.int))
theorem NLs.same {H H' : Hp} {p : Addr} {ns : List (List Int)} (h : NLs H p ns) (s : Same H H') : NLs H' p ns := by
  obtain ⟨as, h1, h2, h3⟩ := h.ex
  exact ⟨as, s _ _ h1, h2, fun i a n e1 e2 => s _ _ (h3 i a n e1 e2)⟩
theorem NLs.get {H : Hp} {p : Addr} {ns : List (List Int)} (h : NLs H p ns) {i : Nat} {n : List Int} (e : ns[i]? = some n) : ∃ (as : List Addr) (a : Addr), H p = some (.lst (as.map V.ref)) ∧ as.length = ns.length ∧ as[i]? = some a ∧ H a = some (.lst (n.map V.int)) := by
  obtain ⟨as, h1, h2, h3⟩ := h.ex
  have il := (List.getElem?_eq_some_iff.mp e).1
  have e2 : as[i]? = some (as[i]'(by omega)) := List.getElem?_eq_getElem _
  exact ⟨as, _, h1, h2, e2, h3 i _ n e2 e⟩
/-- numbers within bounds -/
structure NB (ns : List (List Int)) (L B : Nat) : Prop where
  ln : ns.length ≤ L
  lr : ∀ n ∈ ns, n.length ≤ L
  bd : ∀ n ∈ ns, ∀ x ∈ n, -(B : Int) ≤ x ∧ x ≤ B
def nAt (ns : List (List Int)) (p : Nat) (m : Int) : Int := (ns.getD p []).getD m.toNat 0
theorem nAt_get {ns : List (List Int)} {p : Nat} {n : List Int} {m : Nat} {y : Int} (h1 : ns[p]? = some n) (h2 : n[m]? = some y) : nAt ns p (m : Int) = y := by
  have e1 : ns.getD p [] = n := by rw [List.getD_eq_getElem?_getD, h1]; rfl
  have e2 : n.getD m 0 = y := by rw [List.getD_eq_getElem?_getD, h2]; rfl
  unfold nAt
  rw [e1, Int.toNat_natCast, e2]
theorem nAt_row {ns : List (List Int)} {p : Nat} {n : List Int} {m : Int} (h1 : ns[p]? = some n) : nAt ns p m = n.getD m.toNat 0 := by
  have e1 : ns.getD p [] = n := by rw [List.getD_eq_getElem?_getD, h1]; rfl
  unfold nAt
  rw [e1]
/-- the number of a place and a mode, from those behind it -/
structure Num1 (rs : List RD) (z : Str) (ns : List (List Int)) (u : Nat) (p : Nat) (m : Int) (x : Int) : Prop where
  x0 : 0 ≤ x
  xu : x ≤ (u : Int)
  le : ∀ r ∈ rs, r.mode = m → fitsB r z p = true → x ≤ (r.cells.length : Int) + nAt ns (p + r.text.length) r.to
  eq : x = (u : Int) ∨ ∃ r ∈ rs, r.mode = m ∧ fitsB r z p = true ∧ x = (r.cells.length : Int) + nAt ns (p + r.text.length) r.to
def spNumberAt (K : PySem.W.Frag) : Sp := fun vs H Q _ => ∃ (v : V) (d : TD) (z : Str) (p : Nat) (m : Int) (q : Addr) (ns : List (List Int)) (u : Nat), vs = [v, .str z, .int (p : Int), .int m, .ref q, .int (u : Int)] ∧ TableO K H v d ∧ d.ok ∧ (∀ r ∈ d.rules, 0 ≤ r.to) ∧ z.length ≤ 1000 ∧ p ≤ z.length ∧ NLs H q ns ∧ ns.length = z.length + 1 ∧ (∀ n ∈ ns, ∀ x ∈ n, 0 ≤ x ∧ x ≤ (u : Int)) ∧
  ∀ (x : Int) H', Num1 d.rules z ns u p m x → Same H H' → Q (.int x) H'
section
variable {P : Program} {w : World} {K : PySem.W.Frag} {mg : Str → Option Value} {base : Heap}
abbrev nsNumberAt : List Str := ["table", "text", "place", "mode", "numbers", "unwritten", "found", "number", "rule"]
theorem scNumberAt : FnScope nsNumberAt ["table", "text", "place", "mode", "numbers", "unwritten"] (defScope sNumberAt) := ⟨rfl, rfl, rfl, by decide +kernel, rfl, by decide +kernel, by decide +kernel⟩
theorem ok_number_at (t : T K mg) : Ok P w K mg base 4 "number_at" ["table", "text", "place", "mode", "numbers", "unwritten"] (spNumberAt K) := by
  refine mkOk t.d_number_at t.g_number_at scNumberAt (fun vs H Q E h => ?_) (fun _ _ _ _ _ _ us hl => match us, hl with | [_, _, _, _, _, _], _ => rfl) fun cdv A outer s H vs Q E hr h => ?_
  · obtain ⟨v, d, z, p, m, q, ns, u, rfl, _⟩ := h; rfl
  obtain ⟨v, d, z, p, m, q, ns, u, rfl, hT, dok, hto, zl, pz, hN, nl, nb, k⟩ := h
  have hr1 : Room 1 _ := hr.mono (by decide)
  have hr3 : Room 3 _ := hr.mono (by decide)
  refine ⟨_, pss_cons (ps_set (i := 6) scNumberAt.nd rfl (Or.inl rfl) (pe_lst (pa_cons (pv 5) pa_nil)))
    (pss_cons (ps_for PassesOwn.never rfl (pi_list (pe_ok (ok_fitting t) hr3 rfl (pa_cons (pv 0) (pa_cons (pv 1) (pa_cons (pv 2) (pa_cons (pv 3) pa_nil)))))) (pg_name (i := 7) scNumberAt.nd rfl (Or.inl rfl))
      (pss_cons (ps_set (i := 8) scNumberAt.nd rfl (Or.inl rfl) (pe_ix ix_list (pe_fld (pv 0) rfl) (pv 7) (fun _ _ => rfl)))
    (pss_one (ps_expr (pe_bm PySem.F.plainAttrs_list PySem.F.slot_list_append PySem.F.type_list_append mt_append (pv 6) (pa_cons (pe_op op_add (pe_callB call_len_seq rfl t.f_len boot_len (pa_cons (pe_fld (pv 8) rfl) pa_nil)) (pe_ok (ok_number_of_mode t) hr1 rfl (pa_cons (pe_ix ix_list (pv 4) (pe_op op_add (pv 2) (pe_callB call_len_str rfl t.f_len boot_len (pa_cons (pe_fld (pv 8) rfl) pa_nil))) (fun _ _ => rfl)) (pa_cons (pe_fld (pv 8) rfl) pa_nil)))) pa_nil))))))
    (pss_one (ps_ret (pe_callB (cr_min rfl) rfl t.f_min (by decide +kernel) (pa_cons (pv 6) pa_nil))))), ?_⟩
  obtain ⟨x, dx, l, rfl, hx, ⟨ws, hl, wl, hw⟩⟩ := id hT
  refine ⟨_, rfl, (by show 1 ≤ sizeLine; decide), fun F hF => ?_⟩
  have s0 : Same H (upd H F (.lst [V.int (u : Int)])) := Same.new hF
  refine ⟨_, rfl, _, rfl, _, rfl, _, rfl, _, d, z, p, m, rfl, hT.same s0, dok, zl, pz, fun G H1 hG s1 hG1 => ?_⟩
  have s01 := s0.trans s1
  have hF1 := s1 _ _ upd_same
  refine ⟨G, rfl, ⟨_, SqL.of hG1⟩, ?_⟩
  have nFG : F ≠ G := ne_of_none upd_same hG
  refine for_list (K := K) (a := G) (xs := (fitL d.rules z p m).map fun n : Nat => V.int (n : Int)) (fun i σ' H' => (∃ (ys : List Int) (o7 o8 : Option V), σ' = [some (.ref x), some (.str z), some (.int (p : Int)), some (.int m), some (.ref q), some (.int (u : Int)), some (.ref F), o7, o8] ∧ H' F = some (.lst (ys.map V.int)) ∧ ys.length = i + 1 ∧ (∀ y ∈ ys, 0 ≤ y) ∧ ys.head? = some (u : Int) ∧ (∀ y ∈ ys, y = (u : Int) ∨ ∃ r ∈ d.rules, r.mode = m ∧ fitsB r z p = true ∧ y = (r.cells.length : Int) + nAt ns (p + r.text.length) r.to) ∧ ∀ k0 ∈ (fitL d.rules z p m).take i, ∀ r, d.rules[k0]? = some r → (r.cells.length : Int) + nAt ns (p + r.text.length) r.to ∈ ys) ∧ H' G = some (.lst ((fitL d.rules z p m).map fun n : Nat => V.int (n : Int))) ∧ Same H H')
    ⟨⟨[(u : Int)], none, none, rfl, hF1, rfl, fun y hy => by rw [List.mem_singleton.mp hy]; omega, rfl, fun y hy => .inl (List.mem_singleton.mp hy), fun k0 h => by simp at h⟩, hG1, s01⟩ (fun i σ' H' _ z => SqL.of z.2.1) ?_ ?_
  · rintro i v σ' H2 hvi ⟨⟨ys, o7, o8, rfl, hF2, yl, y0, yh, yv, yk⟩, hG2, s2⟩
    obtain ⟨k0, hk0, rfl⟩ : ∃ k0, (fitL d.rules z p m)[i]? = some k0 ∧ v = V.int (k0 : Int) := by
      rw [List.getElem?_map] at hvi
      cases e : (fitL d.rules z p m)[i]? with
      | none => rw [e] at hvi; cases hvi
      | some y => rw [e] at hvi; exact ⟨y, rfl, (Option.some.inj hvi).symm⟩
    have hmem := List.mem_of_getElem? hk0
    unfold fitL fitIx at hmem
    obtain ⟨hm1, hm2⟩ := List.mem_filter.mp hmem
    have kl := List.mem_range.mp hm1
    have hri : d.rules[k0]? = some d.rules[k0] := List.getElem?_eq_getElem kl
    rw [hri] at hm2
    have hfit : fitsB d.rules[k0] z p = true := (Bool.and_eq_true_iff.mp hm2).2
    have hmode : d.rules[k0].mode = m := of_decide_eq_true (Bool.and_eq_true_iff.mp hm2).1
    have hrm : d.rules[k0] ∈ d.rules := List.getElem_mem kl
    have rok := dok.ro _ (List.getElem_mem kl)
    have rto := hto _ (List.getElem_mem kl)
    have pe := fits_le rok pz hfit
    obtain ⟨v, hv0⟩ : ∃ v, ws[k0]? = some v := ⟨_, List.getElem?_eq_getElem (by omega)⟩
    obtain ⟨xr, dr1, lr, rfl, hxr, hlr⟩ := (hw k0 v _ hv0 hri).same s2
    generalize d.rules[k0] = r at hri hxr hlr rok rto pe hfit hmode hrm
    have tl := rok.tl
    have hx2 := s2 _ _ hx
    obtain ⟨n, hn⟩ : ∃ n, ns[p + r.text.length]? = some n := ⟨_, List.getElem?_eq_getElem (by omega)⟩
    obtain ⟨as, a, hq2, asl, ha0, ha⟩ := (hN.same s2).get hn
    refine ⟨_, rfl, x, _, dx, _, _, rfl, hx2, t.c_Table, t.n_Table_rules, lk_rules _ _, _, rfl, l, _, _, _, rfl, rfl, SqL.of (s2 _ _ hl), atI_nat hv0, ?_⟩
    refine ⟨_, rfl, .inl ⟨rfl, _, SqL.of hF2⟩, _, rfl, xr, _, dr1, _, _, rfl, hxr, t.c_Rule, t.n_Rule_cells, lk_cells _ _, lr, _, rfl, .inl (SqL.of hlr), ?_⟩
    have nmem := List.mem_of_getElem? hn
    have ng : 0 ≤ n.getD r.to.toNat 0 := by
      rw [List.getD_eq_getElem?_getD]
      cases e : n[r.to.toNat]? with
      | none => exact Int.le_refl _
      | some y => exact (nb n nmem y (List.mem_of_getElem? e)).1
    refine ⟨_, rfl, _, rfl, _, rfl, xr, _, dr1, _, _, rfl, hxr, t.c_Rule, t.n_Rule_text, lk_text _ _, _, rfl, Nat.le_trans (show _ ≤ 1000 by omega) (by decide), _, _, rfl, rfl, q, _, _, .ref a, rfl, rfl, SqL.of hq2, (by rw [← Int.natCast_add]; exact atI_nat (by rw [List.getElem?_map, ha0]; rfl)), _, rfl, xr, _, dr1, _, _, rfl, hxr, t.c_Rule, t.n_Rule_to, lk_to _ _, a, n, r.to, rfl, ha, rto, ?_⟩
    have fl : (fitL d.rules z p m).length ≤ d.rules.length := fitIx_len d.rules z p m d.rules.length
    have il := (List.getElem?_eq_some_iff.mp hk0).1
    have nr := dok.nr
    refine ⟨_, _, rfl, rfl, F, _, _, rfl, rfl, hF2, by rw [List.length_map, yl]; exact small1 (by omega), ?_⟩
    refine ⟨⟨ys ++ [((r.cells.map V.int).length : Int) + n.getD r.to.toNat 0], _, _, rfl, by rw [upd_same, List.map_append]; rfl, by rw [List.length_append, yl]; rfl, fun y hy => ?_, by cases ys with
      | nil => cases yh
      | cons y ys => exact yh, fun y hy => ?_, fun k1 hk1 r1 er1 => ?_⟩, by rw [upd_ne nFG.symm]; exact hG2, Same.put s2 hF⟩
    · rcases List.mem_append.mp hy with h | h
      · exact y0 y h
      · rw [List.mem_singleton.mp h]
        omega
    · rcases List.mem_append.mp hy with h | h
      · exact yv y h
      · refine .inr ⟨r, hrm, hmode, hfit, ?_⟩
        rw [List.mem_singleton.mp h, nAt_row hn, List.length_map]
    · rw [List.take_add_one, hk0] at hk1
      rcases List.mem_append.mp hk1 with h | h
      · exact List.mem_append_left _ (yk k1 h r1 er1)
      · rw [show k1 = k0 from List.mem_singleton.mp h] at er1
        obtain rfl := Option.some.inj (hri.symm.trans er1)
        refine List.mem_append_right _ (List.mem_singleton.mpr ?_)
        rw [nAt_row hn, List.length_map]
  · rintro σ' H2 ⟨⟨ys, o7, o8, rfl, hF2, yl, y0, yh, yv, yk⟩, hG2, s2⟩
    rw [List.length_map, List.take_length] at yk
    refine ⟨_, rfl, F, ys, rfl, SqL.of hF2, by omega, fun x0 hm1 hm2 => k x0 H2 ⟨y0 x0 hm1, ?_, fun r hr em ef => ?_, yv x0 hm1⟩ s2⟩
    rotate_left
    · obtain ⟨k0, hk0⟩ := List.mem_iff_getElem?.mp hr
      refine hm2 _ (yk k0 ?_ r hk0)
      unfold fitL fitIx
      rw [List.mem_filter, List.mem_range, hk0]
      exact ⟨(List.getElem?_eq_some_iff.mp hk0).1, by simp [em, ef]⟩
    refine hm2 _ ?_
    cases ys with
    | nil => cases yh
    | cons y ys => rw [← Option.some.inj yh]; exact List.mem_cons_self
end
end Sx

set_option Elab.async false
set_option linter.all false
set_option maxRecDepth 100000
set_option maxHeartbeats 2000000
namespace Sx
open PySem PySem.Spec PyProof.Rows L2 SxA PySem.W
/-! ### max(x, default=0), x a list of ints: one of them, or 0 -/
@[irreducible] def rMaxDefI (K : PySem.W.Frag) : List V → List V → Hp → VK → Prop := fun vs zs H Q => ∃ (a : Addr) (ns : List Int), vs = [V.ref a] ∧ zs = [V.int 0] ∧ SqL K H a (ns.map V.int) ∧ ∀ m : Int, (m = 0 ∨ m ∈ ns) → (∀ y ∈ ns, y ≤ m) → Q (.int m) H
theorem foldl_ge : ∀ (ns : List Int) (a : Int), a ≤ ns.foldl max a ∧ ∀ y ∈ ns, y ≤ ns.foldl max a
  | [], a => ⟨Int.le_refl _, fun y h => by cases h⟩
  | x :: r, a => by
    obtain ⟨h1, h2⟩ := foldl_ge r (max a x)
    show a ≤ r.foldl max (max a x) ∧ _
    refine ⟨by omega, fun y hy => ?_⟩
    show y ≤ r.foldl max (max a x)
    rcases List.mem_cons.mp hy with rfl | h
    · omega
    · exact h2 y h
theorem readsInts {K : PySem.W.Frag} {H : Hp} {a : Addr} {ns : List Int} (h : SqL K H a (ns.map V.int)) : DpAll K H (ns.map V.int) (ns.map PyData.int) := dpAll_ints K H ns
theorem alike_mapI (ns : List Int) : AlikeAll (ns.map PyData.int) := by
  refine ⟨fun x hx y hy => ?_, fun x hx => ?_⟩
  · obtain ⟨n1, _, rfl⟩ := List.mem_map.mp hx
    obtain ⟨n2, _, rfl⟩ := List.mem_map.mp hy
    rfl
  · obtain ⟨n1, _, rfl⟩ := List.mem_map.mp hx
    exact fun z => by cases z
theorem call_lenK {X : Cx} {K : PySem.W.Frag} (h : X.K = K) : CallR X (.builtin "len") (fun xs H Q => ∃ p ys, xs = [.ref p] ∧ (SqL K H p ys ∨ SqT K H p ys) ∧ Q (.int ys.length) H) := by subst h; exact call_len_seq
theorem cr_maxDefI {X : Cx} (hc : X.calm = true) (hu : X.A.units + 64 < cLine) : CallRK X (.builtin "max") ["default"] (rMaxDefI X.K) := by
  intro pins s σ H vs zs us ws Q I rr rz h
  unfold rMaxDefI at h
  obtain ⟨a, ns, rfl, rfl, hs, q⟩ := h
  obtain ⟨its, rv, hl, _⟩ := I.list hs
  obtain ⟨as, hr⟩ := Dp.readsAll I (ns.map PyData.int) _ _ (readsInts hs) rv
  rw [Vals.ref1 rr]
  cases rz with
  | cons rd rz =>
    cases rz
    obtain ⟨t0, rfl⟩ := rd
    have hr' : ReadsAll s.heap its.toArray.toList (ns.map PyData.int) as := by simpa using hr
    have dep : PyData.depthAll (ns.map PyData.int) ≤ 1 := dep_ints ns
    show wpAny _ _ (call (.builtin "max") [.ref a] [(Str.ofString "default", _)]) _ _ _
    refine max_list_default (I.ok.hd hc) hl.isList hr' (alike_mapI ns) (by omega) (fun e h' tk k => ?_) fun y ys i v h' tk bs e hv hR k => ?_
    · exact ⟨.int 0, H, I.kept k, ⟨t0, rfl⟩, q 0 (.inl rfl) (fun y hy => by rw [List.map_eq_nil_iff.mp e] at hy; cases hy)⟩
    · rw [List.getElem?_toArray] at hv
      have il : i < ns.length := by
        have := (List.getElem?_eq_some_iff.mp hv).1
        have l2 := Vals.length rv
        rw [List.length_map] at l2
        omega
      obtain ⟨u, h3, h4⟩ := Vals.get rv (i := i) (x := .int ns[i]) (by rw [List.getElem?_map, List.getElem?_eq_getElem il]; rfl)
      obtain rfl : u = v := Option.some.inj (h3.symm.trans hv)
      refine ⟨_, H, I.kept k, h4, q _ (.inr (List.getElem_mem il)) ?_⟩
      have h5 : RelV (.int ns[i]) u := h4
      generalize ns[i] = x at h5
      obtain ⟨tk, rfl⟩ := h5
      cases ns with
      | nil => cases e
      | cons n0 r =>
        rw [List.map_cons] at e
        obtain ⟨e1, e2⟩ := List.cons.inj e
        rw [← e1, ← e2, maxD_ints] at hR
        obtain ⟨g1, g2⟩ := foldl_ge r n0
        have gx : x = r.foldl max n0 := by cases hR; rfl
        intro y hy
        rw [gx]
        rcases List.mem_cons.mp hy with rfl | h
        · exact g1
        · exact g2 y h
theorem ixN_natS {n k : Nat} (h : k < n) : ixN n (k : Int) = some k := by
  unfold ixN
  rw [if_pos (by omega), if_pos (by omega), Int.toNat_natCast]
theorem NLs.push {H : Hp} {p a : Addr} {as : List Addr} {ns : List (List Int)} {n : List Int} (h1 : H p = some (.lst (as.map V.ref))) (h2 : as.length = ns.length) (h3 : ∀ (i : Nat) a n, as[i]? = some a → ns[i]? = some n → H a = some (.lst (n.map V.int))) (ha : H a = some (.lst (n.map V.int))) (na : a ≠ p) :
    ∀ (i : Nat) b m, (as ++ [a])[i]? = some b → (ns ++ [n])[i]? = some m → (upd H p (.lst ((as ++ [a]).map V.ref))) b = some (.lst (m.map V.int)) := fun i b m e1 e2 => by
  by_cases il : i < as.length
  · rw [List.getElem?_append_left il] at e1
    rw [List.getElem?_append_left (by omega)] at e2
    have hb := h3 i b m e1 e2
    have nb : b ≠ p := fun z => by
      rw [z, h1] at hb
      have e := HO.lst.inj (Option.some.inj hb)
      cases as with
      | nil => exact Nat.not_lt_zero _ il
      | cons a0 as0 =>
        rw [List.map_cons] at e
        cases m with
        | nil => cases e
        | cons m0 ms => rw [List.map_cons] at e; cases (List.cons.inj e).1
    rw [upd_ne nb]
    exact hb
  · rw [List.getElem?_append_right (by omega)] at e1
    rw [List.getElem?_append_right (by omega), ← h2] at e2
    have e0 : i - as.length = 0 := by
      have := (List.getElem?_eq_some_iff.mp e1).1
      rw [List.length_singleton] at this
      omega
    rw [e0] at e1 e2
    obtain rfl := Option.some.inj e1
    obtain rfl := Option.some.inj e2
    rw [upd_ne na]
    exact ha
theorem NLs.set {H : Hp} {p r : Addr} {as : List Addr} {ns : List (List Int)} {n : List Int} (h1 : H p = some (.lst (as.map V.ref))) (h2 : as.length = ns.length) (h3 : ∀ (i : Nat) a n, as[i]? = some a → ns[i]? = some n → H a = some (.lst (n.map V.int))) (hr : H r = some (.lst (n.map V.int))) (nr : r ≠ p) (c : Nat) :
    NLs (upd H p (.lst ((as.map V.ref).set c (.ref r)))) p (ns.set c n) := by
  refine ⟨as.set c r, by rw [upd_same, List.map_set], by rw [List.length_set, List.length_set, h2], fun i b m e1 e2 => ?_⟩
  by_cases ic : c = i
  · subst ic
    have l1 := (List.getElem?_eq_some_iff.mp e1).1
    have l2 := (List.getElem?_eq_some_iff.mp e2).1
    rw [List.length_set] at l1 l2
    rw [List.getElem?_set_self l1] at e1
    rw [List.getElem?_set_self l2] at e2
    obtain rfl := Option.some.inj e1
    obtain rfl := Option.some.inj e2
    rw [upd_ne nr]
    exact hr
  · rw [List.getElem?_set_ne ic] at e1 e2
    have hb := h3 i b m e1 e2
    have nb : b ≠ p := fun z => by
      rw [z, h1] at hb
      have e := HO.lst.inj (Option.some.inj hb)
      cases as with
      | nil => simp at e1
      | cons a0 as0 =>
        rw [List.map_cons] at e
        cases m with
        | nil => cases e
        | cons m0 ms => rw [List.map_cons] at e; cases (List.cons.inj e).1
    rw [upd_ne nb]
    exact hb
/-- numbers as they are made -/
structure MN (d : TD) (z : Str) (u : Nat) (ns : List (List Int)) : Prop where
  ln : ns.length = z.length + 1
  lm : ∀ n ∈ ns, (n.length : Int) = d.modes
  bd : ∀ n ∈ ns, ∀ x ∈ n, 0 ≤ x ∧ x ≤ (u : Int)
theorem nAt_zero {ns : List (List Int)} (h : ∀ n ∈ ns, ∀ y ∈ n, y = 0) (p : Nat) (m : Int) : nAt ns p m = 0 := by
  unfold nAt
  rw [List.getD_eq_getElem?_getD, List.getD_eq_getElem?_getD]
  cases e : ns[p]? with
  | none => rfl
  | some n =>
    show (n[m.toNat]?).getD 0 = 0
    cases e2 : n[m.toNat]? with
    | none => rfl
    | some y => exact h n (List.mem_of_getElem? e) y (List.mem_of_getElem? e2)
theorem nAt_set {ns : List (List Int)} {c q : Nat} (h : q ≠ c) (ys : List Int) (m : Int) : nAt (ns.set c ys) q m = nAt ns q m := by
  unfold nAt
  simp only [List.getD_eq_getElem?_getD]
  rw [List.getElem?_set_ne (Ne.symm h)]
theorem Num1.congr {rs : List RD} {z : Str} {ns ns' : List (List Int)} {u p : Nat} {m x : Int} (h : Num1 rs z ns u p m x) (ho : ∀ r ∈ rs, r.ok) (e : ∀ q j, p < q → nAt ns' q j = nAt ns q j) : Num1 rs z ns' u p m x := by
  refine ⟨h.x0, h.xu, fun r hr em ef => ?_, ?_⟩
  · have := (ho r hr).tl
    rw [e _ _ (by omega)]
    exact h.le r hr em ef
  · rcases h.eq with h | ⟨r, hr, em, ef, h⟩
    · exact .inl h
    · have := (ho r hr).tl
      exact .inr ⟨r, hr, em, ef, by rw [e _ _ (by omega)]; exact h⟩
/-- numbers as they are made -/
structure Made (d : TD) (z : Str) (u : Nat) (ns : List (List Int)) : Prop where
  mn : MN d z u ns
  last : ∀ m, nAt ns z.length m = 0
  num : ∀ p, p < z.length → ∀ m, 0 ≤ m → m < d.modes → Num1 d.rules z ns u p m (nAt ns p m)
  ub : ∃ M : Nat, u = M * z.length + 1 ∧ ∀ r ∈ d.rules, r.cells.length ≤ M
def spMakeN (K : PySem.W.Frag) : Sp := fun vs H Q _ => ∃ (v : V) (d : TD) (z : Str), vs = [v, .str z] ∧ TableO K H v d ∧ d.ok ∧ (∀ r ∈ d.rules, 0 ≤ r.to) ∧ 0 ≤ d.modes ∧ d.modes ≤ 10 ∧ z.length ≤ 10 ∧
  ∀ q (ns : List (List Int)) u H', NLs H' q ns → Made d z u ns → Same H H' → Q (.ref q) H'
section
variable {P : Program} {w : World} {K : PySem.W.Frag} {mg : Str → Option Value} {base : Heap}
abbrev nsMakeNumbers : List Str := ["table", "text", "unwritten", "rule", "numbers", "_", "place", "mode"]
theorem scMakeNumbers : FnScope nsMakeNumbers ["table", "text"] (defScope sMakeNumbers) := ⟨rfl, rfl, rfl, by decide +kernel, rfl, by decide +kernel, by decide +kernel⟩
theorem ok_make_numbers (t : T K mg) : Ok P w K mg base 5 "make_numbers" ["table", "text"] (spMakeN K) := by
  refine mkOk t.d_make_numbers t.g_make_numbers scMakeNumbers (fun vs H Q E h => ?_) (fun _ _ _ _ _ _ us hl => match us, hl with | [_, _], _ => rfl) fun cdv A outer s H vs Q E hr h => ?_
  · obtain ⟨v, d, z, rfl, _⟩ := h; rfl
  obtain ⟨v, d, z, rfl, hT, dok, hto, m0, m10, zl, k⟩ := h
  have hr4 : Room 4 _ := hr.mono (by decide)
  refine ⟨_, C8.pss_cut (ps_set (i := 2) scMakeNumbers.nd rfl (Or.inr rfl) (pe_op op_add (pe_op op_mul (pe_callBK (cr_maxDefI rfl (hu64 hr)) rfl t.f_max (by decide +kernel) (pa_cons (pe_lc (own := [("rule", 3)]) (g := gName 3) (tt := tYes) rfl scMakeNumbers.nd (pi_list (pe_fld (pv 0) rfl)) (blkOk_by (own := [("rule", 3)]) (N := nsMakeNumbers) (sc := defScope sMakeNumbers) (by decide +kernel)) (fun _ _ _ _ _ => pg_name (i := 3) scMakeNumbers.nd rfl (Or.inl rfl)) (fun _ _ _ _ _ => pts_nil) (fun _ _ _ _ _ => (pe_callB (call_lenK (K := K) rfl) rfl t.f_len boot_len (pa_cons (pe_fldK (K := K) rfl (pv 3)) pa_nil)))) pa_nil) (pk_cons pe_int pk_nil)) (pe_callB call_len_str rfl t.f_len boot_len (pa_cons (pv 1) pa_nil))) pe_int))
    (C8.pss_cut (ps_set (i := 4) scMakeNumbers.nd rfl (Or.inr rfl) (pe_lc (own := [("_", 5)]) (g := gName 5) (tt := tYes) rfl scMakeNumbers.nd (pi_range1 rfl t.f_range (pa_cons (pe_op op_add (pe_callB call_len_str rfl t.f_len boot_len (pa_cons (pv 1) pa_nil)) pe_int) pa_nil)) (blkOk_by (own := [("_", 5)]) (N := nsMakeNumbers) (sc := defScope sMakeNumbers) (by decide +kernel)) (fun _ _ _ _ _ => pg_name (i := 5) scMakeNumbers.nd rfl (Or.inl rfl)) (fun _ _ _ _ _ => pts_nil) (fun _ _ _ _ _ => (pe_op op_rep (pe_lst (pa_cons pe_int pa_nil)) (pe_fldK (K := K) rfl (pv 0))))))
    (pss_cons (ps_for PassesOwn.never rfl (pi_range3 rfl t.f_range (pa_cons (pe_op op_sub (pe_callB call_len_str rfl t.f_len boot_len (pa_cons (pv 1) pa_nil)) pe_int) (pa_cons (pe_un un_neg pe_int) (pa_cons (pe_un un_neg pe_int) pa_nil)))) (pg_name (i := 6) scMakeNumbers.nd rfl (Or.inr rfl))
      (pss_one (ps_asg (pe_lc (own := [("mode", 7)]) (g := gName 7) (tt := tYes) rfl scMakeNumbers.nd (pi_range1 rfl t.f_range (pa_cons (pe_fld (pv 0) rfl) pa_nil)) (blkOk_by (own := [("mode", 7)]) (N := nsMakeNumbers) (sc := defScope sMakeNumbers) (by decide +kernel)) (fun _ _ _ _ _ => pg_name (i := 7) scMakeNumbers.nd rfl (Or.inl rfl)) (fun _ _ _ _ _ => pts_nil) (fun _ _ _ _ _ => (pe_ok (ok_number_at t) hr4 rfl (pa_cons (pv 0) (pa_cons (pv 1) (pa_cons (pv 6) (pa_cons (pv 7) (pa_cons (pv 4) (pa_cons (pv 2) pa_nil))))))))) (pg_sub (pv 4) (pv 6) set_list))))
    (pss_one (ps_ret (pv 4))))), ?_⟩
  obtain ⟨x, dx, l, rfl, hx, ⟨ws, hl, wl, hw⟩⟩ := id hT
  have zs : z.length ≤ sizeLine := Nat.le_trans (show _ ≤ 1000 by omega) (by decide)
  have nr := dok.nr
  refine ⟨fun σ' H' => (∃ u : Nat, σ' = [some (.ref x), some (.str z), some (.int (u : Int)), none, none, none, none, none] ∧ u ≤ 2000 ∧ ∃ M : Nat, u = M * z.length + 1 ∧ ∀ r ∈ d.rules, r.cells.length ≤ M) ∧ Same H H', ?_, ?_⟩
  · refine ⟨_, rfl, x, _, dx, _, _, rfl, hx, t.c_Table, t.n_Table_rules, lk_rules _ _, l, rfl, ⟨_, SqL.of hl⟩, fun D hD => ?_⟩
    refine lc_list (K := K) (a := l) (xs := ws) (g := gName 3) (tt := tYes) (fun j H' => (∃ ys : List Int, H' D = some (.lst (ys.map V.int)) ∧ ys.length = j ∧ (∀ y ∈ ys, 0 ≤ y ∧ y ≤ 100) ∧ ∀ r ∈ d.rules.take j, (r.cells.length : Int) ∈ ys) ∧ Same H H') ⟨⟨[], upd_same, rfl, (fun y h => by cases h), fun r h => by simp at h⟩, Same.new hD⟩ (fun j H' _ q => SqL.of (q.2 _ _ hl)) ?_ ?_
    · rintro j v H1 hv ⟨⟨ys, hY, yl, yb, yr⟩, s1⟩
      have jl : j < d.rules.length := by rw [← wl]; exact (List.getElem?_eq_some_iff.mp hv).1
      obtain ⟨xr, dr1, lr, rfl, hxr, hlr⟩ := (hw j v _ hv (List.getElem?_eq_getElem jl)).same s1
      have rcl := (dok.ro _ (List.getElem_mem jl)).cl
      refine ⟨rfl, ?_⟩
      refine ⟨_, rfl, xr, _, dr1, _, _, rfl, hxr, t.c_Rule, t.n_Rule_cells, lk_cells _ _, lr, _, rfl, .inl (SqL.of hlr), _, hY, by rw [List.length_map]; exact small1 (by omega), ⟨ys ++ [((d.rules[j].cells.map V.int).length : Int)], by rw [upd_same, List.map_append]; rfl, by rw [List.length_append, yl]; rfl, fun y hy => ?_, fun r hr => ?_⟩, Same.put s1 hD⟩
      · rcases List.mem_append.mp hy with h | h
        · exact yb y h
        · rw [List.mem_singleton.mp h, List.length_map]
          omega
      · rw [List.take_add_one, List.getElem?_eq_getElem jl] at hr
        rcases List.mem_append.mp hr with h | h
        · exact List.mem_append_left _ (yr r h)
        · rw [List.mem_singleton.mp h]
          exact List.mem_append_right _ (List.mem_singleton.mpr (by rw [List.length_map]))
    · rintro H1 ⟨⟨ys, hY, yl, yb, yr⟩, s1⟩
      rw [wl, List.take_length] at yr
      unfold rMaxDefI
      refine ⟨D, ys, rfl, rfl, SqL.of hY, fun m hm hmax => ?_⟩
      have mb : 0 ≤ m ∧ m ≤ 100 := by
        rcases hm with h | h
        · omega
        · exact yb m h
      obtain ⟨mm, rfl⟩ : ∃ mm : Nat, m = (mm : Int) := ⟨m.toNat, by omega⟩
      refine ⟨_, rfl, z, rfl, zs, _, _, rfl, rfl, .inl ⟨by omega, by omega⟩, _, _, rfl, rfl, ⟨mm * z.length + 1, by rfl, ?_, mm, rfl, fun r hr => by have := hmax _ (yr r hr); omega⟩, s1⟩
      have : mm * z.length ≤ 100 * 10 := Nat.mul_le_mul (by omega) zl
      omega
  rintro σ' H1 ⟨⟨u, rfl, u2, hub⟩, s1⟩
  have hx1 := s1 _ _ hx
  refine ⟨fun σ' H' => (∃ (q : Addr) (ns : List (List Int)), σ' = [some (.ref x), some (.str z), some (.int (u : Int)), none, some (.ref q), none, none, none] ∧ NLs H' q ns ∧ MN d z u ns ∧ H q = none ∧ ∀ n ∈ ns, ∀ y ∈ n, y = 0) ∧ Same H H', ?_, ?_⟩
  · refine ⟨_, rfl, z, rfl, zs, _, _, rfl, rfl, _, rfl, by omega, by omega, fun C hC => ?_⟩
    have eN : ((z.length : Int) + 1).toNat = z.length + 1 := by omega
    rw [eN]
    have hC0 : H C = none := Sx.Same.none s1 _ hC
    refine lc_range (lo := 0) (n := z.length + 1) (fun j H' => (∃ (as : List Addr) (ns : List (List Int)), H' C = some (.lst (as.map V.ref)) ∧ as.length = ns.length ∧ ns.length = j ∧ (∀ (i : Nat) a n, as[i]? = some a → ns[i]? = some n → H' a = some (.lst (n.map V.int))) ∧ (∀ n ∈ ns, (n.length : Int) = d.modes) ∧ ∀ n ∈ ns, ∀ y ∈ n, y = 0) ∧ Same H H')
      ⟨⟨[], [], upd_same, rfl, rfl, (fun i a n h => by simp at h), (fun n h => by cases h), (fun n h => by cases h)⟩, Same.put s1 hC0⟩ ?_ ?_
    · rintro j H2 hj ⟨⟨as, ns, hY, al, nl, hE, e1, e2⟩, s2⟩
      refine ⟨rfl, ?_⟩
      refine ⟨(by show 1 ≤ sizeLine; decide), fun e he => ?_⟩
      have hxe := Same.new (o := .lst [V.int 0]) he _ _ (s2 _ _ hx)
      refine ⟨_, rfl, x, _, dx, _, _, rfl, hxe, t.c_Table, t.n_Table_modes, lk_modes _ _, e, d.modes, _, rfl, rfl, upd_same, by omega, by omega, ?_, fun r hr => ?_⟩
      · exact Nat.le_trans (show 1 * d.modes.toNat ≤ 1000 by omega) (by decide)
      have s3 : Same H2 (upd (upd H2 e (.lst [V.int 0])) r (.lst (List.replicate d.modes.toNat [V.int 0]).flatten)) := (Same.new he).trans (Same.new hr)
      have ef : (List.replicate d.modes.toNat [V.int 0]).flatten = (List.replicate d.modes.toNat (0 : Int)).map V.int := by
        induction d.modes.toNat with
        | zero => rfl
        | succ k ih => rw [List.replicate_succ, List.flatten_cons, ih, List.replicate_succ, List.map_cons]; rfl
      have nCr : r ≠ C := fun z => by rw [z, Same.new he _ _ hY] at hr; cases hr
      refine ⟨_, s3 _ _ hY, by rw [List.length_map]; exact small1 (by omega), ⟨as ++ [r], ns ++ [List.replicate d.modes.toNat 0], by rw [upd_same, List.map_append]; rfl, by rw [List.length_append, List.length_append, al]; rfl, by rw [List.length_append, nl]; rfl, ?_, fun n hn => ?_, fun n hn => ?_⟩, Same.put (s2.trans s3) hC0⟩
      · have := NLs.push (n := List.replicate d.modes.toNat 0) (s3 _ _ hY) al (fun i a n q1 q2 => s3 _ _ (hE i a n q1 q2)) (by rw [upd_same, ef]) nCr
        rw [List.map_append] at this
        exact this
      · rcases List.mem_append.mp hn with h | h
        · exact e1 n h
        · rw [List.mem_singleton.mp h, List.length_replicate]; omega
      · rcases List.mem_append.mp hn with h | h
        · exact e2 n h
        · rw [List.mem_singleton.mp h]
          intro y hy
          exact (List.mem_replicate.mp hy).2
    · rintro H2 ⟨⟨as, ns, hY, al, nl, hE, e1, e2⟩, s2⟩
      exact ⟨⟨C, ns, rfl, ⟨as, hY, al, hE⟩, ⟨nl, e1, fun n hn y hy => by rw [e2 n hn y hy]; omega⟩, hC0, e2⟩, s2⟩
  rintro σ' H2 ⟨⟨q, ns, rfl, hN, hM, hq0, hz0⟩, s2⟩
  refine ⟨_, rfl, z, rfl, zs, _, _, rfl, rfl, _, rfl, _, rfl, (z.length : Int) - 1, -1, -1, _, rfl, RgC.neg (by omega) (by omega) (by decide) (by decide), ?_⟩
  have eN : ((z.length : Int) - 1 - -1).toNat = z.length := by omega
  rw [eN]
  refine for_rangeC (lo := (z.length : Int) - 1) (c := -1) (n := z.length) (fun i σ' H' => (∃ (ns : List (List Int)) (o6 : Option V), σ' = [some (.ref x), some (.str z), some (.int (u : Int)), none, some (.ref q), none, o6, none] ∧ NLs H' q ns ∧ MN d z u ns ∧ (∀ m, nAt ns z.length m = 0) ∧ ∀ p, z.length - i ≤ p → p < z.length → ∀ m, 0 ≤ m → m < d.modes → Num1 d.rules z ns u p m (nAt ns p m)) ∧ Same H H') ⟨⟨ns, none, rfl, hN, hM, nAt_zero hz0 _, fun p h1 h2 => by omega⟩, s2⟩ ?_ ?_
  · rintro i σ' H3 hi ⟨⟨ns, o6, rfl, hN, hM, hL0, hNum⟩, s3⟩
    obtain ⟨c, hc⟩ : ∃ c, c + i + 1 = z.length := ⟨z.length - i - 1, by omega⟩
    have ec : (z.length : Int) - 1 + (i : Int) * -1 = (c : Int) := by omega
    rw [ec]
    have hM1 := hM.ln
    refine ⟨_, rfl, x, _, dx, _, _, rfl, s3 _ _ hx, t.c_Table, t.n_Table_modes, lk_modes _ _, _, rfl, by omega, by omega, fun C hC => ?_⟩
    have hC0 : H C = none := Sx.Same.none s3 _ hC
    obtain ⟨as, hq3, al, hE⟩ := hN.ex
    have nCq : C ≠ q := fun z => by rw [z, hq3] at hC; cases hC
    refine lc_range (lo := 0) (n := d.modes.toNat) (fun j H' => (∃ ys : List Int, H' C = some (.lst (ys.map V.int)) ∧ ys.length = j ∧ ∀ (i : Nat) y, ys[i]? = some y → Num1 d.rules z ns u c (i : Int) y) ∧ Same H3 H') ⟨⟨[], upd_same, rfl, fun i y h => by simp at h⟩, Same.new hC⟩ ?_ ?_
    · rintro j H4 hj ⟨⟨ys, hY, yl, yb⟩, s4⟩
      refine ⟨rfl, ?_⟩
      refine ⟨_, rfl, _, rfl, _, rfl, _, rfl, _, rfl, _, rfl, .ref x, d, z, c, 0 + (j : Int), q, ns, u, rfl, hT.same (s3.trans s4), dok, hto, by omega, by omega, hN.same s4, hM.ln, hM.bd, fun y H5 yn s5 => ?_⟩
      refine ⟨_, s5 _ _ hY, by rw [List.length_map]; exact small1 (by omega), ⟨ys ++ [y], by rw [upd_same, List.map_append]; rfl, by rw [List.length_append, yl]; rfl, fun i2 y' hy => ?_⟩, Same.put (s4.trans s5) hC⟩
      by_cases il : i2 < ys.length
      · rw [List.getElem?_append_left il] at hy
        exact yb i2 y' hy
      · rw [List.getElem?_append_right (by omega)] at hy
        have z1 : i2 - ys.length = 0 := by
          have := (List.getElem?_eq_some_iff.mp hy).1
          rw [List.length_singleton] at this
          omega
        rw [z1] at hy
        obtain rfl := Option.some.inj hy
        have : i2 = j := by omega
        subst this
        rw [Int.zero_add] at yn
        exact yn
    · rintro H4 ⟨⟨ys, hY, yl, yb⟩, s4⟩
      refine ⟨_, rfl, _, rfl, q, _, _, c, rfl, rfl, s4 _ _ hq3, ixN_natS (by rw [List.length_map]; omega), ?_⟩
      have cns : c < ns.length := by omega
      have hset : ∀ m, 0 ≤ m → m < d.modes → ∃ y, ys[m.toNat]? = some y ∧ nAt (ns.set c ys) c m = y := fun m h0 h1 => by
        have ml : m.toNat < ys.length := by omega
        refine ⟨ys[m.toNat], List.getElem?_eq_getElem ml, ?_⟩
        have := nAt_get (ns := ns.set c ys) (p := c) (n := ys) (m := m.toNat) (List.getElem?_set_self cns) (List.getElem?_eq_getElem ml)
        rw [Int.toNat_of_nonneg h0] at this
        exact this
      refine ⟨⟨ns.set c ys, _, rfl, NLs.set (s4 _ _ hq3) al (fun i a n q1 q2 => s4 _ _ (hE i a n q1 q2)) hY nCq c, ⟨by rw [List.length_set]; exact hM.ln, fun n hn => ?_, fun n hn => ?_⟩, fun m => ?_, fun p hp1 hp2 m h0 h1 => ?_⟩, Same.put (s3.trans s4) hq0⟩
      · rcases List.mem_or_eq_of_mem_set hn with h | h
        · exact hM.lm n h
        · rw [h]; omega
      · rcases List.mem_or_eq_of_mem_set hn with h | h
        · exact hM.bd n h
        · rw [h]
          intro y hy
          obtain ⟨i2, hi2⟩ := List.mem_iff_getElem?.mp hy
          exact ⟨(yb i2 y hi2).x0, (yb i2 y hi2).xu⟩
      · rw [nAt_set (by omega)]
        exact hL0 m
      · by_cases pc : p = c
        · subst pc
          obtain ⟨y, hy, e⟩ := hset m h0 h1
          rw [e]
          have := yb _ y hy
          rw [Int.toNat_of_nonneg h0] at this
          exact this.congr dok.ro fun q j hq => nAt_set (by omega) ys j
        · rw [nAt_set pc]
          exact (hNum p (by omega) hp2 m h0 h1).congr dok.ro fun q j hq => nAt_set (by omega) ys j
  · rintro σ' H3 ⟨⟨ns, o6, rfl, hN, hM, hL0, hNum⟩, s3⟩
    exact ⟨_, rfl, k q ns u H3 hN ⟨hM, hL0, fun p hp m h0 h1 => hNum p (by omega) hp m h0 h1, hub⟩ s3⟩
end
end Sx

set_option Elab.async false
set_option linter.all false
set_option maxRecDepth 100000
set_option maxHeartbeats 2000000
namespace Sx
open PySem PySem.Spec PyProof.Rows L2 SxA PySem.W
def LenOk (d : TD) (z : Str) (ns : List (List Int)) : Prop := ns.length = z.length + 1 ∧ ∀ n ∈ ns, (n.length : Int) = d.modes
def HoldsR (z : Str) (ns : List (List Int)) (p : Nat) (r : RD) : Prop := fitsB r z p = true → nAt ns p r.mode ≤ (r.cells.length : Int) + nAt ns (p + r.text.length) r.to
structure Good (d : TD) (z : Str) (ns : List (List Int)) : Prop where
  ln : LenOk d z ns
  last : ∀ x ∈ ns.getD z.length [], x ≤ 0
  hold : ∀ p, p < z.length → ∀ r ∈ d.rules, HoldsR z ns p r
/-- a table for numbers -/
structure TNum (d : TD) : Prop where
  ok : d.ok
  to : ∀ r ∈ d.rules, 0 ≤ r.to ∧ r.to < d.modes
  mo : ∀ r ∈ d.rules, 0 ≤ r.mode ∧ r.mode < d.modes
  m0 : 0 ≤ d.modes
  m1 : d.modes ≤ 10
def spHaveLen (K : PySem.W.Frag) : Sp := fun vs H Q _ => ∃ (v : V) (d : TD) (z : Str) (q : Addr) (ns : List (List Int)), vs = [v, .str z, .ref q] ∧ TableO K H v d ∧ TNum d ∧ z.length ≤ 10 ∧ NLs H q ns ∧ ns.length ≤ 1000 ∧ ∀ b H', (b = true ↔ LenOk d z ns) → Same H H' → Q (.bl b) H'
def spHoldsAt (K : PySem.W.Frag) : Sp := fun vs H Q _ => ∃ (v : V) (d : TD) (z : Str) (q : Addr) (ns : List (List Int)) (p m : Nat), vs = [v, .str z, .ref q, .int (p : Int), .int (m : Int)] ∧ TableO K H v d ∧ TNum d ∧ z.length ≤ 10 ∧ NLs H q ns ∧ LenOk d z ns ∧ p < z.length ∧ (m : Int) < d.modes ∧
  ∀ b H', (b = true ↔ ∀ r ∈ d.rules, r.mode = (m : Int) → HoldsR z ns p r) → Same H H' → Q (.bl b) H'
def spAccepts (K : PySem.W.Frag) : Sp := fun vs H Q _ => ∃ (v : V) (d : TD) (z : Str) (q : Addr) (ns : List (List Int)), vs = [v, .str z, .ref q] ∧ TableO K H v d ∧ TNum d ∧ z.length ≤ 10 ∧ NLs H q ns ∧ ns.length ≤ 1000 ∧ ∀ b H', (b = true ↔ Good d z ns) → Same H H' → Q (.bl b) H'
section
variable {P : Program} {w : World} {K : PySem.W.Frag} {mg : Str → Option Value} {base : Heap}
abbrev nsHaveLengths : List Str := ["table", "text", "numbers", "row"]
theorem scHaveLengths : FnScope nsHaveLengths ["table", "text", "numbers"] (defScope sHaveLengths) := ⟨rfl, rfl, rfl, by decide +kernel, rfl, by decide +kernel, by decide +kernel⟩
theorem ok_have_lengths (t : T K mg) : Ok P w K mg base 1 "have_lengths" ["table", "text", "numbers"] (spHaveLen K) := by
  refine mkOk t.d_have_lengths t.g_have_lengths scHaveLengths (fun vs H Q E h => ?_) (fun _ _ _ _ _ _ us hl => match us, hl with | [_, _, _], _ => rfl) fun cdv A outer s H vs Q E hr h => ?_
  · obtain ⟨v, d, z, q, ns, rfl, _⟩ := h; rfl
  obtain ⟨v, d, z, q, ns, rfl, ⟨x, dx, l, rfl, hx, _⟩, hT, zl, hN, nl, k⟩ := h
  refine ⟨_, pss_one (ps_ret (pe_and (pe_cmpR op_eq (pe_callB call_len_seq rfl t.f_len boot_len (pa_cons (pv 2) pa_nil)) (pe_op op_add (pe_callB call_len_str rfl t.f_len boot_len (pa_cons (pv 1) pa_nil)) pe_int) (nomark _)) (pe_one (pe_callB (cr_all rfl) rfl t.f_all (by decide +kernel) (pa_cons (pe_lc (own := [("row", 3)]) (g := gName 3) (tt := tYes) rfl scHaveLengths.nd (pi_list (pv 2)) (blkOk_by (own := [("row", 3)]) (N := nsHaveLengths) (sc := defScope sHaveLengths) (by decide +kernel)) (fun _ _ _ _ _ => pg_name (i := 3) scHaveLengths.nd rfl (Or.inl rfl)) (fun _ _ _ _ _ => pts_nil) (fun _ _ _ _ _ => (pe_cmpR op_eq (pe_callB (call_lenK (K := K) rfl) rfl t.f_len boot_len (pa_cons (pv 3) pa_nil)) (pe_callB (call_max2 rfl) rfl t.f_max boot_max (pa_cons (pe_fldK (K := K) rfl (pv 0)) (pa_cons pe_int pa_nil))) (nomark _)))) pa_nil))))), ?_⟩
  have zs : z.length ≤ sizeLine := Nat.le_trans (show _ ≤ 1000 by omega) (by decide)
  have m0 := hT.m0
  obtain ⟨as, hq, al, hE⟩ := hN.ex
  refine ⟨_, rfl, q, _, rfl, .inl (SqL.of hq), _, rfl, z, rfl, zs, _, _, rfl, rfl, rfl, _, rfl, ?_⟩
  refine ite2 (fun h1 => ?_) (fun h1 => ?_)
  · have e1 : ns.length = z.length + 1 := by
      have := V.int.inj (of_decide_eq_true h1)
      rw [List.length_map] at this
      omega
    refine ⟨_, rfl, q, rfl, ⟨_, SqL.of hq⟩, fun D hD => ?_⟩
    refine lc_list (K := K) (a := q) (xs := as.map V.ref) (g := gName 3) (tt := tYes) (fun j H' => H' D = some (.lst (((ns.take j).map fun n => decide ((n.length : Int) = d.modes)).map V.bl)) ∧ Same H H') ⟨upd_same, Same.new hD⟩ (fun j H' _ q => SqL.of (q.2 _ _ hq)) ?_ ?_
    · rintro j v H1 hv ⟨hY, s1⟩
      obtain ⟨a, ea, rfl⟩ := refsAt hv
      have jl : j < ns.length := by rw [← al]; exact (List.getElem?_eq_some_iff.mp ea).1
      have ej : ns[j]? = some ns[j] := List.getElem?_eq_getElem jl
      have ha := s1 _ _ (hE j a _ ea ej)
      have tk : ns.take (j + 1) = ns.take j ++ [ns[j]] := by rw [List.take_add_one, ej]; rfl
      generalize ns[j] = n at ha tk
      refine ⟨rfl, ?_⟩
      refine ⟨_, rfl, a, _, rfl, .inl (SqL.of ha), _, rfl, x, _, dx, _, _, rfl, s1 _ _ hx, t.c_Table, t.n_Table_modes, lk_modes _ _, _, _, rfl, rfl, _, hY, by rw [List.length_map, List.length_map, List.length_take]; exact small1 (by omega), ?_, Same.put s1 hD⟩
      rw [upd_same, tk, List.map_append, List.map_append, if_neg (show ¬ (0 : Int) > d.modes by omega)]
      have dd : decide (V.int ((n.map V.int).length : Int) = V.int d.modes) = decide ((n.length : Int) = d.modes) := by
        rw [decide_eq_decide, List.length_map]
        exact ⟨fun h => V.int.inj h, fun h => by rw [h]⟩
      rw [dd]
      rfl
    · rintro H1 ⟨hY, s1⟩
      rw [List.length_map, al, List.take_length] at hY
      refine ⟨D, _, rfl, SqL.of hY, k _ H1 ?_ s1⟩
      rw [List.all_eq_true]
      constructor
      · intro h
        refine ⟨e1, fun n hn => ?_⟩
        exact of_decide_eq_true (h _ (List.mem_map.mpr ⟨n, hn, rfl⟩))
      · rintro ⟨_, h⟩ b hb
        obtain ⟨n, hn, rfl⟩ := List.mem_map.mp hb
        exact decide_eq_true (h n hn)
  · refine k false H ⟨(fun h => by cases h), fun h => ?_⟩ (Same.refl _)
    exact absurd (decide_eq_true (by rw [List.length_map, al, h.1]; rfl)) h1
abbrev nsHoldsAt : List Str := ["table", "text", "numbers", "place", "mode", "number", "rule"]
theorem scHoldsAt : FnScope nsHoldsAt ["table", "text", "numbers", "place", "mode"] (defScope sHoldsAt) := ⟨rfl, rfl, rfl, by decide +kernel, rfl, by decide +kernel, by decide +kernel⟩
theorem ok_holds_at (t : T K mg) : Ok P w K mg base 4 "holds_at" ["table", "text", "numbers", "place", "mode"] (spHoldsAt K) := by
  refine mkOk t.d_holds_at t.g_holds_at scHoldsAt (fun vs H Q E h => ?_) (fun _ _ _ _ _ _ us hl => match us, hl with | [_, _, _, _, _], _ => rfl) fun cdv A outer s H vs Q E hr h => ?_
  · obtain ⟨v, d, z, q, ns, p, m, rfl, _⟩ := h; rfl
  obtain ⟨v, d, z, q, ns, p, m, rfl, hTb, hT, zl, hN, hL, pz, md, k⟩ := h
  have hr1 : Room 1 _ := hr.mono (by decide)
  have hr3 : Room 3 _ := hr.mono (by decide)
  refine ⟨_, pss_cons (ps_for PassesOwn.never rfl (pi_list (pe_ok (ok_fitting t) hr3 rfl (pa_cons (pv 0) (pa_cons (pv 1) (pa_cons (pv 3) (pa_cons (pv 4) pa_nil)))))) (pg_name (i := 5) scHoldsAt.nd rfl (Or.inl rfl))
      (pss_cons (ps_set (i := 6) scHoldsAt.nd rfl (Or.inl rfl) (pe_ix ix_list (pe_fld (pv 0) rfl) (pv 5) (fun _ _ => rfl)))
    (pss_one (ps_if (pt_cmpR op_gt (pe_ix ix_list (pe_ix ix_list (pv 2) (pv 3) (fun _ _ => rfl)) (pv 4) (fun _ _ => rfl)) (pe_op op_add (pe_callB call_len_seq rfl t.f_len boot_len (pa_cons (pe_fld (pv 6) rfl) pa_nil)) (pe_ok (ok_number_of_mode t) hr1 rfl (pa_cons (pe_ix ix_list (pv 2) (pe_op op_add (pv 3) (pe_callB call_len_str rfl t.f_len boot_len (pa_cons (pe_fld (pv 6) rfl) pa_nil))) (fun _ _ => rfl)) (pa_cons (pe_fld (pv 6) rfl) pa_nil)))) (nomark _))
      (pss_one (ps_ret pe_bl))
      pss_nil))))
    (pss_one (ps_ret pe_bl)), ?_⟩
  obtain ⟨x, dx, l, rfl, hx, ⟨ws, hl, wl, hw⟩⟩ := id hTb
  have dok := hT.ok
  refine ⟨_, rfl, _, rfl, _, rfl, _, rfl, _, d, z, p, (m : Int), rfl, hTb, dok, by omega, by omega, fun G H1 hG s1 hG1 => ?_⟩
  refine ⟨G, rfl, ⟨_, SqL.of hG1⟩, ?_⟩
  refine for_list (K := K) (a := G) (xs := (fitL d.rules z p m).map fun n : Nat => V.int (n : Int)) (fun i σ' H' => (∃ (o5 o6 : Option V), σ' = [some (.ref x), some (.str z), some (.ref q), some (.int (p : Int)), some (.int (m : Int)), o5, o6] ∧ ∀ k0 ∈ (fitL d.rules z p m).take i, ∀ r, d.rules[k0]? = some r → HoldsR z ns p r) ∧ H' = H1)
    ⟨⟨none, none, rfl, fun k0 h => by rw [List.take_zero] at h; cases h⟩, rfl⟩ (fun i σ' H' _ z => by rw [z.2]; exact SqL.of hG1) ?_ ?_
  · rintro i v σ' H2 hvi ⟨⟨o5, o6, rfl, hb⟩, rfl⟩
    obtain ⟨k0, hk0, rfl⟩ : ∃ k0, (fitL d.rules z p m)[i]? = some k0 ∧ v = V.int (k0 : Int) := by
      rw [List.getElem?_map] at hvi
      cases e : (fitL d.rules z p m)[i]? with
      | none => rw [e] at hvi; cases hvi
      | some y => rw [e] at hvi; exact ⟨y, rfl, (Option.some.inj hvi).symm⟩
    have hmem := List.mem_of_getElem? hk0
    unfold fitL fitIx at hmem
    obtain ⟨hm1, hm2⟩ := List.mem_filter.mp hmem
    have kl := List.mem_range.mp hm1
    have hri : d.rules[k0]? = some d.rules[k0] := List.getElem?_eq_getElem kl
    rw [hri] at hm2
    have hfit : fitsB d.rules[k0] z p = true := (Bool.and_eq_true_iff.mp hm2).2
    have hmode : d.rules[k0].mode = (m : Int) := of_decide_eq_true (Bool.and_eq_true_iff.mp hm2).1
    have rok := dok.ro _ (List.getElem_mem kl)
    have rto := hT.to _ (List.getElem_mem kl)
    have pe := fits_le rok (by omega) hfit
    obtain ⟨v, hv0⟩ : ∃ v, ws[k0]? = some v := ⟨_, List.getElem?_eq_getElem (by omega)⟩
    obtain ⟨xr, dr1, lr, rfl, hxr, hlr⟩ := (hw k0 v _ hv0 hri).same s1
    have hmemr : d.rules[k0] ∈ d.rules := List.getElem_mem kl
    have tk : (fitL d.rules z p m).take (i + 1) = (fitL d.rules z p m).take i ++ [k0] := by rw [List.take_add_one, hk0]; rfl
    generalize d.rules[k0] = r at hri hxr hlr rok rto pe hfit hmode hmemr
    have tl := rok.tl
    have hx2 := s1 _ _ hx
    have hN2 := hN.same s1
    obtain ⟨n1, hn1⟩ : ∃ n, ns[p]? = some n := ⟨_, List.getElem?_eq_getElem (by have := hL.1; omega)⟩
    obtain ⟨n2, hn2⟩ : ∃ n, ns[p + r.text.length]? = some n := ⟨_, List.getElem?_eq_getElem (by have := hL.1; omega)⟩
    have l1 := hL.2 n1 (List.mem_of_getElem? hn1)
    obtain ⟨y1, hy1⟩ : ∃ y, n1[m]? = some y := ⟨_, List.getElem?_eq_getElem (by omega)⟩
    obtain ⟨as, a, hq2, asl, ha0, ha⟩ := hN2.get hn1
    obtain ⟨as2, a2, hq3, asl2, ha02, ha2⟩ := hN2.get hn2
    have v1 := nAt_get hn1 hy1
    have v2 : nAt ns (p + r.text.length) r.to = n2.getD r.to.toNat 0 := by
      unfold nAt
      rw [show ns.getD (p + r.text.length) [] = n2 by rw [List.getD_eq_getElem?_getD, hn2]; rfl]
    refine ⟨_, rfl, x, _, dx, _, _, rfl, hx2, t.c_Table, t.n_Table_rules, lk_rules _ _, _, rfl, l, _, _, _, rfl, rfl, SqL.of (s1 _ _ hl), atI_nat hv0, ?_⟩
    refine ⟨_, rfl, _, rfl, q, _, _, _, rfl, rfl, SqL.of hq2, atI_nat (by rw [List.getElem?_map, ha0]; rfl), _, rfl, a, _, _, _, rfl, rfl, SqL.of ha, atI_nat (by rw [List.getElem?_map, hy1]; rfl), ?_⟩
    refine ⟨_, rfl, xr, _, dr1, _, _, rfl, hxr, t.c_Rule, t.n_Rule_cells, lk_cells _ _, lr, _, rfl, .inl (SqL.of hlr), ?_⟩
    refine ⟨_, rfl, _, rfl, _, rfl, xr, _, dr1, _, _, rfl, hxr, t.c_Rule, t.n_Rule_text, lk_text _ _, _, rfl, Nat.le_trans (show _ ≤ 1000 by omega) (by decide), _, _, rfl, rfl, q, _, _, .ref a2, rfl, rfl, SqL.of hq3, (by rw [← Int.natCast_add]; exact atI_nat (by rw [List.getElem?_map, ha02]; rfl)), _, rfl, xr, _, dr1, _, _, rfl, hxr, t.c_Rule, t.n_Rule_to, lk_to _ _, a2, n2, r.to, rfl, ha2, rto.1, ?_⟩
    refine ⟨_, _, rfl, rfl, _, _, rfl, rfl, _, rfl, ?_⟩
    refine ite2 (fun h1 => ?_) (fun h1 => ?_)
    · have h2 := of_decide_eq_true h1
      rw [List.length_map] at h2
      refine k false H2 ⟨(fun h => by cases h), fun h => ?_⟩ s1
      have h3 := h r hmemr hmode hfit
      rw [hmode, v1, v2] at h3
      omega
    · have h2 : ¬ ((((r.cells.map V.int).length : Nat) : Int) + n2.getD r.to.toNat 0 < y1) := fun z => h1 (decide_eq_true z)
      rw [List.length_map] at h2
      refine ⟨⟨_, _, rfl, fun k1 hk1 r1 hr1 => ?_⟩, rfl⟩
      rw [tk] at hk1
      rcases List.mem_append.mp hk1 with h | h
      · exact hb k1 h r1 hr1
      · rw [List.mem_singleton.mp h] at hr1
        obtain rfl : r = r1 := Option.some.inj (hri.symm.trans hr1)
        intro _
        rw [hmode, v1, v2]
        omega
  · rintro σ' H2 ⟨⟨o5, o6, rfl, hb⟩, rfl⟩
    rw [List.length_map, List.take_length] at hb
    refine k true H2 ⟨fun _ r hr hm hf => ?_, fun _ => rfl⟩ s1
    obtain ⟨k0, hk0⟩ := List.mem_iff_getElem?.mp hr
    refine hb k0 ?_ r hk0 hf
    unfold fitL fitIx
    refine List.mem_filter.mpr ⟨List.mem_range.mpr (List.getElem?_eq_some_iff.mp hk0).1, ?_⟩
    rw [hk0]
    show (decide (r.mode = (m : Int)) && fitsB r z p) = true
    rw [hf, decide_eq_true hm]
    rfl
end
end Sx

set_option Elab.async false
set_option linter.all false
set_option maxRecDepth 100000
set_option maxHeartbeats 2000000
namespace Sx
open PySem PySem.Spec PyProof.Rows L2 SxA PySem.W
def spShows (K : PySem.W.Frag) : Sp := fun vs H Q _ => ∃ (v : V) (d : TD) (z : Str) (q y : Addr) (ns : List (List Int)) (wy : List Nat), vs = [v, .str z, .ref q, .ref y] ∧ TableO K H v d ∧ TNum d ∧ 0 < d.modes ∧ z.length ≤ 10 ∧ NLs H q ns ∧ ns.length ≤ 1000 ∧ H y = some (.lst (wy.map nv)) ∧ wy.length ≤ 1000 ∧ (∀ k ∈ wy, k < d.rules.length) ∧
  ∀ b H', (b = true ↔ Good d z ns ∧ IsW d.rules z 0 0 wy ∧ ((cellsF d.rules wy).length : Int) = nAt ns 0 0) → Same H H' → Q (.bl b) H'
section
variable {P : Program} {w : World} {K : PySem.W.Frag} {mg : Str → Option Value} {base : Heap}
abbrev nsAcceptsNumbers : List Str := ["table", "text", "numbers", "number", "place", "mode"]
theorem scAcceptsNumbers : FnScope nsAcceptsNumbers ["table", "text", "numbers"] (defScope sAcceptsNumbers) := ⟨rfl, rfl, rfl, by decide +kernel, rfl, by decide +kernel, by decide +kernel⟩
theorem ok_accepts_numbers (t : T K mg) : Ok P w K mg base 5 "accepts_numbers" ["table", "text", "numbers"] (spAccepts K) := by
  refine mkOk t.d_accepts_numbers t.g_accepts_numbers scAcceptsNumbers (fun vs H Q E h => ?_) (fun _ _ _ _ _ _ us hl => match us, hl with | [_, _, _], _ => rfl) fun cdv A outer s H vs Q E hr h => ?_
  · obtain ⟨v, d, z, q, ns, rfl, _⟩ := h; rfl
  obtain ⟨v, d, z, q, ns, rfl, hTb, hT, zl, hN, nl, k⟩ := h
  have hr1 : Room 1 _ := hr.mono (by decide)
  have hr4 : Room 4 _ := hr.mono (by decide)
  refine ⟨_, C8.pss_cut (ps_if (PW.pt (pw_or (pt_not (pt_val (pe_ok (ok_have_lengths t) hr1 rfl (pa_cons (pv 0) (pa_cons (pv 1) (pa_cons (pv 2) pa_nil)))))) (pw_or1 (pt_val (pe_callB (cr_any rfl) rfl t.f_any (by decide +kernel) (pa_cons (pe_lc (own := [("number", 3)]) (g := gName 3) (tt := tYes) rfl scAcceptsNumbers.nd (pi_list (pe_ix ix_list (pv 2) (pe_un un_neg pe_int) (fun _ _ => rfl))) (blkOk_by (own := [("number", 3)]) (N := nsAcceptsNumbers) (sc := defScope sAcceptsNumbers) (by decide +kernel)) (fun _ _ _ _ _ => pg_name (i := 3) scAcceptsNumbers.nd rfl (Or.inl rfl)) (fun _ _ _ _ _ => pts_nil) (fun _ _ _ _ _ => (pe_cmpR op_gt (pv 3) pe_int (nomark _)))) pa_nil))))))
      (pss_one (ps_ret pe_bl))
      pss_nil)
    (pss_cons (ps_for PassesOwn.never rfl (pi_range1 rfl t.f_range (pa_cons (pe_callB call_len_str rfl t.f_len boot_len (pa_cons (pv 1) pa_nil)) pa_nil)) (pg_name (i := 4) scAcceptsNumbers.nd rfl (Or.inl rfl))
      (pss_one (ps_for PassesOwn.never rfl (pi_range1 rfl t.f_range (pa_cons (pe_fld (pv 0) rfl) pa_nil)) (pg_name (i := 5) scAcceptsNumbers.nd rfl (Or.inl rfl))
      (pss_one (ps_if (pt_not (pt_val (pe_ok (ok_holds_at t) hr4 rfl (pa_cons (pv 0) (pa_cons (pv 1) (pa_cons (pv 2) (pa_cons (pv 4) (pa_cons (pv 5) pa_nil))))))))
      (pss_one (ps_ret pe_bl))
      pss_nil)))))
    (pss_one (ps_ret pe_bl))), ?_⟩
  have zs : z.length ≤ sizeLine := Nat.le_trans (show _ ≤ 1000 by omega) (by decide)
  obtain ⟨x, dx, l, rfl, hx, _⟩ := id hTb
  have m0 := hT.m0
  have m10 := hT.m1
  refine ⟨fun σ' H' => σ' = [some (.ref x), some (.str z), some (.ref q), none, none, none] ∧ Same H H' ∧ LenOk d z ns ∧ ∀ y ∈ ns.getD z.length [], y ≤ 0, ?_, ?_⟩
  · refine ⟨_, rfl, _, rfl, _, rfl, .ref x, d, z, q, ns, rfl, hTb, hT, zl, hN, nl, fun b1 H1 hb1 s1 => ⟨_, rfl, ?_⟩⟩
    cases b1 with
    | false =>
      refine iteT ?_
      refine k false H1 ⟨(fun h => by cases h), fun h => ?_⟩ s1
      have := hb1.mpr h.ln
      cases this
    | true =>
      refine iteF ?_
      have hL := hb1.mp rfl
      obtain ⟨n, hn⟩ : ∃ n, ns[z.length]? = some n := ⟨_, List.getElem?_eq_getElem (by have := hL.1; omega)⟩
      have eg : ns.getD z.length [] = n := by rw [List.getD_eq_getElem?_getD, hn]; rfl
      obtain ⟨as, a, hq1, asl, ha0, ha⟩ := (hN.same s1).get hn
      have ila : atI (as.map V.ref) (-1) = some (.ref a) := by
        have ixl : ixN (as.map V.ref).length (-1) = some z.length := by
          unfold ixN
          rw [if_neg (by decide), List.length_map, asl, hL.1]
          rw [if_pos (by omega)]
          congr 1
          omega
        unfold atI
        rw [ixl]
        show (as.map V.ref)[z.length]? = _
        rw [List.getElem?_map, ha0]
        rfl
      refine ⟨_, rfl, _, rfl, q, _, _, .ref a, rfl, rfl, SqL.of hq1, ila, a, rfl, ⟨_, SqL.of ha⟩, fun D hD => ?_⟩
      refine lc_list (K := K) (a := a) (xs := n.map V.int) (g := gName 3) (tt := tYes) (fun j H' => H' D = some (.lst (((n.take j).map fun y => decide (0 < y)).map V.bl)) ∧ Same H1 H') ⟨upd_same, Same.new hD⟩ (fun j H' _ q => SqL.of (q.2 _ _ ha)) ?_ ?_
      · rintro j v H2 hv ⟨hY, s2⟩
        obtain ⟨y, hy, rfl⟩ : ∃ y, n[j]? = some y ∧ v = V.int y := by
          rw [List.getElem?_map] at hv
          cases e : n[j]? with
          | none => rw [e] at hv; cases hv
          | some y => rw [e] at hv; exact ⟨y, rfl, (Option.some.inj hv).symm⟩
        have jl := (List.getElem?_eq_some_iff.mp hy).1
        have ln := hL.2 n (List.mem_of_getElem? hn)
        have tk : n.take (j + 1) = n.take j ++ [y] := by rw [List.take_add_one, hy]; rfl
        refine ⟨rfl, ?_⟩
        refine ⟨_, rfl, _, _, rfl, rfl, _, hY, by rw [List.length_map, List.length_map, List.length_take]; exact small1 (by omega), ?_, Same.put s2 hD⟩
        rw [upd_same, tk, List.map_append, List.map_append]
        rfl
      · rintro H2 ⟨hY, s2⟩
        rw [List.length_map, List.take_length] at hY
        refine ⟨D, _, rfl, SqL.of hY, _, rfl, ?_⟩
        refine ite2 (fun h1 => ?_) (fun h1 => ?_)
        · refine k false H2 ⟨(fun h => by cases h), fun h => ?_⟩ (s1.trans s2)
          obtain ⟨b, hb, hb2⟩ := List.any_eq_true.mp h1
          obtain ⟨y, hy, rfl⟩ := List.mem_map.mp hb
          have h2 : 0 < y := of_decide_eq_true hb2
          have := h.last y (by rw [eg]; exact hy)
          omega
        · refine ⟨rfl, s1.trans s2, hL, fun y hy => ?_⟩
          rw [eg] at hy
          by_cases h2 : 0 < y
          · exact (h1 (List.any_eq_true.mpr ⟨decide (0 < y), List.mem_map.mpr ⟨y, hy, rfl⟩, by show decide (0 < y) = true; exact decide_eq_true h2⟩)).elim
          · omega
  rintro σ' H1 ⟨rfl, s1, hL, hlast⟩
  refine ⟨_, rfl, z, rfl, zs, _, rfl, by omega, by omega, ?_⟩
  rw [Int.toNat_natCast]
  refine for_range (lo := 0) (n := z.length) (fun i σ' H' => (∃ o4 o5 : Option V, σ' = [some (.ref x), some (.str z), some (.ref q), none, o4, o5]) ∧ Same H H' ∧ ∀ p, p < i → ∀ r ∈ d.rules, HoldsR z ns p r) ⟨⟨_, _, rfl⟩, s1, fun p hp => absurd hp (Nat.not_lt_zero _)⟩ ?_ ?_
  · rintro i σ' H2 hi ⟨⟨o4, o5, rfl⟩, s2, hh⟩
    have e0 : (0 : Int) + (i : Int) = (i : Int) := by omega
    rw [e0]
    refine ⟨_, rfl, x, _, dx, _, _, rfl, s2 _ _ hx, t.c_Table, t.n_Table_modes, lk_modes _ _, _, rfl, by omega, by omega, ?_⟩
    refine for_range (lo := 0) (n := d.modes.toNat) (fun j σ' H' => (∃ o5 : Option V, σ' = [some (.ref x), some (.str z), some (.ref q), none, some (.int (i : Int)), o5]) ∧ Same H H' ∧ ∀ m : Nat, m < j → ∀ r ∈ d.rules, r.mode = (m : Int) → HoldsR z ns i r) ⟨⟨_, rfl⟩, s2, fun p hp => absurd hp (Nat.not_lt_zero _)⟩ ?_ ?_
    · rintro j σ' H3 hj ⟨⟨o5, rfl⟩, s3, hm⟩
      have e1 : (0 : Int) + (j : Int) = (j : Int) := by omega
      rw [e1]
      refine ⟨_, rfl, _, rfl, _, rfl, _, rfl, _, rfl, .ref x, d, z, q, ns, i, j, rfl, hTb.same s3, hT, zl, hN.same s3, hL, hi, by omega, fun b H4 hb s4 => ⟨_, rfl, ?_⟩⟩
      cases b with
      | false =>
        refine iteT (k false H4 ⟨(fun h => by cases h), fun h => ?_⟩ (s3.trans s4))
        have := hb.mpr fun r hr _ => h.hold i hi r hr
        cases this
      | true =>
        refine iteF ⟨⟨_, rfl⟩, s3.trans s4, fun m hm' r hr hrm => ?_⟩
        by_cases e : m = j
        · subst e; exact hb.mp rfl r hr hrm
        · exact hm m (by omega) r hr hrm
    · rintro σ' H3 ⟨⟨o5, rfl⟩, s3, hm⟩
      refine ⟨⟨_, _, rfl⟩, s3, fun p hp r hr => ?_⟩
      by_cases e : p = i
      · subst e
        have := hT.mo r hr
        exact hm r.mode.toNat (by omega) r hr (by omega)
      · exact hh p (by omega) r hr
  · rintro σ' H2 ⟨⟨o4, o5, rfl⟩, s2, hh⟩
    exact k true H2 ⟨fun _ => ⟨hL, hlast, hh⟩, fun _ => rfl⟩ s2
abbrev nsShowsBest : List Str := ["table", "text", "numbers", "way"]
theorem scShowsBest : FnScope nsShowsBest ["table", "text", "numbers", "way"] (defScope sShowsBest) := ⟨rfl, rfl, rfl, by decide +kernel, rfl, by decide +kernel, by decide +kernel⟩
theorem ok_shows_best (t : T K mg) : Ok P w K mg base 6 "shows_best" ["table", "text", "numbers", "way"] (spShows K) := by
  refine mkOk t.d_shows_best t.g_shows_best scShowsBest (fun vs H Q E h => ?_) (fun _ _ _ _ _ _ us hl => match us, hl with | [_, _, _, _], _ => rfl) fun cdv A outer s H vs Q E hr h => ?_
  · obtain ⟨v, d, z, q, y, ns, wy, rfl, _⟩ := h; rfl
  obtain ⟨v, d, z, q, y, ns, wy, rfl, hTb, hT, m0, zl, hN, nl, hy, wl, wk, k⟩ := h
  have hr1 : Room 1 _ := hr.mono (by decide)
  have hr3 : Room 3 _ := hr.mono (by decide)
  have hr5 : Room 5 _ := hr.mono (by decide)
  refine ⟨_, pss_one (ps_ret (pe_and (pe_ok (ok_accepts_numbers t) hr5 rfl (pa_cons (pv 0) (pa_cons (pv 1) (pa_cons (pv 2) pa_nil)))) (pe_and (pe_ok (ok_is_way t) hr3 rfl (pa_cons (pv 0) (pa_cons (pv 1) (pa_cons (pv 3) pa_nil)))) (pe_one (pe_cmpR op_eq (pe_callB call_len_seq rfl t.f_len boot_len (pa_cons (pe_ok (ok_cells_of_way t) hr1 rfl (pa_cons (pv 0) (pa_cons (pv 3) pa_nil))) pa_nil)) (pe_ok (ok_number_of_mode t) hr1 rfl (pa_cons (pe_ix ix_list (pv 2) pe_int (fun _ _ => rfl)) (pa_cons pe_int pa_nil))) (nomark _)))))), ?_⟩
  have dok := hT.ok
  refine ⟨_, rfl, _, rfl, _, rfl, v, d, z, q, ns, rfl, hTb, hT, zl, hN, nl, fun b1 H1 hb1 s1 => ⟨_, rfl, ?_⟩⟩
  cases b1 with
  | false => exact iteF (k false H1 ⟨(fun h => by cases h), fun h => by have := hb1.mpr h.1; cases this⟩ s1)
  | true =>
    have hG := hb1.mp rfl
    refine iteT ?_
    refine ⟨_, rfl, _, rfl, _, rfl, v, d, z, y, wy, rfl, hTb.same s1, dok, by omega, s1 _ _ hy, wl, fun b2 H2 hb2 s2 => ⟨_, rfl, ?_⟩⟩
    have s12 := s1.trans s2
    cases b2 with
    | false => exact iteF (k false H2 ⟨(fun h => by cases h), fun h => by have := hb2.mpr h.2.1; cases this⟩ s12)
    | true =>
      have hW := hb2.mp rfl
      refine iteT ?_
      refine ⟨_, rfl, _, rfl, v, d, y, wy, rfl, hTb.same s12, dok, s12 _ _ hy, wl, wk, fun c H3 s3 hc => ?_⟩
      have s13 := s12.trans s3
      have hl := hG.ln.1
      obtain ⟨n, hn⟩ : ∃ n, ns[0]? = some n := ⟨_, List.getElem?_eq_getElem (by omega)⟩
      have eg : ns.getD 0 [] = n := by rw [List.getD_eq_getElem?_getD, hn]; rfl
      obtain ⟨as, a, hq1, asl, ha0, ha⟩ := (hN.same s13).get hn
      refine ⟨c, _, rfl, .inl (SqL.of hc), _, rfl, q, _, _, .ref a, rfl, rfl, SqL.of hq1, atI_nat (j := 0) (by rw [List.getElem?_map, ha0]; rfl), a, n, 0, rfl, ha, Int.le_refl _, rfl, ?_⟩
      refine k _ H3 ?_ s13
      rw [decide_eq_true_iff, List.length_map]
      have e2 : nAt ns 0 0 = n.getD (0 : Int).toNat 0 := by unfold nAt; rw [eg]
      rw [e2]
      exact ⟨fun h => ⟨hG, hW, V.int.inj h⟩, fun h => by rw [h.2.2]⟩
end
end Sx

set_option Elab.async false
set_option linter.all false
set_option maxRecDepth 100000
set_option maxHeartbeats 1000000
namespace Sx
open PySem PySem.Spec PyProof.Rows L2 SxA PySem.W
/-- the modes of a table: each once, ascending -/
structure MsOk (d : TD) (ms : List Int) : Prop where
  mem : ∀ m, m ∈ ms ↔ 0 ≤ m ∧ m < d.modes
  asc : ms.Pairwise (· < ·)
def spModesOf (K : PySem.W.Frag) : Sp := fun vs H Q _ => ∃ (v : V) (d : TD), vs = [v] ∧ TableO K H v d ∧ d.rules.length ≤ 40 ∧ (∀ r ∈ d.rules, 0 ≤ r.to ∧ r.to < d.modes) ∧ 1 ≤ d.modes ∧ d.modes ≤ 10 ∧
  ∀ q ms H', H q = none → Same H H' → H' q = some (.lst (ms.map V.int)) → MsOk d ms → Q (.ref q) H'
section
variable {P : Program} {w : World} {K : PySem.W.Frag} {mg : Str → Option Value} {base : Heap}
abbrev nsModesOf : List Str := ["table", "rule"]
theorem scModesOf : FnScope nsModesOf ["table"] (defScope sModesOf) := ⟨rfl, rfl, rfl, by decide +kernel, rfl, by decide +kernel, by decide +kernel⟩
theorem ok_modes_of (t : T K mg) : Ok P w K mg base 1 "modes_of" ["table"] (spModesOf K) := by
  refine mkOk t.d_modes_of t.g_modes_of scModesOf (fun vs H Q E h => ?_) (fun _ _ _ _ _ _ us hl => match us, hl with | [_], _ => rfl) fun cdv A outer s H vs Q E hr h => ?_
  · obtain ⟨v, d, rfl, _⟩ := h; rfl
  obtain ⟨v, d, rfl, ⟨x, dx, l, rfl, hx, ⟨ws, hl, wl, hw⟩⟩, nr, hto, m1, m10, k⟩ := h
  refine ⟨_, pss_one (ps_ret (pe_sortSet rfl t.f_sorted rfl t.f_set (pe_op op_cat (pe_op op_cat (pe_listRg rfl rfl t.f_list (prg_1 rfl t.f_range (pe_fld (pv 0) rfl))) (pe_lst (pa_cons pe_int pa_nil))) (pe_lc (own := [("rule", 1)]) (g := gName 1) (tt := tYes) rfl scModesOf.nd (pi_list (pe_fld (pv 0) rfl)) (blkOk_by (own := [("rule", 1)]) (N := nsModesOf) (sc := defScope sModesOf) (by decide +kernel)) (fun _ _ _ _ _ => pg_name (i := 1) scModesOf.nd rfl (Or.inl rfl)) (fun _ _ _ _ _ => pts_nil) (fun _ _ _ _ _ => (pe_fldK (K := K) rfl (pv 1))))))), ?_⟩
  refine ⟨_, rfl, x, _, dx, _, _, rfl, hx, t.c_Table, t.n_Table_modes, lk_modes _ _, _, rfl, RgOk.of_le (by decide) (by omega) (by decide) (by omega), fun r1 hr1 => ?_⟩
  have eg : rgV 0 d.modes = (natI (List.range d.modes.toNat)).map V.int := by
    unfold rgV natI
    rw [List.map_map, Int.sub_zero]
    exact List.map_congr_left fun i _ => by simp
  rw [eg]
  have s1 : Same H (upd H r1 (.lst ((natI (List.range d.modes.toNat)).map V.int))) := Same.new hr1
  have h1 : (upd H r1 (.lst ((natI (List.range d.modes.toNat)).map V.int))) r1 = some (.lst ((natI (List.range d.modes.toNat)).map V.int)) := upd_same
  generalize upd H r1 (.lst ((natI (List.range d.modes.toNat)).map V.int)) = H1 at s1 h1
  refine ⟨(by show 1 ≤ sizeLine; decide), fun r2 hr2 => ?_⟩
  have s2 : Same H1 (upd H1 r2 (.lst [V.int 0])) := Same.new hr2
  refine ⟨r1, r2, _, _, rfl, rfl, s2 _ _ h1, upd_same, ?_, fun r3 hr3 => ?_⟩
  · simp only [natI, List.length_map, List.length_range, List.length_singleton]
    exact Nat.le_trans (show _ ≤ 1000 by omega) (by decide)
  have s3 := s2.trans (Same.new (o := .lst ((natI (List.range d.modes.toNat)).map V.int ++ [V.int 0])) hr3)
  have h3 : (upd (upd H1 r2 (.lst [V.int 0])) r3 (.lst ((natI (List.range d.modes.toNat)).map V.int ++ [V.int 0]))) r3 = some (.lst ((natI (List.range d.modes.toNat)).map V.int ++ [V.int 0])) := upd_same
  generalize upd (upd H1 r2 (.lst [V.int 0])) r3 (.lst ((natI (List.range d.modes.toNat)).map V.int ++ [V.int 0])) = H3 at s3 h3
  have s13 := s1.trans s3
  refine ⟨_, rfl, x, _, dx, _, _, rfl, s13 _ _ hx, t.c_Table, t.n_Table_rules, lk_rules _ _, l, rfl, ⟨_, SqL.of (s13 _ _ hl)⟩, fun D hD => ?_⟩
  refine lc_list (K := K) (a := l) (xs := ws) (g := gName 1) (tt := tYes) (fun j H' => H' D = some (.lst (((d.rules.take j).map fun r => r.to).map V.int)) ∧ Same H3 H') ⟨upd_same, Same.new hD⟩ (fun j H' _ q => SqL.of (q.2 _ _ (s13 _ _ hl))) ?_ ?_
  · rintro j v H4 hj ⟨hY, s4⟩
    have jl : j < d.rules.length := by rw [← wl]; exact (List.getElem?_eq_some_iff.mp hj).1
    have hri : d.rules[j]? = some d.rules[j] := List.getElem?_eq_getElem jl
    obtain ⟨xr, dr, lr, rfl, hxr, hlr⟩ := (hw j v _ hj hri).same (s13.trans s4)
    refine ⟨rfl, ?_⟩
    refine ⟨_, rfl, xr, _, dr, _, _, rfl, hxr, t.c_Rule, t.n_Rule_to, lk_to _ _, _, hY, by rw [List.length_map, List.length_map, List.length_take]; exact small1 (by omega), ?_, Same.put s4 hD⟩
    rw [upd_same, List.take_add_one, hri, List.map_append, List.map_append]
    rfl
  · rintro H4 ⟨hY, s4⟩
    rw [wl, List.take_length] at hY
    have h34 := s4 _ _ h3
    refine ⟨r3, D, _, _, rfl, rfl, h34, hY, ?_, fun r5 hr5 => ?_⟩
    · simp only [natI, List.length_append, List.length_map, List.length_range, List.length_singleton]
      exact Nat.le_trans (show _ ≤ 1000 by omega) (by decide)
    refine ⟨r5, (natI (List.range d.modes.toNat)) ++ [0] ++ (d.rules.map fun r => r.to), rfl, SqL.of (by rw [upd_same, List.map_append, List.map_append]; rfl), ?_, fun out p asc mem hp => ?_⟩
    · simp only [natI, List.length_append, List.length_map, List.length_range, List.length_singleton]
      omega
    have s5 := Same.new (o := .lst ((natI (List.range d.modes.toNat)).map V.int ++ [V.int 0] ++ (d.rules.map fun r => r.to).map V.int)) hr5
    refine k p out _ ?_ ((s13.trans (s4.trans s5)).trans (Same.new hp)) upd_same ⟨fun m => ?_, asc⟩
    · exact Sx.Same.none (s13.trans (s4.trans s5)) _ hp
    · rw [mem]
      simp only [natI, List.mem_append, List.mem_map, List.mem_range, List.mem_singleton]
      constructor
      · rintro ((⟨i, hi, rfl⟩ | rfl) | ⟨r, hr, rfl⟩)
        · omega
        · omega
        · exact hto r hr
      · rintro ⟨a, b⟩
        exact .inl (.inl ⟨m.toNat, by omega, by omega⟩)
end
end Sx

set_option Elab.async false
set_option linter.all false
set_option maxRecDepth 100000
set_option maxHeartbeats 2000000
namespace Sx
open PySem PySem.Spec PyProof.Rows L2 SxA PySem.W
theorem minD_least : ∀ (r : List PyData) (x y : PyData), y ∈ x :: r → dataLt y (minD x r) = false
  | [], x, y, h => by
    rw [List.mem_singleton.mp h]
    exact lex_irrefl _
  | z :: r, x, y, h => by
    have e : minD x (z :: r) = minD (if dataLt z x then z else x) r := rfl
    rw [e]
    have ih := minD_least r (if dataLt z x then z else x)
    cases hc : dataLt z x with
    | true =>
      rw [hc] at ih
      rw [if_pos rfl] at ih ⊢
      rcases List.mem_cons.mp h with rfl | h
      · have iz := ih z List.mem_cons_self
        cases hy : dataLt y (minD z r) with
        | false => rfl
        | true =>
          have := lex_trans (O := itemOrd) _ _ _ hc hy
          exact absurd (this.symm.trans iz) (by decide)
      · exact ih y h
    | false =>
      rw [hc] at ih
      rw [if_neg (by decide)] at ih ⊢
      rcases List.mem_cons.mp h with rfl | h
      · exact ih y List.mem_cons_self
      · rcases List.mem_cons.mp h with rfl | h
        · have ix := ih x List.mem_cons_self
          cases hy : dataLt y (minD x r) with
          | false => rfl
          | true =>
            rcases lex_negTrans (O := itemOrd) _ (keyToks x) _ hy with q | q
            · exact absurd (q.symm.trans hc) (by decide)
            · exact absurd (q.symm.trans ix) (by decide)
        · exact ih y (List.mem_cons_of_mem _ h)
def lastV : List Nat → V
  | [] => .non
  | k :: _ => nv k
/-- what is told of a place and a mode: None, or (cells, the row, its first number) -/
def BV (H : Hp) (rs : List RD) (z : Str) (p : Nat) (m : Int) (v : V) : Prop :=
  (v = .non ∧ ∀ w, ¬ IsW rs z p m w) ∨ ∃ (q l : Addr) (w : List Nat), v = .ref q ∧ H q = some (.tup [.int ((cellsF rs w).length : Int), .ref l, lastV w]) ∧ H l = some (.lst ((cellsF rs w).map V.int)) ∧ Least rs z p m w
theorem BV.same {H H' : Hp} {rs : List RD} {z : Str} {p : Nat} {m : Int} {v : V} (h : BV H rs z p m v) (s : Same H H') : BV H' rs z p m v := by
  rcases h with h | ⟨q, l, w, e, h1, h2, h3⟩
  · exact .inl h
  · exact .inr ⟨q, l, w, e, s _ _ h1, s _ _ h2, h3⟩
theorem BV.dict {H : Hp} {rs : List RD} {z : Str} {p : Nat} {m : Int} {v : V} {B : Addr} {kvs kvs' : List (List L2.Key × V)} (h : BV H rs z p m v) (hB : H B = some (.dT kvs)) : BV (upd H B (.dT kvs')) rs z p m v := by
  rcases h with h | ⟨q, l, w, e, h1, h2, h3⟩
  · exact .inl h
  · refine .inr ⟨q, l, w, e, ?_, ?_, h3⟩
    · rw [upd_ne (fun z => by rw [z, hB] at h1; cases h1)]; exact h1
    · rw [upd_ne (fun z => by rw [z, hB] at h2; cases h2)]; exact h2
def kP (p : Nat) (m : Int) : List L2.Key := [.inl (p : Int), .inl m]
theorem mem_fitL {rs : List RD} {z : Str} {p : Nat} {m : Int} {k : Nat} : k ∈ fitL rs z p m ↔ ∃ r, rs[k]? = some r ∧ r.mode = m ∧ fitsB r z p = true := by
  unfold fitL fitIx
  rw [List.mem_filter, List.mem_range]
  constructor
  · rintro ⟨a, b⟩
    have e : rs[k]? = some rs[k] := List.getElem?_eq_getElem a
    rw [e] at b
    simp only [Bool.and_eq_true, decide_eq_true_eq] at b
    exact ⟨_, e, b.1, b.2⟩
  · rintro ⟨r, e, h1, h2⟩
    refine ⟨(List.getElem?_eq_some_iff.mp e).1, ?_⟩
    rw [e]
    simp [h1, h2]
/-- the candidates of some numbers -/
structure Cnd (rs : List RD) (z : Str) (p : Nat) (ks : List Nat) (ns : List (List Int × Nat)) : Prop where
  to : ∀ c ∈ ns, ∃ r w, c.2 ∈ ks ∧ rs[c.2]? = some r ∧ Least rs z (p + r.text.length) r.to w ∧ c.1 = r.cells ++ cellsF rs w
  of : ∀ k ∈ ks, ∀ r w, rs[k]? = some r → Least rs z (p + r.text.length) r.to w → (r.cells ++ cellsF rs w, k) ∈ ns
/-- their tuples -/
theorem alike_ints : ∀ xs ys : List Int, alikeAll (xs.map PyData.int) (ys.map PyData.int) = true
  | [], _ => by simp [alikeAll]
  | _ :: _, [] => by simp [alikeAll]
  | x :: xs, y :: ys => by simp [alikeAll, alike, alike_ints xs ys]
theorem cnd_alike (R S : List Int) (k j : Nat) : alike (cndD R k) (cndD S j) = true := by
  simp [cndD, pInts, alike, alikeAll, alike_ints]
theorem cnd_deps (ns : List (List Int × Nat)) : PyData.depthAll (ns.map fun c => cndD c.1 c.2) ≤ 60 := by
  induction ns with
  | nil => simp [PyData.depthAll]
  | cons c r ih =>
    have h0 : (cndD c.1 c.2).depth ≤ 10 := by
      have := dep_ints c.1
      simp [PyData.depthAll, PyData.depth, cndD, pInts]
      omega
    simp only [List.map_cons, PyData.depthAll]
    omega
structure CAt (H : Hp) (F : Addr) (es : List Addr) (ns : List (List Int × Nat)) : Prop where
  at_ : H F = some (.lst (es.map V.ref))
  len : es.length = ns.length
  el : ∀ (i : Nat) a c, es[i]? = some a → ns[i]? = some c → ∃ l, H a = some (.tup [.int (c.1.length : Int), .ref l, nv c.2]) ∧ H l = some (.lst (c.1.map V.int)) ∧ l ≠ F
theorem CAt.push {H H' : Hp} {F c l : Addr} {es : List Addr} {ns : List (List Int × Nat)} {R : List Int} {k : Nat} (h : CAt H F es ns) (s : Same H H') (hc : H' c = some (.tup [.int (R.length : Int), .ref l, nv k])) (hl : H' l = some (.lst (R.map V.int))) (nc : c ≠ F) (nl : l ≠ F) :
    CAt (upd H' F (.lst ((es ++ [c]).map V.ref))) F (es ++ [c]) (ns ++ [(R, k)]) := by
  refine ⟨upd_same, by rw [List.length_append, List.length_append, h.len]; rfl, fun i a x e1 e2 => ?_⟩
  by_cases il : i < es.length
  · rw [List.getElem?_append_left il] at e1
    rw [List.getElem?_append_left (by rw [← h.len]; exact il)] at e2
    obtain ⟨l', h1, h2, h3⟩ := h.el i a x e1 e2
    have na : a ≠ F := fun z => by rw [z, h.at_] at h1; cases h1
    exact ⟨l', by rw [upd_ne na]; exact s _ _ h1, by rw [upd_ne h3]; exact s _ _ h2, h3⟩
  · rw [List.getElem?_append_right (by omega)] at e1
    rw [List.getElem?_append_right (by rw [← h.len]; omega)] at e2
    have z1 : i - es.length = 0 := by
      have := (List.getElem?_eq_some_iff.mp e1).1
      rw [List.length_singleton] at this
      omega
    rw [z1] at e1
    rw [← h.len, z1] at e2
    obtain rfl := Option.some.inj e1
    obtain rfl := Option.some.inj e2
    exact ⟨l, by rw [upd_ne nc]; exact hc, by rw [upd_ne nl]; exact hl, nl⟩
def spBestChoice (K : PySem.W.Frag) : Sp := fun vs H Q _ => ∃ (v : V) (d : TD) (z : Str) (p : Nat) (m : Int) (B : Addr) (kvs : List (List L2.Key × V)), vs = [v, .str z, .int (p : Int), .int m, .ref B] ∧ TableO K H v d ∧ d.ok ∧ z.length ≤ 1000 ∧ p < z.length ∧ H B = some (.dT kvs) ∧
  (∀ k ∈ fitL d.rules z p m, ∀ r, d.rules[k]? = some r → ∃ u, valV kvs (kP (p + r.text.length) r.to) = some u ∧ BV H d.rules z (p + r.text.length) r.to u) ∧
  (∀ (q : Nat) (j : Int) (w : List Nat), q ≤ z.length → IsW d.rules z q j w → (cellsF d.rules w).length ≤ 100000) ∧ ∀ u H', Same H H' → BV H' d.rules z p m u → Q u H'
section
variable {P : Program} {w : World} {K : PySem.W.Frag} {mg : Str → Option Value} {base : Heap}
abbrev nsBestChoice : List Str := ["table", "text", "place", "mode", "best", "found", "number", "rule", "rest", "row"]
theorem scBestChoice : FnScope nsBestChoice ["table", "text", "place", "mode", "best"] (defScope sBestChoice) := ⟨rfl, rfl, rfl, by decide +kernel, rfl, by decide +kernel, by decide +kernel⟩
theorem ok_best_choice (t : T K mg) : Ok P w K mg base 4 "best_choice" ["table", "text", "place", "mode", "best"] (spBestChoice K) := by
  refine mkOk t.d_best_choice t.g_best_choice scBestChoice (fun vs H Q E h => ?_) (fun _ _ _ _ _ _ us hl => match us, hl with | [_, _, _, _, _], _ => rfl) fun cdv A outer s H vs Q E hr h => ?_
  · obtain ⟨v, d, z, p, m, B, kvs, rfl, _⟩ := h; rfl
  obtain ⟨v, d, z, p, m, B, kvs, rfl, hT, dok, zl, pz, hB, hbv, hcl, k⟩ := h
  have hr3 : Room 3 _ := hr.mono (by decide)
  refine ⟨_, pss_cons (ps_set (i := 5) scBestChoice.nd rfl (Or.inl rfl) (pe_lst pa_nil))
    (pss_cons (ps_for PassesOwn.never rfl (pi_list (pe_ok (ok_fitting t) hr3 rfl (pa_cons (pv 0) (pa_cons (pv 1) (pa_cons (pv 2) (pa_cons (pv 3) pa_nil)))))) (pg_name (i := 6) scBestChoice.nd rfl (Or.inl rfl))
      (pss_cons (ps_set (i := 7) scBestChoice.nd rfl (Or.inl rfl) (pe_ix ix_list (pe_fld (pv 0) rfl) (pv 6) (fun _ _ => rfl)))
    (pss_cons (ps_set (i := 8) scBestChoice.nd rfl (Or.inl rfl) (pe_dget (hu_of hr) (pv 4) (pe_tup (pa_cons (pe_op op_add (pv 2) (pe_callB call_len_str rfl t.f_len boot_len (pa_cons (pe_fld (pv 7) rfl) pa_nil))) (pa_cons (pe_fld (pv 7) rfl) pa_nil))) (fun _ _ => rfl)))
    (pss_one (ps_if (pt_cmpR op_notN (pv 8) pe_non (nomark _))
      (pss_cons (ps_set (i := 9) scBestChoice.nd rfl (Or.inl rfl) (pe_op op_cat (pe_fld (pv 7) rfl) (pe_ix ix_tup (pv 8) pe_int (fun _ _ => rfl))))
    (pss_one (ps_expr (pe_bm PySem.F.plainAttrs_list PySem.F.slot_list_append PySem.F.type_list_append mt_append (pv 5) (pa_cons (pe_tup (pa_cons (pe_callB call_len_seq rfl t.f_len boot_len (pa_cons (pv 9) pa_nil)) (pa_cons (pv 9) (pa_cons (pv 6) pa_nil)))) pa_nil)))))
      pss_nil)))))
    (pss_one (ps_ret (pe_callBK (cr_minDef rfl (hu64 hr)) rfl t.f_min (by decide +kernel) (pa_cons (pv 5) pa_nil) (pk_cons pe_non pk_nil))))), ?_⟩
  refine ⟨(by show 0 ≤ sizeLine; decide), fun F hF => ?_⟩
  have s0 : Same H (upd H F (.lst [])) := Same.new hF
  refine ⟨_, rfl, _, rfl, _, rfl, _, rfl, v, d, z, p, m, rfl, hT.same s0, dok, zl, Nat.le_of_lt pz, fun fa H1 hfa s1 hf1 => ?_⟩
  refine ⟨fa, rfl, ⟨_, SqL.of hf1⟩, ?_⟩
  have s01 := s0.trans s1
  have hF1 := s1 _ _ (upd_same (H := H) (a := F) (o := .lst []))
  have fl := fitIx_len d.rules z p m d.rules.length
  have nr40 := dok.nr
  have faF : fa ≠ F := fun z => by rw [z, upd_same] at hfa; cases hfa
  refine for_list (K := K) (a := fa) (xs := (fitL d.rules z p m).map nv) (fun j σ' H' => (∃ (o6 o7 o8 o9 : Option V) (es : List Addr) (ns : List (List Int × Nat)), σ' = [some v, some (.str z), some (.int (p : Int)), some (.int m), some (.ref B), some (.ref F), o6, o7, o8, o9] ∧ CAt H' F es ns ∧ ns.length ≤ j ∧ Cnd d.rules z p ((fitL d.rules z p m).take j) ns) ∧ Same H H' ∧ H' fa = some (.lst ((fitL d.rules z p m).map nv)))
    ⟨⟨_, _, _, _, [], [], rfl, ⟨hF1, rfl, fun i a c h => by simp at h⟩, Nat.le_refl _, ⟨fun c hc => (by cases hc), fun k hk => (by simp at hk)⟩⟩, s01, hf1⟩ (fun j σ' H' _ q => SqL.of q.2.2) ?_ ?_
  · rintro j u σ' H2 hu ⟨⟨o6, o7, o8, o9, es, ns, rfl, hC, nl, hCn⟩, s2, hf2⟩
    rw [List.getElem?_map] at hu
    obtain ⟨num, hnum, rfl⟩ := Option.map_eq_some_iff.mp hu
    have jl : j < (fitIx d.rules z p m d.rules.length).length := (List.getElem?_eq_some_iff.mp hnum).1
    obtain ⟨r, er, em, ef⟩ := mem_fitL.mp (List.mem_of_getElem? hnum)
    obtain ⟨x, dx, l, rfl, hx, ⟨ws, hl, wl, hw⟩⟩ := hT.same s2
    have nl2 := (List.getElem?_eq_some_iff.mp er).1
    have ew : ws[num]? = some (ws[num]'(by omega)) := List.getElem?_eq_getElem _
    have hr' := hw num _ r ew er
    generalize ws[num]'(by omega) = wv at ew hr'
    refine ⟨_, rfl, x, _, dx, _, _, rfl, hx, t.c_Table, t.n_Table_rules, lk_rules _ _, _, rfl, l, _, _, wv, rfl, rfl, SqL.of hl, atI_nat ew, ?_⟩
    obtain ⟨xr, dr, lr, rfl, hxr, hlr⟩ := hr'
    have ro := dok.ro r (List.mem_of_getElem? er)
    have rt := ro.tl
    have rc := ro.cl
    refine ⟨_, rfl, _, rfl, _, rfl, xr, _, dr, _, _, rfl, hxr, t.c_Rule, t.n_Rule_text, lk_text _ _, r.text, rfl, Nat.le_trans rt.2 (by decide), _, _, rfl, rfl, _, rfl, xr, _, dr, _, _, rfl, hxr, t.c_Rule, t.n_Rule_to, lk_to _ _, (by show 2 ≤ sizeLine; decide), fun kq hkq => ?_⟩
    have s3 : Same H2 (upd H2 kq (.tup [.int ((p : Int) + (r.text.length : Int)), .int r.to])) := Same.new hkq
    have hk3 : (upd H2 kq (.tup [.int ((p : Int) + (r.text.length : Int)), .int r.to])) kq = some (.tup ((kP (p + r.text.length) r.to).map kV)) := by
      rw [upd_same]
      show _ = some (HO.tup [.int ((p + r.text.length : Nat) : Int), .int r.to])
      rw [Int.natCast_add]
    show ∃ (aa : Addr) (vv : V), _ ∧ _
    have s23 := s2.trans s3
    generalize upd H2 kq (.tup [.int ((p : Int) + (r.text.length : Int)), .int r.to]) = H3 at s3 hk3 s23
    obtain ⟨u, hu1, hu2⟩ := hbv num (mem_fitL.mpr ⟨r, er, em, ef⟩) r er
    refine ⟨B, u, rfl, by rw [← hu1]; exact DGet.t (s23 _ _ hB) hk3, ?_⟩
    have hu3 := hu2.same s23
    refine ⟨_, rfl, rfl, _, rfl, ?_⟩
    rw [List.take_add_one, hnum]
    rcases hu3 with ⟨rfl, hno⟩ | ⟨q, lq, w2, rfl, hq, hlq, hL⟩
    · refine iteF ⟨⟨_, _, _, _, es, ns, rfl, ⟨s3 _ _ hC.at_, hC.len, fun i a c e1 e2 => ?_⟩, by omega, ⟨fun c hc => ?_, fun k' hk' r' w' e1 e2 => ?_⟩⟩, s23, s3 _ _ hf2⟩
      · obtain ⟨lx, h1, h2, h3⟩ := hC.el i a c e1 e2
        exact ⟨lx, s3 _ _ h1, s3 _ _ h2, h3⟩
      · obtain ⟨r', w', h1, h2⟩ := hCn.to c hc
        exact ⟨r', w', List.mem_append_left _ h1, h2⟩
      · rcases List.mem_append.mp hk' with h | h
        · exact hCn.of k' h r' w' e1 e2
        · rw [show k' = num from List.mem_singleton.mp h] at e1
          obtain rfl := Option.some.inj (er.symm.trans e1)
          exact absurd e2.way (hno w')
    · have w100 := hcl _ _ _ (fits_le ro (Nat.le_of_lt pz) ef) hL.way
      refine iteT ?_
      have hx3 := s3 _ _ hxr
      have hl3 := s3 _ _ hlr
      refine ⟨_, rfl, xr, _, dr, _, _, rfl, hx3, t.c_Rule, t.n_Rule_cells, lk_cells _ _, _, rfl, q, _, _, .ref lq, rfl, rfl, SqT.of hq, atI_nat (j := 1) rfl, lr, lq, _, _, rfl, rfl, hl3, hlq, ?_, fun p1 hp1 => ?_⟩
      · rw [List.length_map, List.length_map]
        exact Nat.le_trans (show _ ≤ 100100 by omega) (by decide)
      rw [← List.map_append]
      have s4 : Same H3 (upd H3 p1 (.lst ((r.cells ++ cellsF d.rules w2).map V.int))) := Same.new hp1
      have h4 : (upd H3 p1 (.lst ((r.cells ++ cellsF d.rules w2).map V.int))) p1 = some (.lst ((r.cells ++ cellsF d.rules w2).map V.int)) := upd_same
      have n1F : p1 ≠ F := fun z => by rw [z, s3 _ _ hC.at_] at hp1; cases hp1
      generalize upd H3 p1 (.lst ((r.cells ++ cellsF d.rules w2).map V.int)) = H4 at s4 h4
      have s24 := s3.trans s4
      refine ⟨_, rfl, .inl ⟨rfl, _, SqL.of (s24 _ _ hC.at_)⟩, _, rfl, p1, _, rfl, .inl (SqL.of h4), _, rfl, _, rfl, (by show 3 ≤ sizeLine; decide), fun c1 hc1 => ?_⟩
      rw [List.length_map]
      have s5 : Same H4 (upd H4 c1 (.tup [.int ((r.cells ++ cellsF d.rules w2).length : Int), .ref p1, nv num])) := Same.new hc1
      have h5 : (upd H4 c1 (.tup [.int ((r.cells ++ cellsF d.rules w2).length : Int), .ref p1, nv num])) c1 = some (.tup [.int ((r.cells ++ cellsF d.rules w2).length : Int), .ref p1, nv num]) := upd_same
      have c1F : c1 ≠ F := fun z => by rw [z, s24 _ _ hC.at_] at hc1; cases hc1
      generalize upd H4 c1 (.tup [.int ((r.cells ++ cellsF d.rules w2).length : Int), .ref p1, nv num]) = H5 at s5 h5
      have s25 := s24.trans s5
      have hF5 := s25 _ _ hC.at_
      refine ⟨F, _, _, rfl, rfl, hF5, by rw [List.length_map, hC.len]; exact small1 (by omega), ⟨_, _, _, _, es ++ [c1], ns ++ [(r.cells ++ cellsF d.rules w2, num)], rfl, ?_, by rw [List.length_append]; exact Nat.succ_le_succ nl, ⟨fun c hc => ?_, fun k' hk' r' w' e1 e2 => ?_⟩⟩, Same.put (s2.trans s25) hF, ?_⟩
      · have := hC.push s25 (R := r.cells ++ cellsF d.rules w2) (k := num) h5 (s5 _ _ h4) c1F n1F
        rw [List.map_append] at this
        exact this
      · rcases List.mem_append.mp hc with h | h
        · obtain ⟨r', w', h1, h2⟩ := hCn.to c h
          exact ⟨r', w', List.mem_append_left _ h1, h2⟩
        · rw [List.mem_singleton.mp h]
          exact ⟨r, w2, List.mem_append_right _ (List.mem_singleton.mpr rfl), er, hL, rfl⟩
      · rcases List.mem_append.mp hk' with h | h
        · exact List.mem_append_left _ (hCn.of k' h r' w' e1 e2)
        · have ek : k' = num := List.mem_singleton.mp h
          rw [ek] at e1 ⊢
          obtain rfl := Option.some.inj (er.symm.trans e1)
          rw [e2.one hL]
          exact List.mem_append_right _ (List.mem_singleton.mpr rfl)
      · rw [upd_ne faF]
        exact s25 _ _ hf2
  · rintro σ' H2 ⟨⟨o6, o7, o8, o9, es, ns, rfl, hC, nl, hCn⟩, s2, hf2⟩
    have hds : ∀ (es : List Addr) (ns : List (List Int × Nat)), es.length = ns.length → (∀ (i : Nat) a c, es[i]? = some a → ns[i]? = some c → ∃ l, H2 a = some (.tup [.int (c.1.length : Int), .ref l, nv c.2]) ∧ H2 l = some (.lst (c.1.map V.int)) ∧ l ≠ F) → DpAll K H2 (es.map V.ref) (ns.map fun c => cndD c.1 c.2) := by
      intro es
      induction es with
      | nil => intro ns e _; cases ns with
        | nil => exact .nil
        | cons => cases e
      | cons a es ih => intro ns e h; cases ns with
        | nil => cases e
        | cons c ns =>
          obtain ⟨l, h1, h2, _⟩ := h 0 a c rfl rfl
          exact .cons (.tup (SqT.of h1) (.cons (.int _) (.cons (dp_ints (SqL.of h2)) (.cons (.int _) .nil)))) (ih ns (by simpa using e) fun i a' c' q1 q2 => h (i + 1) a' c' q1 q2)
    refine ⟨_, rfl, ?_⟩
    show rMinDef K [V.ref F] [V.non] H2 _
    unfold rMinDef
    rw [List.length_map] at hCn
    refine ⟨F, es.map V.ref, ns.map fun c => cndD c.1 c.2, .non, rfl, rfl, SqL.of hC.at_, hds es ns hC.len hC.el, ?_, ?_, fun e0 => ?_, fun x r er i v1 hi hm => ?_⟩
    · refine ⟨fun x hx y hy => ?_, fun x hx => ?_⟩
      · obtain ⟨c1, _, rfl⟩ := List.mem_map.mp hx
        obtain ⟨c2, _, rfl⟩ := List.mem_map.mp hy
        exact cnd_alike _ _ _ _
      · obtain ⟨c1, _, rfl⟩ := List.mem_map.mp hx
        exact fun z => by cases z
    · exact cnd_deps _
    · have n0 : ns = [] := List.map_eq_nil_iff.mp e0
      refine k _ H2 s2 (.inl ⟨rfl, fun w hw => ?_⟩)
      cases w with
      | nil =>
        have : p = z.length := hw
        omega
      | cons j w =>
        obtain ⟨r, e, em, ef, hw2⟩ := hw
        obtain ⟨u, hu1, hu2⟩ := hbv j (mem_fitL.mpr ⟨r, e, em, ef⟩) r e
        rcases hu2 with ⟨_, hno⟩ | ⟨_, _, w3, _, _, _, hL⟩
        · exact hno w hw2
        · have := hCn.of j (by rw [List.take_length]; exact mem_fitL.mpr ⟨r, e, em, ef⟩) r w3 e hL
          rw [n0] at this
          cases this
    · rw [List.getElem?_map] at hi
      obtain ⟨a, ha, rfl⟩ := Option.map_eq_some_iff.mp hi
      have il := (List.getElem?_eq_some_iff.mp ha).1
      rw [hC.len] at il
      have hc : ns[i]? = some ns[i] := List.getElem?_eq_getElem il
      have hcm := List.getElem_mem il
      obtain ⟨l, h1, h2, _⟩ := hC.el i a _ ha hc
      generalize ns[i] = c at hc hcm h1 h2
      have hmin : minD x r = cndD c.1 c.2 := by
        rw [← hm, List.getD_eq_getElem?_getD, List.getElem?_map, hc]
        rfl
      obtain ⟨rr, w2, hk, hr2, hL, hR⟩ := hCn.to c hcm
      rw [List.take_length] at hk
      obtain ⟨r3, e3, em, ef⟩ := mem_fitL.mp hk
      obtain rfl := Option.some.inj (hr2.symm.trans e3)
      have hW : Least d.rules z p m (c.2 :: w2) := by
        refine Least.step pz e3 em ef hL (fun j s u e1 e2 e4 e5 => ?_) (fun j s u e1 e2 e4 e5 => ?_)
        · have hin := hCn.of j (by rw [List.take_length]; exact mem_fitL.mpr ⟨s, e1, e2, e4⟩) s u e1 e5
          have := minD_least r x (cndD (s.cells ++ cellsF d.rules u) j) (by rw [← er]; exact List.mem_map.mpr ⟨_, hin, rfl⟩)
          rw [hmin, lt_cnd, hR] at this
          exact this
        · obtain ⟨v', hv1, hv2⟩ := hbv j (mem_fitL.mpr ⟨s, e1, e2, e4⟩) s e1
          rcases hv2 with ⟨_, hno⟩ | ⟨_, _, w3, _, _, _, hL3⟩
          · exact absurd e5 (hno u)
          · exact ⟨w3, hL3⟩
      refine k _ H2 s2 (.inr ⟨a, l, c.2 :: w2, rfl, ?_, ?_, hW⟩)
      · rw [cellsF_cons e3, ← hR]; exact h1
      · rw [cellsF_cons e3, ← hR]; exact h2
end
end Sx

set_option Elab.async false
set_option linter.all false
set_option maxRecDepth 100000
set_option maxHeartbeats 2000000
namespace Sx
open PySem PySem.Spec PyProof.Rows L2 SxA PySem.W
theorem isW_len {rs : List RD} {z : Str} (ho : ∀ r ∈ rs, r.ok) : ∀ {w : List Nat} {p : Nat} {m : Int}, p ≤ z.length → IsW rs z p m w → w.length + p ≤ z.length ∧ (cellsF rs w).length ≤ 100 * w.length
  | [], p, m, pz, h => by
    have : p = z.length := h
    simp [cellsF]
    omega
  | k :: w, p, m, pz, h => by
    obtain ⟨r, e, _, ef, h2⟩ := h
    have ro := ho r (List.mem_of_getElem? e)
    have fl := fits_le ro pz ef
    obtain ⟨a, b⟩ := isW_len ho fl h2
    have t0 := ro.tl
    have c0 := ro.cl
    rw [cellsF_cons e, List.length_append, List.length_cons]
    omega
theorem dcT_list {K : PySem.W.Frag} {a : Addr} {xs : List V} {g : TG} {tt : TT} {tk tv : TE} {vs : List Nat} {σ : L2.St} {H1 : Hp} {D : Addr} {Qd : Hp → Prop} (Pv : Nat → Hp → Prop) (h0 : Pv 0 (upd H1 D (.dT []))) (hl : ∀ i H, i ≤ xs.length → Pv i H → SqL K H a xs)
    (hs : ∀ i x H, xs[i]? = some x → Pv i H → stepT g tt tk tv vs σ D x H (Pv (i + 1))) (hd : ∀ H, Pv xs.length H → Qd H) :
    ∃ W : Nat → Nat → Hp → Prop, (∃ m, W 0 m (upd H1 D (.dT []))) ∧ ∀ i m H2, W i m H2 →
      ((Itl K a).stop i H2 ∧ Qd H2) ∨ ((Itl K a).go i H2 ∧ ∃ N : Hp → Prop, (∀ H3, N H3 → ∃ n, n < m ∧ W (i + 1) n H3) ∧ ∀ x H3, (Itl K a).yld i H2 x H3 → stepT g tt tk tv vs σ D x H3 N) := by
  refine ⟨fun i m H => m = xs.length - i ∧ i ≤ xs.length ∧ Pv i H, ⟨xs.length, by simp, Nat.zero_le _, h0⟩, ?_⟩
  rintro i m H ⟨rfl, hi, p⟩
  have q := hl i H hi p
  cases Nat.lt_or_eq_of_le hi with
  | inl lt =>
    refine Or.inr ⟨⟨xs, xs[i], q, by simp [lt]⟩, Pv (i + 1), ?_, ?_⟩
    · exact fun H' p' => ⟨xs.length - (i + 1), by omega, rfl, lt, p'⟩
    · rintro x H' ⟨rfl, y⟩
      exact hs i x _ (y xs q) p
  | inr e =>
    subst e
    exact Or.inl ⟨⟨xs, q, Nat.le_refl _⟩, hd H p⟩
def BAll (H : Hp) (rs : List RD) (z : Str) (kvs : List (List L2.Key × V)) (P : Nat → Int → Prop) : Prop := ∀ p m, P p m → ∃ u, valV kvs (kP p m) = some u ∧ BV H rs z p m u
theorem kP_inj {p q : Nat} {m j : Int} (h : kP p m = kP q j) : p = q ∧ m = j := by
  have h1 := List.cons.inj h
  have a := Sum.inl.inj h1.1
  have b := Sum.inl.inj (List.cons.inj h1.2).1
  exact ⟨by omega, b⟩
theorem BAll.put {H : Hp} {rs : List RD} {z : Str} {kvs : List (List L2.Key × V)} {P P' : Nat → Int → Prop} {B : Addr} {p : Nat} {m : Int} {u : V} (h : BAll H rs z kvs P) (hB : H B = some (.dT kvs)) (hu : BV H rs z p m u) (hP : ∀ q j, P' q j → P q j ∨ (q = p ∧ j = m)) :
    BAll (upd H B (.dT (putK kvs (kP p m) u))) rs z (putK kvs (kP p m) u) P' := fun q j hq => by
  rw [valV_put]
  by_cases e : kP q j = kP p m
  · obtain ⟨rfl, rfl⟩ := kP_inj e
    rw [if_pos rfl]
    exact ⟨u, rfl, hu.dict hB⟩
  · rw [if_neg e]
    rcases hP q j hq with h1 | ⟨rfl, rfl⟩
    · obtain ⟨v, a, b⟩ := h q j h1
      exact ⟨v, a, b.dict hB⟩
    · exact absurd rfl e
theorem asc_len : ∀ (l : List Int) (a b : Int), (∀ x ∈ l, a ≤ x ∧ x < b) → l.Pairwise (· < ·) → a ≤ b → (l.length : Int) ≤ b - a
  | [], a, b, _, _, h => by simp; omega
  | x :: r, a, b, h, p, _ => by
    have hx := h x List.mem_cons_self
    have p2 := List.pairwise_cons.mp p
    have := asc_len r (x + 1) b (fun y hy => ⟨by have := p2.1 y hy; omega, (h y (List.mem_cons_of_mem _ hy)).2⟩) p2.2 (by omega)
    rw [List.length_cons]
    omega
theorem BAll.mono {H H' : Hp} {rs : List RD} {z : Str} {kvs : List (List L2.Key × V)} {P P' : Nat → Int → Prop} (h : BAll H rs z kvs P) (s : Same H H') (hP : ∀ q j, P' q j → P q j) : BAll H' rs z kvs P' := fun q j hq => by
  obtain ⟨v, a, b⟩ := h q j (hP q j hq)
  exact ⟨v, a, b.same s⟩
structure TBest (d : TD) : Prop where
  ok : d.ok
  to : ∀ r ∈ d.rules, 0 ≤ r.to ∧ r.to < d.modes
  nr : d.rules.length ≤ 40
  mo : 1 ≤ d.modes ∧ d.modes ≤ 10
def spBests (K : PySem.W.Frag) : Sp := fun vs H Q _ => ∃ (v : V) (d : TD) (z : Str), vs = [v, .str z] ∧ TableO K H v d ∧ TBest d ∧ z.length ≤ 10 ∧
  ∀ B kvs H', Same H H' → H' B = some (.dT kvs) → BAll H' d.rules z kvs (fun p m => p ≤ z.length ∧ 0 ≤ m ∧ m < d.modes) → Q (.ref B) H'
section
variable {P : Program} {w : World} {K : PySem.W.Frag} {mg : Str → Option Value} {base : Heap}
abbrev nsBestChoices : List Str := ["table", "text", "modes", "best", "mode", "place"]
theorem scBestChoices : FnScope nsBestChoices ["table", "text"] (defScope sBestChoices) := ⟨rfl, rfl, rfl, by decide +kernel, rfl, by decide +kernel, by decide +kernel⟩
theorem ok_best_choices (t : T K mg) : Ok P w K mg base 5 "best_choices" ["table", "text"] (spBests K) := by
  refine mkOk t.d_best_choices t.g_best_choices scBestChoices (fun vs H Q E h => ?_) (fun _ _ _ _ _ _ us hl => match us, hl with | [_, _], _ => rfl) fun cdv A outer s H vs Q E hr h => ?_
  · obtain ⟨v, d, z, rfl, _⟩ := h; rfl
  obtain ⟨v, d, z, rfl, hT, T, zl, k⟩ := h
  have hr1 : Room 1 _ := hr.mono (by decide)
  have hr4 : Room 4 _ := hr.mono (by decide)
  have hu0 : (cxOf CX0 P w K mg base nsBestChoices "best_choices" (defScope sBestChoices) (He.ga K "best_choices") cdv A outer s H E).nox.A.units < cLine := by
    have := hr.un
    show (A.deeper (envOfC "best_choices" (defScope sBestChoices) s.heap.objs.size (He.ga K "best_choices") cdv)).units < cLine
    omega
  refine ⟨_, pss_cons (ps_set (i := 2) scBestChoices.nd rfl (Or.inl rfl) (pe_ok (ok_modes_of t) hr1 rfl (pa_cons (pv 0) pa_nil)))
    (pss_cons (ps_setDcT (i := 3) (own := [("mode", 4)]) (g := gName 4) (tt := tYes) rfl hu0 scBestChoices.nd rfl rfl (swD_true rfl rfl rfl (by decide +kernel)) (pi_list (pv 2)) (blkOk_by (own := [("mode", 4)]) (N := nsBestChoices) (sc := defScope sBestChoices) (by decide +kernel)) (fun _ _ _ _ _ => pg_name (i := 4) scBestChoices.nd rfl (Or.inl rfl)) (fun _ _ _ _ _ => pts_nil) (fun _ _ _ _ _ => (pe_tup (pa_cons (pe_callB call_len_str rfl t.f_len boot_len (pa_cons (pv 1) pa_nil)) (pa_cons (pv 4) pa_nil)))) (fun _ _ _ _ _ => (pe_tup (pa_cons pe_int (pa_cons (pe_lst pa_nil) (pa_cons pe_non pa_nil))))))
    (pss_cons (ps_for PassesOwn.never rfl (pi_range3 rfl t.f_range (pa_cons (pe_op op_sub (pe_callB call_len_str rfl t.f_len boot_len (pa_cons (pv 1) pa_nil)) pe_int) (pa_cons (pe_un un_neg pe_int) (pa_cons (pe_un un_neg pe_int) pa_nil)))) (pg_name (i := 5) scBestChoices.nd rfl (Or.inl rfl))
      (pss_one (ps_for PassesOwn.never rfl (pi_list (pv 2)) (pg_name (i := 4) scBestChoices.nd rfl (Or.inl rfl))
      (pss_one (ps_dput (hu_of hr) (pv 3) (pe_tup (pa_cons (pv 5) (pa_cons (pv 4) pa_nil))) (pe_ok (ok_best_choice t) hr4 rfl (pa_cons (pv 0) (pa_cons (pv 1) (pa_cons (pv 5) (pa_cons (pv 4) (pa_cons (pv 3) pa_nil)))))) rfl)))))
    (pss_one (ps_ret (pv 3))))), ?_⟩
  refine ⟨_, rfl, v, d, rfl, hT, T.nr, T.to, T.mo.1, T.mo.2, fun qm ms H1 hqm s1 hms M => ?_⟩
  have mo := T.mo
  have msl : ms.length ≤ 10 := by
    have := asc_len ms 0 d.modes (fun x hx => (M.mem x).mp hx) M.asc (by omega)
    omega
  have zs : z.length ≤ sizeLine := Nat.le_trans zl (by decide)
  refine ⟨_, rfl, qm, rfl, ⟨_, SqL.of hms⟩, fun B hB => ?_⟩
  have nmB : qm ≠ B := fun z => by rw [z, hB] at hms; cases hms
  have hB0 : H B = none := Sx.Same.none s1 _ hB
  refine dcT_list (K := K) (a := qm) (xs := ms.map V.int) (fun j H' => (∃ kvs : List (List L2.Key × V), H' B = some (.dT kvs) ∧ kvs.length ≤ j ∧ BAll H' d.rules z kvs (fun p m => p = z.length ∧ m ∈ ms.take j)) ∧ Same H1 H')
    ⟨⟨[], upd_same, Nat.le_refl _, fun p m h => by have := h.2; simp at this⟩, Same.new hB⟩ (fun j H' _ q => SqL.of (q.2 _ _ hms)) ?_ ?_
  · rintro j x H2 hx ⟨⟨kvs, hB2, kl, hA⟩, s2⟩
    rw [List.getElem?_map] at hx
    obtain ⟨m, hm, rfl⟩ := Option.map_eq_some_iff.mp hx
    have jl := (List.getElem?_eq_some_iff.mp hm).1
    refine ⟨rfl, ?_⟩
    refine ⟨_, rfl, z, rfl, zs, _, rfl, (by show 2 ≤ sizeLine; decide), fun kq hkq => ?_⟩
    have s3 : Same H2 (upd H2 kq (.tup [.int (z.length : Int), .int m])) := Same.new hkq
    have hk3 : (upd H2 kq (.tup [.int (z.length : Int), .int m])) kq = some (.tup ((kP z.length m).map kV)) := upd_same
    refine ⟨(by show 0 ≤ sizeLine; decide), fun le hle => ?_⟩
    have s4 := s3.trans (Same.new (o := .lst []) hle)
    refine ⟨(by show 3 ≤ sizeLine; decide), fun vq hvq => ?_⟩
    have s5a : Same (upd (upd H2 kq (.tup [.int (z.length : Int), .int m])) le (.lst [])) (upd (upd (upd H2 kq (.tup [.int (z.length : Int), .int m])) le (.lst [])) vq (.tup [.int 0, .ref le, .non])) := Same.new hvq
    have s5 := s4.trans s5a
    have hB5 := s5 _ _ hB2
    refine ⟨kvs, kP z.length m, kq, rfl, s5a _ _ (Same.new (o := .lst []) hle _ _ hk3), hB5, small1 (by omega), ⟨_, upd_same, Nat.le_trans (length_putK _ _ _) (by omega), ?_⟩, Same.put (s2.trans s5) hB⟩
    refine BAll.put (P := fun p m => p = z.length ∧ m ∈ ms.take j) (hA.mono s5 fun _ _ h => h) hB5 (.inr ⟨vq, le, [], rfl, upd_same, ?_, Least.fin T.ok.ro⟩) fun q i hq => ?_
    · exact s5a _ _ upd_same
    · obtain ⟨a, b⟩ := hq
      rw [List.take_add_one, hm] at b
      rcases List.mem_append.mp b with h | h
      · exact .inl ⟨a, h⟩
      · exact .inr ⟨a, List.mem_singleton.mp h⟩
  rintro H2 ⟨⟨kvs, hB2, kl, hA⟩, s2⟩
  rw [List.length_map] at kl hA
  rw [List.take_length] at hA
  refine ⟨_, rfl, z, rfl, zs, _, _, rfl, rfl, _, rfl, _, rfl, _, _, _, _, rfl, RgC.neg (by omega) (by omega) (by omega) (by omega), ?_⟩
  have eN : ((z.length : Int) - 1 - -1).toNat = z.length := by omega
  rw [eN]
  refine for_rangeC (lo := (z.length : Int) - 1) (c := -1) (n := z.length) (fun i σ' H' => (∃ o4 o5 : Option V, σ' = [some v, some (.str z), some (.ref qm), some (.ref B), o4, o5]) ∧ Same H H' ∧ H' qm = some (.lst (ms.map V.int)) ∧ ∃ kvs : List (List L2.Key × V), H' B = some (.dT kvs) ∧ kvs.length ≤ 10 * (i + 1) ∧ BAll H' d.rules z kvs (fun p m => z.length - i ≤ p ∧ p ≤ z.length ∧ m ∈ ms))
    ⟨⟨_, _, rfl⟩, s1.trans s2, s2 _ _ hms, kvs, hB2, by omega, hA.mono (fun _ _ e => e) fun q j h => ⟨by omega, h.2.2⟩⟩ ?_ ?_
  · rintro i σ' H3 hi ⟨⟨o4, o5, rfl⟩, s3, hms3, kvs, hB3, kl3, hA3⟩
    obtain ⟨c, hc⟩ : ∃ c, c + i + 1 = z.length := ⟨z.length - i - 1, by omega⟩
    have ec : (z.length : Int) - 1 + (i : Int) * -1 = (c : Int) := by omega
    rw [ec]
    rw [show z.length - i = c + 1 by omega] at hA3
    refine ⟨_, rfl, qm, rfl, ⟨_, SqL.of hms3⟩, ?_⟩
    refine for_list (K := K) (a := qm) (xs := ms.map V.int) (fun j σ' H' => (∃ o4 : Option V, σ' = [some v, some (.str z), some (.ref qm), some (.ref B), o4, some (nv c)]) ∧ Same H H' ∧ H' qm = some (.lst (ms.map V.int)) ∧ ∃ kvs : List (List L2.Key × V), H' B = some (.dT kvs) ∧ kvs.length ≤ 10 * (i + 1) + j ∧ BAll H' d.rules z kvs (fun p m => (c + 1 ≤ p ∧ p ≤ z.length ∧ m ∈ ms) ∨ (p = c ∧ m ∈ ms.take j)))
      ⟨⟨_, rfl⟩, s3, hms3, kvs, hB3, by omega, hA3.mono (fun _ _ e => e) fun q j h => ?_⟩ (fun j σ' H' _ q => SqL.of q.2.2.1) ?_ ?_
    · rcases h with h | h
      · exact h
      · have := h.2
        simp at this
    · rintro j x σ' H4 hx ⟨⟨o4, rfl⟩, s4, hms4, kvs, hB4, kl4, hA4⟩
      rw [List.getElem?_map] at hx
      obtain ⟨m, hm, rfl⟩ := Option.map_eq_some_iff.mp hx
      have jl := (List.getElem?_eq_some_iff.mp hm).1
      refine ⟨_, rfl, _, rfl, _, rfl, _, rfl, _, rfl, v, d, z, c, m, B, kvs, rfl, hT.same s4, T.ok, by omega, by omega, hB4, fun k hk r er => ?_, fun q j w hq hw => ?_, fun u H5 s5 hu => ?_⟩
      · obtain ⟨r', er', em, ef⟩ := mem_fitL.mp hk
        obtain rfl := Option.some.inj (er.symm.trans er')
        have rm := List.mem_of_getElem? er
        have ro := T.ok.ro r rm
        have := ro.tl
        exact hA4 _ _ (.inl ⟨by omega, fits_le ro (by omega) ef, (M.mem _).mpr (T.to r rm)⟩)
      · have := isW_len T.ok.ro hq hw
        omega
      refine ⟨_, rfl, _, rfl, _, rfl, (by show 2 ≤ sizeLine; decide), fun K1 hK1 => ?_⟩
      have s6 : Same H5 (upd H5 K1 (.tup [nv c, .int m])) := Same.new hK1
      have h6 : (upd H5 K1 (.tup [nv c, .int m])) K1 = some (.tup ((kP c m).map kV)) := upd_same
      have s56 := s5.trans s6
      refine ⟨B, _, rfl, DPut.t (k := kP c m) (s56 _ _ hB4) h6 (small1 (by omega)), ⟨_, rfl⟩, Same.put (s4.trans s56) hB0, ?_, _, upd_same, Nat.le_trans (length_putK _ _ _) (by omega), ?_⟩
      · rw [upd_ne nmB]
        exact s56 _ _ hms4
      · refine BAll.put (P := fun p m => (c + 1 ≤ p ∧ p ≤ z.length ∧ m ∈ ms) ∨ (p = c ∧ m ∈ ms.take j)) (hA4.mono s56 fun _ _ h => h) (s56 _ _ hB4) (hu.same s6) fun q i hq => ?_
        rcases hq with h | ⟨rfl, h⟩
        · exact .inl (.inl h)
        · rw [List.take_add_one, hm] at h
          rcases List.mem_append.mp h with h | h
          · exact .inl (.inr ⟨rfl, h⟩)
          · exact .inr ⟨rfl, List.mem_singleton.mp h⟩
    · rintro σ' H4 ⟨⟨o4, rfl⟩, s4, hms4, kvs, hB4, kl4, hA4⟩
      rw [List.length_map] at kl4 hA4
      rw [List.take_length] at hA4
      refine ⟨⟨_, _, rfl⟩, s4, hms4, kvs, hB4, by omega, hA4.mono (fun _ _ e => e) fun q j h => ?_⟩
      by_cases qc : q = c
      · exact .inr ⟨qc, h.2.2⟩
      · exact .inl ⟨by omega, h.2⟩
  · rintro σ' H3 ⟨⟨o4, o5, rfl⟩, s3, hms3, kvs, hB3, kl3, hA3⟩
    exact ⟨_, rfl, k B kvs H3 s3 hB3 (hA3.mono (fun _ _ e => e) fun q j h => ⟨by omega, h.1, (M.mem j).mpr h.2⟩)⟩
end
end Sx

set_option Elab.async false
set_option linter.all false
set_option maxRecDepth 100000
set_option maxHeartbeats 2000000
namespace Sx
open PySem PySem.Spec PyProof.Rows L2 SxA PySem.W
theorem Least.tail {rs : List RD} {z : Str} {p : Nat} {m : Int} {k : Nat} {w : List Nat} {r : RD} (e : rs[k]? = some r) (h : Least rs z p m (k :: w)) : r.mode = m ∧ fitsB r z p = true ∧ Least rs z (p + r.text.length) r.to w := by
  obtain ⟨r', e', em, ef, hw⟩ := h.way
  obtain rfl := Option.some.inj (e.symm.trans e')
  refine ⟨em, ef, hw, fun u hu => ?_⟩
  have q := h.le (k :: u) ⟨r, e, em, ef, hu⟩
  unfold ltW at q ⊢
  rw [cellsF_cons e, cellsF_cons e, ltR_pre] at q
  have e1 : ltI (natI (k :: u)) (natI (k :: w)) = ltI (natI u) (natI w) := ltI_pre [(k : Int)]
  rw [e1] at q
  have e2 : decide (r.cells ++ cellsF rs u = r.cells ++ cellsF rs w) = decide (cellsF rs u = cellsF rs w) := decide_eq_decide.mpr ⟨fun h => List.append_cancel_left h, fun h => by rw [h]⟩
  rw [e2] at q
  exact q
def spBestW (K : PySem.W.Frag) : Sp := fun vs H Q _ => ∃ (v : V) (d : TD) (z : Str), vs = [v, .str z] ∧ TableO K H v d ∧ TBest d ∧ z.length ≤ 10 ∧
  (∀ H', Same H H' → (∀ w, ¬ IsW d.rules z 0 0 w) → Q .non H') ∧
  ∀ q lr lw w H', Same H H' → Least d.rules z 0 0 w → H' q = some (.tup [.ref lr, .ref lw]) → H' lr = some (.lst ((cellsF d.rules w).map V.int)) → H' lw = some (.lst (w.map nv)) → Q (.ref q) H'
section
variable {P : Program} {w : World} {K : PySem.W.Frag} {mg : Str → Option Value} {base : Heap}
abbrev nsBestWriting : List Str := ["table", "text", "best", "way", "place", "mode", "rule"]
theorem scBestWriting : FnScope nsBestWriting ["table", "text"] (defScope sBestWriting) := ⟨rfl, rfl, rfl, by decide +kernel, rfl, by decide +kernel, by decide +kernel⟩
theorem ok_best_writing (t : T K mg) : Ok P w K mg base 6 "best_writing" ["table", "text"] (spBestW K) := by
  refine mkOk t.d_best_writing t.g_best_writing scBestWriting (fun vs H Q E h => ?_) (fun _ _ _ _ _ _ us hl => match us, hl with | [_, _], _ => rfl) fun cdv A outer s H vs Q E hr h => ?_
  · obtain ⟨v, d, z, rfl, _⟩ := h; rfl
  obtain ⟨v, d, z, rfl, hT, T, zl, k0, k1⟩ := h
  have hr5 : Room 5 _ := hr.mono (by decide)
  refine ⟨_, pss_cons (ps_set (i := 2) scBestWriting.nd rfl (Or.inl rfl) (pe_ok (ok_best_choices t) hr5 rfl (pa_cons (pv 0) (pa_cons (pv 1) pa_nil))))
    (pss_cons (ps_if (pt_cmpR op_isN (pe_dget (hu_of hr) (pv 2) (pe_tup (pa_cons pe_int (pa_cons pe_int pa_nil))) (fun _ _ => rfl)) pe_non (nomark _))
      (pss_one (ps_ret pe_non))
      pss_nil)
    (pss_cons (ps_set (i := 3) scBestWriting.nd rfl (Or.inl rfl) (pe_lst pa_nil))
    (pss_cons (ps_set (i := 4) scBestWriting.nd rfl (Or.inl rfl) pe_int)
    (pss_cons (ps_set (i := 5) scBestWriting.nd rfl (Or.inl rfl) pe_int)
    (pss_cons (ps_while PassesOwn.never (pt_cmpR op_lt (pv 4) (pe_callB call_len_str rfl t.f_len boot_len (pa_cons (pv 1) pa_nil)) (nomark _))
      (pss_cons (ps_set (i := 6) scBestWriting.nd rfl (Or.inl rfl) (pe_ix ix_list (pe_fld (pv 0) rfl) (pe_ix ix_tup (pe_dget (hu_of hr) (pv 2) (pe_tup (pa_cons (pv 4) (pa_cons (pv 5) pa_nil))) (fun _ _ => rfl)) pe_int (fun _ _ => rfl)) (fun _ _ => rfl)))
    (pss_cons (ps_expr (pe_bm PySem.F.plainAttrs_list PySem.F.slot_list_append PySem.F.type_list_append mt_append (pv 3) (pa_cons (pe_ix ix_tup (pe_dget (hu_of hr) (pv 2) (pe_tup (pa_cons (pv 4) (pa_cons (pv 5) pa_nil))) (fun _ _ => rfl)) pe_int (fun _ _ => rfl)) pa_nil)))
    (pss_cons (ps_aug (i := 4) scBestWriting.nd rfl (Or.inl rfl) (pe_callB call_len_str rfl t.f_len boot_len (pa_cons (pe_fld (pv 6) rfl) pa_nil)) iop_add)
    (pss_one (ps_set (i := 5) scBestWriting.nd rfl (Or.inl rfl) (pe_fld (pv 6) rfl)))))))
    (pss_one (ps_ret (pe_tup (pa_cons (pe_ix ix_tup (pe_dget (hu_of hr) (pv 2) (pe_tup (pa_cons pe_int (pa_cons pe_int pa_nil))) (fun _ _ => rfl)) pe_int (fun _ _ => rfl)) (pa_cons (pv 3) pa_nil)))))))))), ?_⟩
  have mo := T.mo
  refine ⟨_, rfl, _, rfl, v, d, z, rfl, hT, T, zl, fun B kvs H1 s1 hB hA => ?_⟩
  refine ⟨_, rfl, (by show 2 ≤ sizeLine; decide), fun K1 hK1 => ?_⟩
  have s2 : Same H1 (upd H1 K1 (.tup [.int 0, .int 0])) := Same.new hK1
  have h2 : (upd H1 K1 (.tup [.int 0, .int 0])) K1 = some (.tup ((kP 0 0).map kV)) := upd_same
  generalize upd H1 K1 (.tup [.int 0, .int 0]) = H2 at s2 h2
  obtain ⟨u, hu1, hu2⟩ := hA 0 0 ⟨Nat.zero_le _, by omega, by omega⟩
  have hB2 := s2 _ _ hB
  refine ⟨B, u, rfl, by rw [← hu1]; exact DGet.t hB2 h2, ?_⟩
  have hu3 := hu2.same s2
  have hA2 : BAll H2 d.rules z kvs _ := hA.mono s2 fun _ _ h => h
  have s12 := s1.trans s2
  refine ⟨rfl, _, rfl, ?_⟩
  rcases hu3 with ⟨rfl, hno⟩ | ⟨q0, l0, w0, rfl, hq0, hl0, hL0⟩
  · exact iteT (k0 H2 s12 hno)
  refine iteF ?_
  refine ⟨(by show 0 ≤ sizeLine; decide), fun D hD => ?_⟩
  have hD0 : H D = none := Sx.Same.none s12 _ hD
  have hD1 : H2 D = none := hD
  have w0l := isW_len T.ok.ro (Nat.zero_le _) hL0.way
  have nBD : B ≠ D := fun e => by rw [← e, hB2] at hD; cases hD
  refine ⟨fun μ σ' H' => ∃ (p : Nat) (m : Int) (o6 : Option V) (u w' : List Nat), σ' = [some v, some (.str z), some (.ref B), some (.ref D), some (.int (p : Int)), some (.int m), o6] ∧ H' D = some (.lst (u.map nv)) ∧ u ++ w' = w0 ∧ Least d.rules z p m w' ∧ p ≤ z.length ∧ 0 ≤ m ∧ m < d.modes ∧ (∀ b o, H2 b = some o → H' b = some o) ∧ μ = z.length - p,
    ⟨_, 0, 0, _, [], w0, rfl, upd_same, rfl, hL0, Nat.zero_le _, by omega, by omega, Same.new hD, rfl⟩, ?_⟩
  rintro μ σ' H3 ⟨p, m, o6, u, w', rfl, hD3, euw, hL, pz, m0, m1, s3, rfl⟩
  have zs : z.length ≤ sizeLine := Nat.le_trans zl (by decide)
  have s13 : Same H H3 := s12.trans s3
  refine ⟨_, rfl, _, rfl, z, rfl, zs, _, _, rfl, rfl, _, rfl, ?_⟩
  refine ite2 (fun h1 => ?_) (fun h1 => ?_)
  · have pl : p < z.length := by have := of_decide_eq_true h1; omega
    cases w' with
    | nil =>
      have : p = z.length := hL.way
      omega
    | cons k w' =>
      obtain ⟨r, er, em, ef, hw⟩ := hL.way
      have rm := List.mem_of_getElem? er
      have ro := T.ok.ro r rm
      have rt := ro.tl
      have rto := T.to r rm
      obtain ⟨_, _, hL'⟩ := hL.tail er
      obtain ⟨y, hy1, hy2⟩ := hA p m ⟨pz, m0, m1⟩
      rcases (hy2.same s2).same s3 with ⟨rfl, hno⟩ | ⟨q, l, w3, rfl, hq, hl, hL3⟩
      · exact absurd hL.way (hno _)
      obtain rfl := hL3.one hL
      obtain ⟨x, dx, lx, rfl, hx, ⟨ws, hlx, wl, hws⟩⟩ := hT
      have kl := (List.getElem?_eq_some_iff.mp er).1
      have ew : ws[k]? = some (ws[k]'(by omega)) := List.getElem?_eq_getElem _
      have hr' := hws k _ r ew er
      generalize ws[k]'(by omega) = wv at ew hr'
      obtain ⟨xr, dr, lr, rfl, hxr, hlr⟩ := hr'
      refine ⟨fun σ' H' => ∃ (o6 : Option V), σ' = [some (.ref x), some (.str z), some (.ref B), some (.ref D), some (.int ((p + r.text.length : Nat) : Int)), some (.int r.to), o6] ∧ H' D = some (.lst ((u ++ [k]).map nv)) ∧ (∀ b o, H2 b = some o → H' b = some o), ?_, ?_⟩
      · rintro σ' H' ⟨o6, rfl, hD4, s4⟩
        exact ⟨z.length - (p + r.text.length), by omega, _, _, _, u ++ [k], w', rfl, hD4, by rw [List.append_assoc]; exact euw, hL', fits_le ro pz ef, rto.1, rto.2, s4, rfl⟩
      refine ⟨_, rfl, x, _, dx, _, _, rfl, s13 _ _ hx, t.c_Table, t.n_Table_rules, lk_rules _ _, _, rfl, _, rfl, _, rfl, (by show 2 ≤ sizeLine; decide), fun K3 hK3 => ?_⟩
      have s4 : Same H3 (upd H3 K3 (.tup [.int (p : Int), .int m])) := Same.new hK3
      have h4 : (upd H3 K3 (.tup [.int (p : Int), .int m])) K3 = some (.tup ((kP p m).map kV)) := upd_same
      generalize upd H3 K3 (.tup [.int (p : Int), .int m]) = H4 at s4 h4
      refine ⟨B, .ref q, rfl, by rw [← hy1]; exact DGet.t (s4 _ _ (s3 _ _ hB2)) h4, q, _, _, nv k, rfl, rfl, SqT.of (s4 _ _ hq), atI_nat (j := 2) rfl, lx, _, _, .ref xr, rfl, rfl, SqL.of (s4 _ _ (s13 _ _ hlx)), atI_nat ew, ?_⟩
      refine ⟨_, rfl, .inl ⟨rfl, _, SqL.of (s4 _ _ hD3)⟩, _, rfl, _, rfl, _, rfl, (by show 2 ≤ sizeLine; decide), fun K5 hK5 => ?_⟩
      have s5 : Same H4 (upd H4 K5 (.tup [.int (p : Int), .int m])) := Same.new hK5
      have h5 : (upd H4 K5 (.tup [.int (p : Int), .int m])) K5 = some (.tup ((kP p m).map kV)) := upd_same
      generalize upd H4 K5 (.tup [.int (p : Int), .int m]) = H5 at s5 h5
      have s35 := s4.trans s5
      have ul : u.length + (w'.length + 1) = w0.length := by rw [← euw, List.length_append, List.length_cons]
      refine ⟨B, .ref q, rfl, by rw [← hy1]; exact DGet.t (s35 _ _ (s3 _ _ hB2)) h5, q, _, _, nv k, rfl, rfl, SqT.of (s35 _ _ hq), atI_nat (j := 2) rfl, D, _, _, rfl, rfl, s35 _ _ hD3, by rw [List.length_map]; exact small1 (by omega), ?_⟩
      have hxr6 : (upd H5 D (.lst (u.map nv ++ [nv k]))) xr = some (.ins (He.ga K "Rule") dr (ruleF r lr)) := by
        rw [upd_ne (fun e => by have := s13 _ _ hxr; rw [e, hD3] at this; cases this)]
        exact s35 _ _ (s13 _ _ hxr)
      refine ⟨_, rfl, _, rfl, xr, _, dr, _, _, rfl, hxr6, t.c_Rule, t.n_Rule_text, lk_text _ _, r.text, rfl, Nat.le_trans rt.2 (by decide), _, _, rfl, rfl, ?_⟩
      refine ⟨_, rfl, xr, _, dr, _, _, rfl, hxr6, t.c_Rule, t.n_Rule_to, lk_to _ _, ⟨_, rfl, ?_, fun b o e => ?_⟩⟩
      · rw [upd_same, List.map_append]
        rfl
      · rw [upd_ne (fun e2 => by rw [e2, hD1] at e; cases e)]
        exact s35 _ _ (s3 _ _ e)
  · have pe : p = z.length := by
      have : ¬ ((p : Int) < (z.length : Int)) := fun h => h1 (decide_eq_true h)
      omega
    subst pe
    have w0' := isW_end T.ok.ro hL.way
    rw [w0', List.append_nil] at euw
    subst euw
    refine ⟨_, rfl, (by show 2 ≤ sizeLine; decide), fun K3 hK3 => ?_⟩
    have s4 : Same H3 (upd H3 K3 (.tup [.int 0, .int 0])) := Same.new hK3
    have h4 : (upd H3 K3 (.tup [.int 0, .int 0])) K3 = some (.tup ((kP 0 0).map kV)) := upd_same
    generalize upd H3 K3 (.tup [.int 0, .int 0]) = H4 at s4 h4
    have s24 : Same H2 H4 := fun b o e => s4 _ _ (s3 b o e)
    refine ⟨B, .ref q0, rfl, by rw [← hu1]; exact DGet.t (s24 _ _ hB2) h4, q0, _, _, .ref l0, rfl, rfl, SqT.of (s24 _ _ hq0), atI_nat (j := 1) rfl, _, rfl, (by show 2 ≤ sizeLine; decide), fun q hq => ?_⟩
    have s5 : Same H4 (upd H4 q (.tup [.ref l0, .ref D])) := Same.new hq
    exact k1 q l0 D u _ (s12.trans (s24.trans s5)) hL0 upd_same (s5 _ _ (s24 _ _ hl0)) (s5 _ _ (s4 _ _ hD3))
end
end Sx

set_option Elab.async false
set_option linter.all false
set_option maxRecDepth 100000
set_option maxHeartbeats 1000000
namespace Sx
open PySem PySem.Spec PyProof.Rows L2 SxA PySem.W
/-! ### accepted numbers stand below every way; made ones show the least -/
theorem good_le {d : TD} {z : Str} {ns : List (List Int)} (G : Good d z ns) (ho : ∀ r ∈ d.rules, r.ok) : ∀ {w : List Nat} {p : Nat} {m : Int}, p ≤ z.length → IsW d.rules z p m w → nAt ns p m ≤ ((cellsF d.rules w).length : Int)
  | [], p, m, pz, h => by
    have e : p = z.length := h
    subst e
    show nAt ns z.length m ≤ 0
    unfold nAt
    rw [List.getD_eq_getElem?_getD (l := ns.getD z.length [])]
    cases q : (ns.getD z.length [])[m.toNat]? with
    | none => exact Int.le_refl _
    | some x => exact G.last x (List.mem_of_getElem? q)
  | k :: w, p, m, pz, h => by
    obtain ⟨r, e, em, ef, h2⟩ := h
    have rm := List.mem_of_getElem? e
    have ro := ho r rm
    have fl := fits_le ro pz ef
    have rt := ro.tl
    have a := G.hold p (by omega) r rm ef
    have b := good_le G ho fl h2
    rw [em] at a
    rw [cellsF_cons e, List.length_append]
    omega
theorem made_good {d : TD} {z : Str} {u : Nat} {ns : List (List Int)} (M : Made d z u ns) (T : TNum d) : Good d z ns := by
  refine ⟨⟨M.mn.ln, M.mn.lm⟩, fun x hx => ?_, fun p hp r hr ef => ?_⟩
  · obtain ⟨i, hi⟩ := List.mem_iff_getElem?.mp hx
    have l := M.last (i : Int)
    unfold nAt at l
    rw [List.getD_eq_getElem?_getD (l := ns.getD z.length []), Int.toNat_natCast, hi] at l
    have : x = 0 := l
    omega
  · have mo := T.mo r hr
    exact (M.num p hp r.mode mo.1 mo.2).le r hr rfl ef
theorem isW_cells {rs : List RD} {z : Str} {M : Nat} (ho : ∀ r ∈ rs, r.ok) (hM : ∀ r ∈ rs, r.cells.length ≤ M) : ∀ {w : List Nat} {p : Nat} {m : Int}, p ≤ z.length → IsW rs z p m w → (cellsF rs w).length + M * p ≤ M * z.length
  | [], p, m, pz, h => by
    have e : p = z.length := h
    subst e
    show 0 + M * z.length ≤ _
    omega
  | k :: w, p, m, pz, h => by
    obtain ⟨r, e, _, ef, h2⟩ := h
    have rm := List.mem_of_getElem? e
    have ro := ho r rm
    have fl := fits_le ro pz ef
    have a := isW_cells ho hM fl h2
    have rt := ro.tl
    have rc := hM r rm
    have q : M * (p + 1) ≤ M * (p + r.text.length) := Nat.mul_le_mul_left _ (by omega)
    rw [Nat.mul_add, Nat.mul_one] at q
    rw [cellsF_cons e, List.length_append]
    omega
theorem made_least {d : TD} {z : Str} {u : Nat} {ns : List (List Int)} (M : Made d z u ns) (T : TNum d) : ∀ n p, p ≤ z.length → z.length ≤ p + n → ∀ m, 0 ≤ m → m < d.modes → (nAt ns p m = (u : Int) ∧ ∀ w, ¬ IsW d.rules z p m w) ∨ ∃ w, IsW d.rules z p m w ∧ nAt ns p m = ((cellsF d.rules w).length : Int)
  | 0, p, pz, hp, m, h0, h1 => by
    have e : p = z.length := by omega
    subst e
    exact .inr ⟨[], rfl, M.last m⟩
  | n + 1, p, pz, hp, m, h0, h1 => by
    by_cases pe : p = z.length
    · subst pe
      exact .inr ⟨[], rfl, M.last m⟩
    have G := made_good M T
    obtain ⟨B, hu, hB⟩ := M.ub
    have N := M.num p (by omega) m h0 h1
    rcases N.eq with h | ⟨r, hr, em, ef, h⟩
    · refine .inl ⟨h, fun w hw => ?_⟩
      have a := good_le G T.ok.ro (by omega) hw
      have b := isW_cells T.ok.ro hB (by omega) hw
      rw [h] at a
      have c : (cellsF d.rules w).length ≤ B * z.length := by omega
      omega
    · have ro := T.ok.ro r hr
      have rt := ro.tl
      have fl := fits_le ro (by omega) ef
      have rto := T.to r hr
      have rl : 0 < r.cells.length := List.length_pos_iff.mpr ro.c0
      obtain ⟨k, hk⟩ := List.mem_iff_getElem?.mp hr
      rcases made_least M T n (p + r.text.length) fl (by omega) r.to rto.1 rto.2 with ⟨q, _⟩ | ⟨w, hw, q⟩
      · exfalso
        have := N.xu
        rw [q] at h
        omega
      · refine .inr ⟨k :: w, ⟨r, hk, em, ef, hw⟩, ?_⟩
        rw [h, q, cellsF_cons hk, List.length_append]
        omega
theorem made_shows {d : TD} {z : Str} {u : Nat} {ns : List (List Int)} (M : Made d z u ns) (T : TNum d) (m1 : 0 < d.modes) {w : List Nat} (hL : Least d.rules z 0 0 w) : ((cellsF d.rules w).length : Int) = nAt ns 0 0 := by
  have a := good_le (made_good M T) T.ok.ro (Nat.zero_le _) hL.way
  rcases made_least M T z.length 0 (Nat.zero_le _) (by omega) 0 (Int.le_refl _) m1 with ⟨_, h⟩ | ⟨w2, hw, e⟩
  · exact absurd hL.way (h w)
  · have b := hL.le w2 hw
    have c := (Bool.or_eq_false_iff.mp b).1
    have d2 := (Bool.or_eq_false_iff.mp c).1
    have d3 : ¬ (cellsF d.rules w2).length < (cellsF d.rules w).length := of_decide_eq_false d2
    omega
end Sx

set_option Elab.async false
set_option linter.all false
set_option maxRecDepth 100000
set_option maxHeartbeats 2000000
namespace Sx
open PySem PySem.Spec PyProof.Rows L2 SxA PySem.W
theorem cutV_to {xs : List V} {n : Nat} (h : n ≤ xs.length) : cutV xs none (some (n : Int)) = xs.take n := by
  unfold cutV
  rw [HT.sIx_nat, Nat.min_eq_left h]
  simp [HT.sIx]
theorem cutV_from {xs : List V} {n : Nat} (h : n ≤ xs.length) : cutV xs (some (n : Int)) none = xs.drop n := by
  unfold cutV
  rw [HT.sIx_nat, Nat.min_eq_left h]
  simp only [HT.sIx]
  rw [List.take_of_length_le (by rw [List.length_drop]; exact Nat.le_refl _)]
theorem NLs.but {H H' : Hp} {d l p : Addr} {ns : List (List Int)} (h : NLs H p ns) (D : Dk H d l) (b : But d H H') : NLs H' p ns := by
  obtain ⟨as, h1, h2, h3⟩ := h.ex
  refine ⟨as, keepB D b h1 (fun l a b c z => ?_), h2, fun i a n e1 e2 => keepB D b (h3 i a n e1 e2) (ints_ne _)⟩
  have e := HO.lst.inj z
  match as, e with
  | _ :: _ :: _, e =>
    rw [List.map_cons, List.map_cons] at e
    cases (List.cons.inj (List.cons.inj e).2).1
theorem neI_nil {K : PySem.W.Frag} {H : Hp} {p q : Addr} {n : List Int} {Q : VK} (hp : H p = some (.lst (n.map V.int))) (hq : H q = some (.lst [])) (k : Q (.bl (!decide (n = []))) H) : rNeD K (.ref p) (.ref q) H Q := by
  refine ⟨pInts n, .list [], dp_ints (SqL.of hp), .lst (SqL.of hq) .nil, shaped_ints n, rfl, ?_⟩
  cases n <;> exact k
theorem LLs.but {H H' : Hp} {d l p : Addr} {ws : List (List Nat)} (h : LLs H p ws) (D : Dk H d l) (b : But d H H') : LLs H' p ws := by
  obtain ⟨as, h1, h2, h3⟩ := h.ex
  refine ⟨as, keepB D b h1 (fun l a b c z => ?_), h2, fun i a n e1 e2 => keepB D b (h3 i a n e1 e2) (by rw [← natI_nv]; exact ints_ne _)⟩
  have e := HO.lst.inj z
  match as, e with
  | _ :: _ :: _, e =>
    rw [List.map_cons, List.map_cons] at e
    cases (List.cons.inj (List.cons.inj e).2).1
/-- what the law holds on the way -/
structure LN (K : PySem.W.Frag) (H : Hp) (d l a : Addr) (v : V) (q : Addr) (t : TD) (z : Str) : Prop where
  dk : Dk H d l
  ru : RulesO H a t
  tb : TableO K H v t
  wy : LLs H q (waysN t.rules z 5 0 0)
theorem LN.same {K : PySem.W.Frag} {H H' : Hp} {d l a q : Addr} {v : V} {t : TD} {z : Str} (h : LN K H d l a v q t z) (s : Same H H') : LN K H' d l a v q t z := ⟨h.dk.same s, h.ru.same s, h.tb.same s, h.wy.same s⟩
theorem LN.but {K : PySem.W.Frag} {H H' : Hp} {d l a q : Addr} {v : V} {t : TD} {z : Str} (h : LN K H d l a v q t z) (D : Dk H' d l) (b : But d H H') : LN K H' d l a v q t z := ⟨D, h.ru.but h.dk b, h.tb.but h.dk b, h.wy.but h.dk b⟩
theorem TD.dr.num {t : TD} (h : t.dr) : TNum t := by
  have ln := h.ln
  have mo := h.mo
  exact ⟨⟨by omega, fun r hr => (h.ru r hr).ok⟩, fun r hr => (h.ru r hr).to, fun r hr => (h.ru r hr).mo, by omega, by omega⟩
theorem TD.dr.best {t : TD} (h : t.dr) : TBest t := by
  have ln := h.ln
  have mo := h.mo
  exact ⟨⟨by omega, fun r hr => (h.ru r hr).ok⟩, fun r hr => (h.ru r hr).to, by omega, by omega, by omega⟩
def spLaw (K : PySem.W.Frag) : Sp := fun vs H Q _ => ∃ (a : Addr) (ns : List Int), vs = [.ref a] ∧ SqL K H a (ns.map V.int) ∧ ns.length ≤ 63 ∧ ∀ H', Q (.bl true) H'
theorem cutV_take (xs : List V) (n : Nat) : cutV xs none (some (n : Int)) = xs.take n := by
  by_cases h : n ≤ xs.length
  · exact cutV_to h
  · unfold cutV
    rw [HT.sIx_nat, Nat.min_eq_right (by omega), List.take_of_length_le (l := xs) (by omega : xs.length ≤ n)]
    simp [HT.sIx]
/-- the lengths of the ways -/
def lensW (t : TD) (z : Str) : List Int := (waysN t.rules z 5 0 0).map fun w => ((cellsF t.rules w).length : Int)
theorem lens_le {t : TD} {z : Str} {ns : List (List Int)} (G : Good t z ns) (ho : ∀ r ∈ t.rules, r.ok) (zl : z.length ≤ 5) : ∀ x ∈ lensW t z, nAt ns 0 0 ≤ x := fun x hx => by
  obtain ⟨u, hu, rfl⟩ := List.mem_map.mp hx
  exact good_le G ho (Nat.zero_le _) ((isW_mem t.rules z ho 5 0 0 u (Nat.zero_le _) (by omega)).mpr hu)
section
variable {P : Program} {w : World} {K : PySem.W.Frag} {mg : Str → Option Value} {base : Heap}
abbrev nsLaw : List Str := ["script", "deck", "rules", "table", "text", "ways", "numbers", "best", "lengths", "way", "turn", "at", "mode", "row"]
theorem scLaw : FnScope nsLaw ["script"] (defScope sLaw) := ⟨rfl, rfl, rfl, by decide +kernel, rfl, by decide +kernel, by decide +kernel⟩
theorem ok_law (t : T K mg) {fd : FuncData} (F : FunD K "law" "law" (defArgs sLaw) (defBody sLaw) (defScope sLaw) [] [] (He.ga K "law") fd) : FnOk P w K mg base CX0 9 (He.ga K "law") fd ["script"] (spLaw K) := by
  refine mkFn F scLaw (fun vs H Q E h => ?_) fun cdv A outer s H vs Q E hr h => ?_
  · obtain ⟨a, ns, rfl, _⟩ := h; rfl
  obtain ⟨sc, zs0, rfl, hS, hlen, k⟩ := h
  have hr1 : Room 1 _ := hr.mono (by decide)
  have hr2 : Room 2 _ := hr.mono (by decide)
  have hr4 : Room 4 _ := hr.mono (by decide)
  have hr5 : Room 5 _ := hr.mono (by decide)
  have hr6 : Room 6 _ := hr.mono (by decide)
  have hr8 : Room 8 _ := hr.mono (by decide)
  refine ⟨_, pss_cons (ps_set (i := 1) scLaw.nd rfl (Or.inl rfl) (pe_ok (ok_law_deck t) hr1 rfl (pa_cons (pv 0) pa_nil)))
    (pss_cons (ps_set (i := 2) scLaw.nd rfl (Or.inr rfl) (pe_ok (ok_law_rules t) hr4 rfl (pa_cons (pv 1) (pa_cons (pe_cmpR op_gt (pe_ok (ok_law_draw t) hr1 rfl (pa_cons (pv 1) (pa_cons pe_int pa_nil))) pe_int (nomark _)) pa_nil))))
    (pss_cons (ps_set (i := 3) scLaw.nd rfl (Or.inl rfl) (pe_ok (ok_law_table t) hr6 rfl (pa_cons (pv 2) pa_nil)))
    (pss_cons (ps_set (i := 4) scLaw.nd rfl (Or.inl rfl) (pe_ok (ok_law_text t) hr2 rfl (pa_cons (pv 1) (pa_cons (pv 2) (pa_cons pe_int pa_nil)))))
    (pss_cons (ps_set (i := 5) scLaw.nd rfl (Or.inl rfl) (pe_ok (ok_law_ways t 6) hr8 rfl (pa_cons (pv 2) (pa_cons (pv 4) (pa_cons pe_int (pa_cons pe_int pa_nil))))))
    (pss_cons (ps_set (i := 6) scLaw.nd rfl (Or.inl rfl) (pe_ok (ok_make_numbers t) hr5 rfl (pa_cons (pv 3) (pa_cons (pv 4) pa_nil))))
    (C8.pss_cut (ps_set (i := 7) scLaw.nd rfl (Or.inl rfl) (pe_ok (ok_best_writing t) hr6 rfl (pa_cons (pv 3) (pa_cons (pv 4) pa_nil))))
    (pss_cons (ps_if (pt_not (pt_val (pe_ok (ok_accepts_numbers t) hr5 rfl (pa_cons (pv 3) (pa_cons (pv 4) (pa_cons (pv 6) pa_nil))))))
      (pss_one (ps_ret pe_bl))
      pss_nil)
    (C8.pss_cut (ps_if (PW.pt (pw_and (pt_cmpR op_notN (pv 7) pe_non (nomark _)) (pw_and1 (PW.pt (pw_or (pt_not (pt_val (pe_ok (ok_shows_best t) hr6 rfl (pa_cons (pv 3) (pa_cons (pv 4) (pa_cons (pv 6) (pa_cons (pe_ix ix_tup (pv 7) pe_int (fun _ _ => rfl)) pa_nil))))))) (pw_or1 (pt_cmpR op_ne (pe_ix ix_list (pe_ix ix_list (pv 6) pe_int (fun _ _ => rfl)) pe_int (fun _ _ => rfl)) (pe_callB call_len_seq rfl t.f_len boot_len (pa_cons (pe_ix ix_tup (pv 7) pe_int (fun _ _ => rfl)) pa_nil)) (nomark _))))))))
      (pss_one (ps_ret pe_bl))
      pss_nil)
    (pss_cons (ps_setLc (i := 8) (own := [("way", 9)]) (g := gName 9) (tt := tYes) (by rfl) scLaw.nd rfl rfl (sw_true rfl rfl rfl (by decide +kernel)) (pi_list (pv 5)) (blkOk_by (own := [("way", 9)]) (N := nsLaw) (sc := defScope sLaw) (by decide +kernel)) (fun _ _ _ _ _ => pg_name (i := 9) scLaw.nd rfl (Or.inl rfl)) (fun _ _ _ _ _ => pts_nil) (fun _ _ _ _ _ => (pe_callB (call_lenK (K := K) rfl) rfl t.f_len boot_len (pa_cons (pe_ok (ok_law_cells t) hr1 rfl (pa_cons (pv 2) (pa_cons (pv 9) pa_nil))) pa_nil))))
    (pss_cons (ps_for PassesOwn.never rfl (pi_range1 rfl t.f_range (pa_cons pe_int pa_nil)) (pg_name (i := 10) scLaw.nd rfl (Or.inl rfl))
      (pss_cons (ps_set (i := 11) scLaw.nd rfl (Or.inl rfl) (pe_ok (ok_law_draw t) hr1 rfl (pa_cons (pv 1) (pa_cons (pe_callB call_len_seq rfl t.f_len boot_len (pa_cons (pv 6) pa_nil)) pa_nil))))
    (pss_cons (ps_set (i := 12) scLaw.nd rfl (Or.inl rfl) (pe_ok (ok_law_draw t) hr1 rfl (pa_cons (pv 1) (pa_cons (pe_ix ix_list (pv 2) pe_int (fun _ _ => rfl)) pa_nil))))
    (pss_cons (ps_set (i := 13) scLaw.nd rfl (Or.inl rfl) (pe_callTy (call_listK (K := K) rfl) rfl t.f_list (by decide +kernel) (pa_cons (pe_ix ix_list (pv 6) (pv 11) (fun _ _ => rfl)) pa_nil)))
    (pss_cons (ps_asg (pe_op op_sub (pe_op op_add (pe_ix ix_list (pv 13) (pv 12) (fun _ _ => rfl)) (pe_ok (ok_law_draw t) hr1 rfl (pa_cons (pv 1) (pa_cons pe_int pa_nil)))) pe_int) (pg_sub (pv 13) (pv 12) set_list))
    (pss_cons (ps_set (i := 6) scLaw.nd rfl (Or.inl rfl) (pe_op op_cat (pe_op op_cat (pe_slice sl_list (pv 6) po_none (po_some (pv 11))) (pe_lst (pa_cons (pv 13) pa_nil))) (pe_slice sl_list (pv 6) (po_some (pe_op op_add (pv 11) pe_int)) po_none)))
    (C8.pss_cut (ps_if (pt_val (pe_ok (ok_accepts_numbers t) hr5 rfl (pa_cons (pv 3) (pa_cons (pv 4) (pa_cons (pv 6) pa_nil)))))
      (pss_one (ps_if (PW.pt (pw_and (pt_cmpR (op_neD (hu64 hr)) (pv 8) (pe_lst pa_nil) (nomark _)) (pw_and1 (pt_cmpR op_lt (pe_callB (cr_min rfl) rfl t.f_min (by decide +kernel) (pa_cons (pv 8) pa_nil)) (pe_ix ix_list (pe_ix ix_list (pv 6) pe_int (fun _ _ => rfl)) pe_int (fun _ _ => rfl)) (nomark _)))))
      (pss_one (ps_ret pe_bl))
      pss_nil))
      pss_nil)
    (pss_one (ps_for PassesOwn.never rfl (pi_list (pe_slice sl_list (pv 5) po_none (po_some pe_int))) (pg_name (i := 9) scLaw.nd rfl (Or.inl rfl))
      (pss_one (ps_if (PW.pt (pw_and (pt_val (pe_ok (ok_shows_best t) hr6 rfl (pa_cons (pv 3) (pa_cons (pv 4) (pa_cons (pv 6) (pa_cons (pv 9) pa_nil)))))) (pw_and1 (pt_cmpR op_ne (pe_callB call_len_seq rfl t.f_len boot_len (pa_cons (pe_ok (ok_law_cells t) hr1 rfl (pa_cons (pv 2) (pa_cons (pv 9) pa_nil))) pa_nil)) (pe_callB (cr_min rfl) rfl t.f_min (by decide +kernel) (pa_cons (pv 8) pa_nil)) (nomark _)))))
      (pss_one (ps_ret pe_bl))
      pss_nil)))))))))))
    (pss_one (ps_ret pe_bl)))))))))))), ?_⟩
  refine ⟨_, rfl, sc, zs0, rfl, hS, fun d l H1 hd0 s1 D1 => ?_⟩
  refine ⟨_, rfl, _, rfl, d, l, 3, rfl, D1, by decide, by decide, fun v1 H2 v10 v11 D2 B2 => ?_⟩
  refine ⟨_, _, rfl, rfl, d, l, _, rfl, D2, fun a tb H3 R3 dr D3 B3 => ?_⟩
  have T := dr.num
  have TB := dr.best
  have mo := dr.mo
  have rln := dr.ln
  refine ⟨_, rfl, a, tb, rfl, R3, T.ok.nr, fun v H4 s4 V4 => ?_⟩
  have D4 := D3.same s4
  have R4 := R3.same s4
  refine ⟨_, rfl, _, rfl, d, l, a, tb, 5, rfl, D4, R4, dr.sg, by decide, fun z H5 zl D5 B5 => ?_⟩
  have R5 := R4.but D4 B5
  have V5 := V4.but D4 B5
  refine ⟨_, rfl, _, rfl, a, tb, z, 0, 0, rfl, R5, T.ok.ro, by omega, zl, Nat.zero_le _, by omega, by decide, fun q H6 s6 W6 => ?_⟩
  have L6 : LN K H6 d l a v q tb z := ⟨D5.same s6, R5.same s6, V5.same s6, W6⟩
  have wm := isW_mem tb.rules z T.ok.ro 5 0 0
  refine ⟨_, rfl, _, rfl, v, tb, z, rfl, L6.tb, T.ok, fun r hr => (T.to r hr).1, T.m0, T.m1, by omega, fun nq ns u H7 N7 M7 s7 => ?_⟩
  have L7 := L6.same s7
  have G7 := made_good M7 T
  have nl7 := M7.mn.ln
  refine ⟨fun σ' H' => ∃ v7 : V, σ' = [some (.ref sc), some (.ref d), some (.ref a), some v, some (.str z), some (.ref q), some (.ref nq), some v7, none, none, none, none, none, none] ∧ Same H7 H' ∧
    (v7 = .non ∨ ∃ (tq lr lw : Addr) (w0 : List Nat), v7 = .ref tq ∧ H' tq = some (.tup [.ref lr, .ref lw]) ∧ H' lr = some (.lst ((cellsF tb.rules w0).map V.int)) ∧ H' lw = some (.lst (w0.map nv)) ∧ Least tb.rules z 0 0 w0), ?_, ?_⟩
  · refine ⟨_, rfl, _, rfl, v, tb, z, rfl, L7.tb, TB, by omega, fun H8 s8 hno => ⟨_, rfl, s8, .inl rfl⟩, fun tq lr lw w0 H8 s8 hL htq hlr hlw => ⟨_, rfl, s8, .inr ⟨tq, lr, lw, w0, rfl, htq, hlr, hlw, hL⟩⟩⟩
  rintro σ' H8 ⟨v7, rfl, s8, hv7⟩
  refine ⟨_, rfl, _, rfl, _, rfl, v, tb, z, nq, ns, rfl, L7.tb.same s8, T, by omega, N7.same s8, by omega, fun b H9 eb s9 => ?_⟩
  have e1 : b = true := eb.mpr G7
  subst e1
  refine ⟨_, rfl, iteF ?_⟩
  have s79 := s8.trans s9
  have L9 := L7.same s79
  have N9 := N7.same s79
  refine ⟨fun σ' H' => ∃ v7 : V, σ' = [some (.ref sc), some (.ref d), some (.ref a), some v, some (.str z), some (.ref q), some (.ref nq), some v7, none, none, none, none, none, none] ∧ Same H9 H', ?_, ?_⟩
  · rcases hv7 with rfl | ⟨tq, lr, lw, w0, rfl, htq, hlr, hlw, hL⟩
    · exact ⟨_, rfl, rfl, _, rfl, iteF ⟨_, rfl, fun _ _ e => e⟩⟩
    · have htq9 := s9 _ _ htq
      have hlr9 := s9 _ _ hlr
      have hlw9 := s9 _ _ hlw
      have wl := isW_len T.ok.ro (Nat.zero_le _) hL.way
      have sh := made_shows M7 T (by omega) hL
      refine ⟨_, rfl, rfl, _, rfl, iteT ?_⟩
      refine ⟨_, rfl, _, rfl, _, rfl, _, rfl, tq, _, _, .ref lw, rfl, rfl, SqT.of htq9, atI_nat (j := 1) rfl, v, tb, z, nq, lw, ns, w0, rfl, L9.tb, T, by omega, by omega, N9, by omega, hlw9, by omega, isW_lt hL.way, fun b2 H10 e2 s10 => ?_⟩
      have b2t : b2 = true := e2.mpr ⟨G7, hL.way, sh⟩
      subst b2t
      refine ⟨_, rfl, iteF ?_⟩
      have nl0 : 0 < ns.length := by omega
      have e0 : ns[0]? = some ns[0] := List.getElem?_eq_getElem nl0
      have m0 := M7.mn.lm _ (List.getElem_mem nl0)
      obtain ⟨as, a0, ha1, _, ha2, ha3⟩ := (N9.same s10).get e0
      generalize ns[0] = n0 at e0 m0 ha3
      have e1 : n0[0]? = some n0[0] := List.getElem?_eq_getElem (by omega)
      have na : nAt ns 0 0 = n0[0] := nAt_get (m := 0) e0 e1
      refine ⟨_, rfl, nq, _, _, .ref a0, rfl, rfl, SqL.of ha1, atI_nat (j := 0) (by rw [List.getElem?_map, ha2]; rfl), a0, _, _, .int n0[0], rfl, rfl, SqL.of ha3, atI_nat (j := 0) (by rw [List.getElem?_map, e1]; rfl), _, rfl, tq, _, _, .ref lr, rfl, rfl, SqT.of (s10 _ _ htq9), atI_nat (j := 0) rfl, lr, _, rfl, .inl (SqL.of (s10 _ _ hlr9)), rfl, _, rfl, ?_⟩
      have ed : (!decide (V.int n0[0] = V.int (((cellsF tb.rules w0).map V.int).length : Nat))) = false := by
        rw [List.length_map, sh, na, decide_eq_true rfl]
        rfl
      rw [ed]
      exact iteF ⟨_, rfl, s10⟩
  rintro σ' H10 ⟨v7', rfl, s10⟩
  have L10 := L9.same s10
  have N10 := N9.same s10
  obtain ⟨as, hq10, al, has⟩ := L10.wy.ex
  have w8 := waysN_len tb.rules z rln.2 5 0 0
  have w85 : (8 : Nat) ^ 5 = 32768 := by decide
  refine ⟨_, rfl, q, rfl, ⟨_, SqL.of hq10⟩, fun F hF => ?_⟩
  refine lc_list (K := K) (a := q) (xs := as.map V.ref) (g := gName 9) (tt := tYes) (fun j H' => H' F = some (.lst (((lensW tb z).take j).map V.int)) ∧ Same H10 H') ⟨upd_same, Same.new hF⟩ (fun j H' _ p => SqL.of (p.2 _ _ hq10)) ?_ ?_
  · rintro j x H11 hx ⟨hF11, s11⟩
    obtain ⟨wa, hwa, rfl⟩ := refsAt hx
    have jl : j < (waysN tb.rules z 5 0 0).length := by rw [← al]; exact (List.getElem?_eq_some_iff.mp hwa).1
    have hu : (waysN tb.rules z 5 0 0)[j]? = some (waysN tb.rules z 5 0 0)[j] := List.getElem?_eq_getElem jl
    have um : (waysN tb.rules z 5 0 0)[j] ∈ waysN tb.rules z 5 0 0 := List.getElem_mem jl
    generalize (waysN tb.rules z 5 0 0)[j] = u at hu um
    have ul := waysN_each tb.rules z 5 0 0 u um
    have uw := (wm u (Nat.zero_le _) (by omega)).mpr um
    have hl : (lensW tb z)[j]? = some ((cellsF tb.rules u).length : Int) := by unfold lensW; rw [List.getElem?_map, hu]; rfl
    refine ⟨rfl, ?_⟩
    refine ⟨_, rfl, _, rfl, a, wa, tb, u, rfl, L10.ru.same s11, T.ok.ro, s11 _ _ (has j wa u hwa hu), by omega, isW_lt uw, fun c1 H12 s12 hc1 _ => ?_⟩
    refine ⟨c1, _, rfl, .inl (SqL.of hc1), _, s12 _ _ hF11, by rw [List.length_map, List.length_take]; exact Nat.lt_of_le_of_lt (Nat.min_le_left _ _) (Nat.lt_of_lt_of_le (show j < 40000 by omega) (by decide)), ?_, Same.put (s11.trans s12) hF⟩
    rw [upd_same, List.take_add_one, hl, List.map_append, List.length_map]
    rfl
  rintro H11 ⟨hF11, s11⟩
  have ll : (lensW tb z).length = (waysN tb.rules z 5 0 0).length := by unfold lensW; rw [List.length_map]
  rw [List.length_map, al, ← ll, List.take_length] at hF11
  have L11 := L10.same s11
  have N11 := N10.same s11
  refine ⟨6, rfl, by decide, by decide, ?_⟩
  refine for_range (lo := 0) (n := 6) (fun i σ' H' => ∃ (nq : Addr) (ns : List (List Int)) (o9 o10 o11 o12 o13 : Option V), σ' = [some (.ref sc), some (.ref d), some (.ref a), some v, some (.str z), some (.ref q), some (.ref nq), some v7', some (.ref F), o9, o10, o11, o12, o13] ∧ LN K H' d l a v q tb z ∧ H' F = some (.lst ((lensW tb z).map V.int)) ∧ NLs H' nq ns ∧ ns.length = z.length + 1 ∧ ∀ n ∈ ns, (n.length : Int) = tb.modes)
    ⟨nq, ns, _, _, _, _, _, rfl, L11, hF11, N11, nl7, M7.mn.lm⟩ ?_ ?_
  · clear hF11 L11 N11 s11 N10 L10 hq10 has al L9 N9 hv7 s79
    rintro i σ' H12 hi ⟨nq, ns, o9, o10, o11, o12, o13, rfl, L12, hF12, N12, nl, nm⟩
    obtain ⟨bs, hnq, bl, hbs⟩ := N12.ex
    refine ⟨_, rfl, _, rfl, nq, _, rfl, .inl (SqL.of hnq), d, l, _, rfl, L12.dk, by rw [List.length_map]; omega, by rw [List.length_map]; omega, fun u1 H13 u10 u11 D13 b13 => ?_⟩
    rw [List.length_map, bl] at u11
    obtain ⟨c, rfl⟩ : ∃ c : Nat, u1 = (c : Int) := ⟨u1.toNat, by omega⟩
    have L13 := L12.but D13 b13
    obtain ⟨lr, ha13, _⟩ := L13.ru
    refine ⟨_, rfl, _, rfl, a, _, _, .int tb.modes, rfl, rfl, SqL.of ha13, atI_nat (j := 1) rfl, d, l, _, rfl, D13, by omega, by omega, fun u2 H14 u20 u21 D14 b14 => ?_⟩
    obtain ⟨m, rfl⟩ : ∃ m : Nat, u2 = (m : Int) := ⟨u2.toNat, by omega⟩
    have b124 := b13.trans b14
    have L14 := L12.but D14 b124
    have N14 := N12.but L12.dk b124
    have hF14 := keepB L12.dk b124 hF12 (ints_ne _)
    have cl : c < ns.length := by omega
    have hn : ns[c]? = some ns[c] := List.getElem?_eq_getElem cl
    have nmc := nm _ (List.getElem_mem cl)
    obtain ⟨bs, a0, hq14, bl, hb0, ha0⟩ := N14.get hn
    have hbsE := N14
    generalize ns[c] = n0 at hn nmc ha0
    -- the copy of the row
    refine ⟨_, rfl, _, rfl, nq, _, _, .ref a0, rfl, rfl, SqL.of hq14, atI_nat (by rw [List.getElem?_map, hb0]; rfl), a0, _, rfl, .inl (SqL.of ha0), fun r hr0 => ?_⟩
    have s15 : Same H14 (upd H14 r (.lst (n0.map V.int))) := Same.new hr0
    have h15 : (upd H14 r (.lst (n0.map V.int))) r = some (.lst (n0.map V.int)) := upd_same
    generalize upd H14 r (.lst (n0.map V.int)) = H15 at s15 h15
    have ml : m < n0.length := by omega
    have hy : n0[m]? = some n0[m] := List.getElem?_eq_getElem ml
    generalize n0[m] = y at hy
    refine ⟨_, rfl, _, rfl, r, _, _, .int y, rfl, rfl, SqL.of h15, atI_nat (by rw [List.getElem?_map, hy]; rfl), ?_⟩
    have L15 := L14.same s15
    refine ⟨_, rfl, d, l, 4, rfl, L15.dk, by decide, by decide, fun u3 H16 u30 u31 D16 b16 => ?_⟩
    have nrd : r ≠ d := fun e => by
      have := L14.dk.ne hr0
      exact this e.symm
    have nlr : l ≠ r := L14.dk.neL hr0
    have h16 := b16 _ _ h15 nrd
    refine ⟨_, _, rfl, rfl, _, _, rfl, rfl, _, rfl, _, rfl, r, _, _, m, rfl, rfl, h16, ixN_natS (by rw [List.length_map]; exact ml), ?_⟩
    have b1416 : But d H14 H16 := (But.of s15).trans b16
    have b17 : But d H14 (upd H16 r (.lst ((n0.map V.int).set m (.int (y + u3 - 2))))) := b1416.new hr0
    have D17 : Dk (upd H16 r (.lst ((n0.map V.int).set m (.int (y + u3 - 2))))) d l := D16.upd nrd.symm nlr
    have h17 : (upd H16 r (.lst ((n0.map V.int).set m (.int (y + u3 - 2))))) r = some (.lst ((n0.set m (y + u3 - 2)).map V.int)) := by rw [upd_same, List.map_set]
    show tSeq _ _ _ _ (upd H16 r (.lst ((n0.map V.int).set m (.int (y + u3 - 2)))))
    generalize upd H16 r (.lst ((n0.map V.int).set m (.int (y + u3 - 2)))) = H17 at b17 D17 h17
    have L17 := L14.but D17 b17
    have N17 := N14.but L14.dk b17
    have hF17 := keepB L14.dk b17 hF14 (ints_ne _)
    obtain ⟨bs, hq17, bl, hbs⟩ := N17.ex
    have lbs : (bs.map V.ref).length = ns.length := by rw [List.length_map, bl]
    refine ⟨_, rfl, _, rfl, _, rfl, nq, _, rfl, SqL.of hq17, fun p1 hp1 => ?_⟩
    rw [cutV_to (by omega)]
    have t1 : Same H17 (upd H17 p1 (.lst ((bs.map V.ref).take c))) := Same.new hp1
    have g1 : (upd H17 p1 (.lst ((bs.map V.ref).take c))) p1 = some (.lst ((bs.map V.ref).take c)) := upd_same
    generalize upd H17 p1 (.lst ((bs.map V.ref).take c)) = H18 at t1 g1
    refine ⟨_, rfl, (by show 1 ≤ sizeLine; decide), fun p2 hp2 => ?_⟩
    have t2 : Same H18 (upd H18 p2 (.lst [V.ref r])) := Same.new hp2
    have g2 : (upd H18 p2 (.lst [V.ref r])) p2 = some (.lst [V.ref r]) := upd_same
    generalize upd H18 p2 (.lst [V.ref r]) = H19 at t2 g2
    refine ⟨p1, p2, _, _, rfl, rfl, t2 _ _ g1, g2, ?_, fun p3 hp3 => ?_⟩
    · rw [List.length_take, List.length_singleton]
      exact Nat.le_trans (show _ ≤ 1000 by omega) (by decide)
    have t3 : Same H19 (upd H19 p3 (.lst ((bs.map V.ref).take c ++ [V.ref r]))) := Same.new hp3
    have g3 : (upd H19 p3 (.lst ((bs.map V.ref).take c ++ [V.ref r]))) p3 = some (.lst ((bs.map V.ref).take c ++ [V.ref r])) := upd_same
    generalize upd H19 p3 (.lst ((bs.map V.ref).take c ++ [V.ref r])) = H20 at t3 g3
    have t13 := t1.trans (t2.trans t3)
    refine ⟨_, rfl, _, rfl, _, _, rfl, rfl, _, rfl, nq, _, rfl, SqL.of (t13 _ _ hq17), fun p4 hp4 => ?_⟩
    show rCat (.ref p3) (.ref p4) (upd H20 p4 (.lst (cutV (bs.map V.ref) (some (((c + 1 : Nat)) : Int)) none))) _
    rw [cutV_from (by omega)]
    have t4 : Same H20 (upd H20 p4 (.lst ((bs.map V.ref).drop (c + 1)))) := Same.new hp4
    refine ⟨p3, p4, _, _, rfl, rfl, t4 _ _ g3, upd_same, ?_, fun p5 hp5 => ?_⟩
    · rw [List.length_append, List.length_take, List.length_drop, List.length_singleton]
      exact Nat.le_trans (show _ ≤ 1000 by omega) (by decide)
    have elist : (bs.map V.ref).take c ++ [V.ref r] ++ (bs.map V.ref).drop (c + 1) = (bs.set c r).map V.ref := by
      rw [List.map_set, List.set_eq_take_append_cons_drop, if_pos (by omega), List.append_assoc]
      rfl
    rw [elist]
    have t5 : Same (upd H20 p4 (.lst ((bs.map V.ref).drop (c + 1)))) (upd (upd H20 p4 (.lst ((bs.map V.ref).drop (c + 1)))) p5 (.lst ((bs.set c r).map V.ref))) := Same.new hp5
    have t15 := t13.trans (t4.trans t5)
    have g5 : (upd (upd H20 p4 (.lst ((bs.map V.ref).drop (c + 1)))) p5 (.lst ((bs.set c r).map V.ref))) p5 = some (.lst ((bs.set c r).map V.ref)) := upd_same
    generalize upd (upd H20 p4 (.lst ((bs.map V.ref).drop (c + 1)))) p5 (.lst ((bs.set c r).map V.ref)) = H21 at t15 g5
    have L21 := L17.same t15
    have hF21 := t15 _ _ hF17
    have N21 : NLs H21 p5 (ns.set c (n0.set m (y + u3 - 2))) := by
      refine ⟨bs.set c r, g5, by rw [List.length_set, List.length_set, bl], fun i b n e1 e2 => ?_⟩
      by_cases ic : c = i
      · subst ic
        rw [List.getElem?_set_self (by omega)] at e1
        rw [List.getElem?_set_self cl] at e2
        obtain rfl := Option.some.inj e1
        obtain rfl := Option.some.inj e2
        exact t15 _ _ h17
      · rw [List.getElem?_set_ne ic] at e1 e2
        exact t15 _ _ (hbs i b n e1 e2)
    have nl21 : (ns.set c (n0.set m (y + u3 - 2))).length = z.length + 1 := by rw [List.length_set]; exact nl
    have nm21 : ∀ n ∈ ns.set c (n0.set m (y + u3 - 2)), (n.length : Int) = tb.modes := fun n hn2 => by
      rcases List.mem_or_eq_of_mem_set hn2 with h | h
      · exact nm n h
      · rw [h, List.length_set]; exact nmc
    generalize ns.set c (n0.set m (y + u3 - 2)) = ns2 at N21 nl21 nm21
    have sg : ∀ (H' : Hp), NLs H' p5 ns2 → ∃ (as : List Addr) (a0 : Addr) (n1 : List Int) (y1 : Int), H' p5 = some (.lst (as.map V.ref)) ∧ as[0]? = some a0 ∧ H' a0 = some (.lst (n1.map V.int)) ∧ n1[0]? = some y1 ∧ nAt ns2 0 0 = y1 := fun H' hN => by
      have e0 : ns2[0]? = some (ns2[0]'(by omega)) := List.getElem?_eq_getElem _
      have m0 := nm21 _ (List.mem_of_getElem? e0)
      obtain ⟨as, a0, h1, _, h2, h3⟩ := hN.get e0
      have e1 : (ns2[0]'(by omega))[0]? = some ((ns2[0]'(by omega))[0]'(by omega)) := List.getElem?_eq_getElem _
      exact ⟨as, a0, _, _, h1, h2, h3, e1, nAt_get (m := 0) e0 e1⟩
    refine ⟨fun σ' H' => σ' = [some (.ref sc), some (.ref d), some (.ref a), some v, some (.str z), some (.ref q), some (.ref p5), some v7', some (.ref F), o9, some (.int (0 + (i : Int))), some (.int (c : Int)), some (.int (m : Int)), some (.ref r)] ∧ Same H21 H', ?_, ?_⟩
    · refine ⟨_, rfl, _, rfl, _, rfl, v, tb, z, p5, ns2, rfl, L21.tb, T, by omega, N21, by omega, fun b H22 eb t22 => ?_⟩
      refine ⟨_, rfl, ?_⟩
      refine ite2 (fun h1 => ?_) (fun h1 => ⟨rfl, t22⟩)
      have G2 := eb.mp h1
      have lle := lens_le G2 T.ok.ro zl
      refine ⟨_, rfl, (by show 0 ≤ sizeLine; decide), fun e he => ?_⟩
      have te : Same H22 (upd H22 e (.lst [])) := Same.new he
      have t22e := t22.trans te
      refine neI_nil (n := lensW tb z) (t22e _ _ hF21) upd_same ⟨_, rfl, ?_⟩
      refine ite2 (fun h2 => ?_) (fun h2 => iteF ⟨rfl, t22e⟩)
      have lne : lensW tb z ≠ [] := fun e0 => by rw [e0] at h2; cases h2
      have lpos := List.length_pos_iff.mpr lne
      refine ⟨_, rfl, F, lensW tb z, rfl, SqL.of (t22e _ _ hF21), lpos, fun x0 hm1 hm2 => ?_⟩
      obtain ⟨as, a1, n1, y1, q1, q2, q3, q4, q5⟩ := sg _ (N21.same t22e)
      refine ⟨_, rfl, p5, _, _, .ref a1, rfl, rfl, SqL.of q1, atI_nat (j := 0) (by rw [List.getElem?_map, q2]; rfl), a1, _, _, .int y1, rfl, rfl, SqL.of q3, atI_nat (j := 0) (by rw [List.getElem?_map, q4]; rfl), _, _, rfl, rfl, _, rfl, ?_⟩
      have := lle x0 hm1
      rw [decide_eq_false (show ¬ x0 < y1 by omega)]
      exact iteF ⟨rfl, t22e⟩
    rintro σ' H22 ⟨rfl, t22⟩
    have L22 := L21.same t22
    have hF22 := t22 _ _ hF21
    have N22 := N21.same t22
    obtain ⟨ws, hq22, wl22, hws⟩ := L22.wy.ex
    refine ⟨_, rfl, _, rfl, q, _, rfl, SqL.of hq22, fun p6 hp6 => ?_⟩
    have ecut : cutV (ws.map V.ref) none (some 5) = (ws.take 5).map V.ref := by
      rw [show (some 5 : Option Int) = some ((5 : Nat) : Int) from rfl, cutV_take, List.map_take]
    rw [ecut]
    have t6 : Same H22 (upd H22 p6 (.lst ((ws.take 5).map V.ref))) := Same.new hp6
    have g6 : (upd H22 p6 (.lst ((ws.take 5).map V.ref))) p6 = some (.lst ((ws.take 5).map V.ref)) := upd_same
    generalize upd H22 p6 (.lst ((ws.take 5).map V.ref)) = H23 at t6 g6
    refine ⟨p6, rfl, ⟨_, SqL.of g6⟩, ?_⟩
    refine for_list (K := K) (a := p6) (xs := (ws.take 5).map V.ref) (fun j σ' H' => (∃ o9 : Option V, σ' = [some (.ref sc), some (.ref d), some (.ref a), some v, some (.str z), some (.ref q), some (.ref p5), some v7', some (.ref F), o9, some (.int (0 + (i : Int))), some (.int (c : Int)), some (.int (m : Int)), some (.ref r)]) ∧ Same H23 H') ⟨⟨_, rfl⟩, fun _ _ e => e⟩ (fun j σ' H' _ p => SqL.of (p.2 _ _ g6)) ?_ ?_
    · rintro j x σ' H24 hx ⟨⟨o9', rfl⟩, t24⟩
      obtain ⟨wa, hwa, rfl⟩ := refsAt hx
      have j5 : j < 5 := by
        have := (List.getElem?_eq_some_iff.mp hwa).1
        rw [List.length_take] at this
        omega
      rw [List.getElem?_take, if_pos j5] at hwa
      have jl : j < (waysN tb.rules z 5 0 0).length := by rw [← wl22]; exact (List.getElem?_eq_some_iff.mp hwa).1
      have hu : (waysN tb.rules z 5 0 0)[j]? = some (waysN tb.rules z 5 0 0)[j] := List.getElem?_eq_getElem jl
      have um : (waysN tb.rules z 5 0 0)[j] ∈ waysN tb.rules z 5 0 0 := List.getElem_mem jl
      generalize (waysN tb.rules z 5 0 0)[j] = u at hu um
      have ul := waysN_each tb.rules z 5 0 0 u um
      have uw := (wm u (Nat.zero_le _) (by omega)).mpr um
      have t26 := t6.trans t24
      have hwu := t26 _ _ (hws j wa u hwa hu)
      have L24 := L22.same t26
      refine ⟨_, rfl, _, rfl, _, rfl, _, rfl, v, tb, z, p5, wa, ns2, u, rfl, L24.tb, T, by omega, by omega, N22.same t26, by omega, hwu, by omega, isW_lt uw, fun b H25 eb t25 => ?_⟩
      refine ⟨_, rfl, ?_⟩
      refine ite2 (fun h1 => ?_) (fun h1 => iteF ⟨⟨_, rfl⟩, t24.trans t25⟩)
      obtain ⟨G2, _, esh⟩ := eb.mp h1
      have lle := lens_le G2 T.ok.ro zl
      have lmem : ((cellsF tb.rules u).length : Int) ∈ lensW tb z := List.mem_map.mpr ⟨u, um, rfl⟩
      refine ⟨_, rfl, _, rfl, a, wa, tb, u, rfl, L24.ru.same t25, T.ok.ro, t25 _ _ hwu, by omega, isW_lt uw, fun c1 H26 t27 hc1 _ => ?_⟩
      refine ⟨c1, _, rfl, .inl (SqL.of hc1), _, rfl, F, lensW tb z, rfl, SqL.of (t27 _ _ (t25 _ _ (t26 _ _ hF22))), List.length_pos_iff.mpr (fun e0 => by rw [e0] at lmem; cases lmem), fun x0 hm1 hm2 => ?_⟩
      refine ⟨rfl, _, rfl, ?_⟩
      have e1 := lle x0 hm1
      have e2 := hm2 _ lmem
      have ex : x0 = ((cellsF tb.rules u).length : Int) := by omega
      have ed : (!decide (V.int (((cellsF tb.rules u).map V.int).length : Nat) = V.int x0)) = false := by
        rw [List.length_map, ex, decide_eq_true rfl]
        rfl
      rw [ed]
      exact iteF ⟨⟨_, rfl⟩, t24.trans (t25.trans t27)⟩
    · rintro σ' H24 ⟨⟨o9', rfl⟩, t24⟩
      have t2 := t6.trans t24
      exact ⟨p5, ns2, _, _, _, _, _, rfl, L22.same t2, t2 _ _ hF22, N22.same t2, nl21, nm21⟩
  · rintro σ' H12 ⟨nq, ns, o9, o10, o11, o12, o13, rfl, L12, hF12, N12, nl, nm⟩
    exact k H12
end
end Sx

set_option Elab.async false
set_option linter.all false
set_option maxRecDepth 100000
set_option maxHeartbeats 0
namespace Sx
open PySem PySem.Spec PyProof.Rows L2 SxA
theorem facts {P : Program} {w : World} {K : PySem.W.Frag} {h : Heap} {mg : Str → Option Value} {f : Addr} (X : K.In h) (G : h.Ns mainGlobals mg) (hfa : mg ("law" : Str) = some (.ref f)) (c : He.SaysD fa fn K) :
    ∃ fd : FuncData, (∀ (s : Shared) (v : Value), BindsTo s fd ⟨[v], []⟩ [("script", v)]) ∧ ∀ base : Heap, K.In base → base.Ns mainGlobals mg → FnOk P w K mg base CX0 9 f fd ["script"] (spLaw K) := by
  have t : T K mg := ⟨c, h, X, G⟩
  obtain ⟨fd, F⟩ := t.d_law
  have e := hfa.symm.trans t.g_law
  cases e
  have b := FunD.bindsA (ps := ["script"]) F fun _ _ _ _ _ _ us hl => match us, hl with | [_], _ => rfl
  exact ⟨fd, fun s v => b s [v] rfl, fun base _ _ => ok_law t F⟩
end Sx
open PySem PySem.W PySem.Calls PyProof.Rows
set_option maxRecDepth 100000 in
set_option maxHeartbeats 0 in
theorem PySem.Challenge.cw_sixdot_k11_whole_numbers_show_the_best_holds : PySem.Challenge.rw_sixdot_k11_whole_numbers_show_the_best.Holds := by
  w_on; o_law
  refine HandSHeadRun.head_any (r := OpenLaw.row PySem.Challenge.rw_sixdot_k11_whole_numbers_show_the_best) (q := view (OpenLaw.row PySem.Challenge.rw_sixdot_k11_whole_numbers_show_the_best).prog [35]) (H := Sx.hk) (ob := Sx.ob) (M := 4000) (loose := Sx.loose) (d := HandSHeadRun.topDef (OpenLaw.row PySem.Challenge.rw_sixdot_k11_whole_numbers_show_the_best).prog 35) (kwd := []) Sx.ob_eq
    (by kernel_rfl) (fun s => by kernel_rfl) Sx.run (by kernel_rfl) (by kernel_rfl) (by kernel_rfl) (by rfl) (by first | assumption | decide +kernel) (by decide +kernel) ⟨rfl, rfl, rfl, rfl, rfl, by decide +kernel⟩ ?hw ?hc
  case hw => w_witness2
  case hc =>
    refine L2.walk_ofE (l := PySem.Challenge.rw_sixdot_k11_whole_numbers_show_the_best) (n := 63) (k := 9) (x := "script") (CX := L2.CX0) rfl (by decide) (by kernel_rfl) ⟨rfl, by decide, by decide⟩ ?F (fun _ _ _ _ z => z)
    intro w mg fa h Y G hmg0
    obtain ⟨K, KX, c⟩ := Y
    have hmg : mg ("law" : PySem.Str) = some (.ref fa) := by
      have e : (HandSHeadRun.topDef (OpenLaw.row PySem.Challenge.rw_sixdot_k11_whole_numbers_show_the_best).prog 35).name = ("law" : PySem.Str) := by kernel_rfl
      rw [← e]
      exact hmg0
    obtain ⟨fd, hb, hF⟩ := Sx.facts (P := (PySem.Challenge.rw_sixdot_k11_whole_numbers_show_the_best).prog) (w := w) KX G hmg c
    exact ⟨K, fd, Sx.spLaw K, KX, hb, fun H a ns hl _ hS => ⟨a, ns, rfl, hS, hl, fun _ => rfl⟩, hF⟩
