import PyProof.Rows.All
import Wide.All
import OpenK.AllK
import Wide.FinOn
import PyProof.Rows.SetFrom
import PyProof.StrWalks
import KE.KRevIter
import HandS.ForMost
import HandS.Rev
import HandS.RevTup
import HandS.Style
import HandS.Flow
import HandS.WideBits
import HandS.Codes
import HandS.IsInst
import HandS.Head0
import HandS.Head1
import HandS.Head2
import HandS.HeadEnd
import HandS.HeadHook1
import HandS.HeadHook2
import HandS.Defaults
import HandS.MakeKwOnly
import KE.KStateDown
import HandS.ForDict
import HandS.More
import HandS.Zip
import HandS.RevRange
import PyProof.Draws
import KE.KExcSuper
import HandS.Exc
import HandS.ExcInit
import HandS.ExcField
import HandS.ExcOwn
import HandS.FStr
import PySem.Challenge.RW_sixdot_k31_where_pages_may_end
set_option Elab.async false
set_option linter.all false
set_option maxRecDepth 100000
set_option maxHeartbeats 4000000
/-! rules that the layer lacks: len(set(text)), text * int, list(reversed(list)) -/
namespace SxA
open PySem PySem.Spec PyProof.Rows L2

/-! ### the different signs of a text, in the order in which they come -/
def stepD (acc : List Nat) (c : Nat) : List Nat := if c ∈ acc then acc else acc ++ [c]
def firsts (l : List Nat) : List Nat := l.foldl stepD []
theorem firsts_snoc (l : List Nat) (c : Nat) : firsts (l ++ [c]) = stepD (firsts l) c := by
  unfold firsts; rw [List.foldl_append]; rfl
theorem mem_step (acc : List Nat) (c k : Nat) : k ∈ stepD acc c ↔ k ∈ acc ∨ k = c := by
  unfold stepD
  by_cases h : c ∈ acc
  · rw [if_pos h]
    exact ⟨Or.inl, fun q => q.elim id fun e => by rw [e]; exact h⟩
  · rw [if_neg h, List.mem_append, List.mem_singleton]
theorem mem_fold : ∀ (l acc : List Nat) (k : Nat), k ∈ l.foldl stepD acc ↔ k ∈ acc ∨ k ∈ l
  | [], acc, k => by simp
  | c :: l, acc, k => by
    rw [List.foldl_cons, mem_fold l, mem_step, List.mem_cons]
    constructor
    · rintro ((h | h) | h)
      · exact .inl h
      · exact .inr (.inl h)
      · exact .inr (.inr h)
    · rintro (h | h | h)
      · exact .inl (.inl h)
      · exact .inl (.inr h)
      · exact .inr h
theorem mem_firsts (l : List Nat) (k : Nat) : k ∈ firsts l ↔ k ∈ l := by
  unfold firsts; rw [mem_fold]; simp
theorem firsts_take {l : List Nat} {i c : Nat} (h : l[i]? = some c) : firsts (l.take (i + 1)) = stepD (firsts (l.take i)) c := by
  rw [List.take_add_one, h]; exact firsts_snoc _ _
theorem firsts_count : ∀ (l : List Nat) (i : Nat), i ≤ l.length → (firsts (l.take i)).length ≤ i ∧ ((firsts (l.take i)).length = i ↔ (l.take i).Nodup)
  | l, 0, _ => by simp [firsts]
  | l, i + 1, hi => by
    have hc : l[i]? = some l[i] := List.getElem?_eq_getElem hi
    obtain ⟨a, b⟩ := firsts_count l i (by omega)
    rw [firsts_take hc]
    have et : l.take (i + 1) = l.take i ++ [l[i]] := by rw [List.take_add_one, hc]; rfl
    unfold stepD
    by_cases hm : l[i] ∈ firsts (l.take i)
    · rw [if_pos hm]
      refine ⟨by omega, fun q => by omega, fun nd => ?_⟩
      rw [et, List.nodup_append] at nd
      exact absurd rfl (nd.2.2 _ ((mem_firsts _ _).mp hm) _ (List.mem_singleton.mpr rfl))
    · rw [if_neg hm, List.length_append, List.length_singleton]
      refine ⟨by omega, ?_⟩
      rw [et, List.nodup_append]
      constructor
      · intro q
        refine ⟨b.mp (by omega), by simp, fun x hx y hy e => hm ?_⟩
        rw [List.mem_singleton] at hy
        rw [← hy, ← e]
        exact (mem_firsts _ _).mpr hx
      · intro q
        have := b.mpr q.1
        omega
/-- len(set(text)) -/
def kinds (z : Str) : Nat := (firsts z.cps.toList).length
theorem kinds_eq (z : Str) : kinds z = z.length ↔ z.cps.toList.Nodup := by
  have h := firsts_count z.cps.toList z.cps.toList.length (Nat.le_refl _)
  rw [List.take_length] at h
  have e : z.length = z.cps.toList.length := by simp [Str.length]
  unfold kinds
  rw [e]
  exact h.2
theorem kinds_le (z : Str) : kinds z ≤ z.length := by
  have h := firsts_count z.cps.toList z.cps.toList.length (Nat.le_refl _)
  rw [List.take_length] at h
  have e : z.length = z.cps.toList.length := by simp [Str.length]
  unfold kinds
  rw [e]
  exact h.1

/-! ### set(text) on the machine -/
abbrev sg (c : Nat) : Str := ⟨#[c]⟩
theorem sg_inj {a b : Nat} (h : sg a = sg b) : a = b := by
  have e : (#[a] : Array Nat) = #[b] := congrArg Str.cps h
  simpa using e
def hasD (l : List Nat) (k : Str) : Bool := l.any fun c => decide (k = sg c)
theorem hasD_sg (l : List Nat) (c : Nat) : hasD l (sg c) = decide (c ∈ l) := by
  unfold hasD
  by_cases h : c ∈ l
  · rw [decide_eq_true h]
    exact List.any_eq_true.mpr ⟨c, h, decide_eq_true rfl⟩
  · rw [decide_eq_false h]
    refine Bool.eq_false_iff.mpr fun q => ?_
    obtain ⟨d, hd, e⟩ := List.any_eq_true.mp q
    rw [sg_inj (of_decide_eq_true e)] at h
    exact h hd
theorem hasD_step (l : List Nat) (c : Nat) (k : Str) : hasD (stepD l c) k = (hasD l k || decide (k = sg c)) := by
  unfold stepD
  by_cases h : c ∈ l
  · rw [if_pos h]
    by_cases e : k = sg c
    · rw [e, hasD_sg, decide_eq_true h]
      rfl
    · rw [decide_eq_false e, Bool.or_false]
  · rw [if_neg h]
    unfold hasD
    rw [List.any_append]
    simp
theorem len_step (l : List Nat) (c : Nat) : (stepD l c).length = if hasD l (sg c) = true then l.length else l.length + 1 := by
  rw [hasD_sg]
  unfold stepD
  by_cases h : c ∈ l
  · rw [if_pos h, if_pos (decide_eq_true h)]
  · rw [if_neg h, if_neg (by rw [decide_eq_false h]; exact Bool.false_ne_true), List.length_append, List.length_singleton]
section
variable {prog : Program} {w : World} {A : Around} {E : Value → Shared → Prop}
/-- the set at S holds the signs l -/
def SetS (prog : Program) (w : World) (h : Heap) (S : Addr) (l : List Nat) : Prop := h.SetOf (strKind prog w) S (hasD l) l.length
theorem SetS.keep {h h' : Heap} {S : Addr} {l : List Nat} (p : SetS prog w h S l) (k : ∀ o, h.get? S = some o → h'.get? S = some o) : SetS prog w h' S l := by
  obtain ⟨o, es, ep, t, ho, r⟩ := p
  exact ⟨o, es, ep, t, k o ho, r⟩
theorem loopS {R : Result → Shared → Prop} {I : Addr} {fp wr : List Addr} {G : Array GenState → Array GenState → Prop} {x : Str} {St : Nat → Shared → Prop}
    (W : WalksS prog w A.in1 I fp wr G x.cps.size (SignAt x) St) (S : Addr) (away : S ∉ fp) (small : x.cps.size + 1 < scanBound) : ∀ (k i : Nat) (s : Shared), x.cps.size - i = k → i ≤ x.cps.size → St i s →
      SetS prog w s.heap S (firsts (x.cps.toList.take i)) → (∀ s', Moved (S :: wr) G s s' → SetS prog w s'.heap S (firsts x.cps.toList) → R (.ok (.ret .none)) s') →
      codeAny (model prog w) A (.builtin "set.update.loop" ⟨[.ref S, .ref I], []⟩) R s := by
  have awr : S ∉ wr := fun q => away (W.sub _ q)
  have more : ∀ b ∈ wr, b ∈ S :: wr := fun b hb => .tail _ hb
  intro k
  induction k with
  | zero =>
    intro i s hk hi st hS done
    obtain rfl : i = x.cps.size := by omega
    refine codeAny_builtin F.entry_set_update_loop ?_
    rw [Around.under_plainId F.plain_set_update_loop _]
    show wpAny _ A.in1 (pyNext (.ref I) >>= _) _ _ s
    refine wpAny_bind (W.done s _ _ st fun s' mv => ?_)
    show wpAny _ A.in1 (ret Value.none) _ _ s'
    have e : x.cps.toList.take x.cps.size = x.cps.toList := List.take_of_length_le (by simp)
    rw [e] at hS
    exact wpAny_pure (done s' (mv.mono more) (hS.keep fun o q => mv.heap S o awr q))
  | succ k ih =>
    intro i s hk hi st hS done
    have lt : i < x.cps.size := by omega
    refine codeAny_builtin F.entry_set_update_loop ?_
    rw [Around.under_plainId F.plain_set_update_loop _]
    show wpAny _ A.in1 (pyNext (.ref I) >>= _) _ _ s
    refine wpAny_bind (W.item i s _ _ lt st fun v s' hv st' mv => ?_)
    obtain ⟨c, u, hc, rfl⟩ := hv
    have hS' := hS.keep (h' := s'.heap) fun o q => mv.heap S o awr q
    show wpAny _ A.in1 (holding [Value.str (sg c) u] (setAdd S (.str (sg c) u)) >>= _) _ _ s'
    refine wpAny_bind (wpAny_holding ?_)
    unfold setAdd
    refine wpAny_holding ?_
    refine wpAny_bind ((strKind prog w).pyHash (k := sg c) (strKind_is _ _ _ _) ?_)
    have cnt := (firsts_count x.cps.toList i (by simp; omega)).1
    refine wpAny_setAddHashed_of (knd := strKind prog w) (s := { s' with toks := s'.toks + 1 }) (strKind_is _ _ _ _) rfl hS' (by omega) fun h' sb hS2 => ?_
    have hc2 : x.cps.toList[i]? = some c := by rw [Array.getElem?_toList]; exact hc
    have hS3 : SetS prog w h' S (firsts (x.cps.toList.take (i + 1))) := by
      rw [firsts_take hc2]
      exact SetOf_congr hS2 (fun k => (hasD_step _ c k).symm) (len_step _ c).symm
    refine wpAny_pure ⟨plainId_quiet F.plain_set_update_loop _, ih (i + 1) _ (by omega) lt (W.frame _ s' _ _ st' (Nat.le_succ _) fun b hb o e => ?_) hS3 fun s'' mv' hS'' => done s'' (Moved.trans W.gtrans ((mv.mono more).then_heap (Nat.le_succ _) fun b o hb e => ?_) mv') hS''⟩
    · rw [sb.2 b fun q : b = S => away (by rw [← q]; exact hb)]; exact e
    · rw [sb.2 b fun q : b = S => hb (by rw [q]; exact .head _)]; exact e
variable {s : Shared}
theorem sub_str_set : isSubtype (.type "str") (.type "set") = pure false := by rw [isSubtype_type]; kernel_rfl
theorem sub_str_frozenset : isSubtype (.type "str") (.type "frozenset") = pure false := by rw [isSubtype_type]; kernel_rfl
theorem call_set_text {x : Str} {tx : Tok} {Q : Value → Shared → Prop} (hh : A.handled = none) (small : x.cps.size + 1 < scanBound)
    (h : ∀ (h' : Heap) (tk : Nat), SetS prog w h' s.heap.objs.size (firsts x.cps.toList) → (∀ b o, b < s.heap.objs.size → s.heap.get? b = some o → h'.get? b = some o) → Q (.ref s.heap.objs.size) { s with heap := h', toks := tk }) :
    wpAny (model prog w) A (call (.type "set") [.str x tx]) Q E s := by
  obtain ⟨c, tl, hmro⟩ := F.called_set.mro
  have hmade := F.called_set.made
  have hsub := F.called_set.sub
  refine wpAny_call (codeAny_of_tree ?_)
  show wpAny _ _ (callAny (.type "set") _) _ _ _
  refine wpAny_pure ⟨Code.quiet_builtin _ (by decide +kernel), codeAny_builtin F.entry_type_call ?_⟩
  rw [Around.under_plain (weight_type_call_type "set" [.str x tx] []) rfl]
  have h1 := F.called_set.notType
  have h2 := F.called_set.canCreate
  have hct := PySem.F.typeCall_set_1 (.str x tx)
  repeat (any_goals (first | assumption | wp_step))
  refine codeAny_mono (code_set_new_1 (.str x tx) (E := E) (Q₁ := fun v s₁ => ∃ led : Bool, v = .ref s.heap.objs.size ∧ s₁ = { s with heap := s.heap.push { cls := .type "set", dict := none, data := .set #[] 0 (.fresh 0 0 led) } }) fun led => ⟨led, rfl, rfl⟩) fun r s₁ hr => ?_
  cases r with
  | error e => exact hr
  | ok fl =>
    cases fl with
    | ret v =>
      obtain ⟨led, rfl, rfl⟩ := hr
      have hS : (s.heap.push { cls := .type "set", dict := none, data := .set #[] 0 (.fresh 0 0 led) }).get? s.heap.objs.size = some { cls := .type "set", dict := none, data := .set #[] 0 (.fresh 0 0 led) } := Heap.get?_push_size _ rfl
      have hT : Shared.TypeIs { s with heap := s.heap.push { cls := .type "set", dict := none, data := .set #[] 0 (.fresh 0 0 led) } } (.ref s.heap.objs.size) "set" := ⟨_, hS, rfl⟩
      have hli := F.called_set.init.lookup
      have hbi := F.called_set.init.bind (.ref s.heap.objs.size)
      repeat (any_goals (first | assumption | wp_step))
      refine codeAny_mono (codeAny_call_builtin (R := wants (fun r s₂ => r = .none ∧ ∃ h' tk, s₂ = { s with heap := h', toks := tk } ∧ SetS prog w h' s.heap.objs.size (firsts x.cps.toList) ∧
          (∀ b o, b < s.heap.objs.size → s.heap.get? b = some o → h'.get? b = some o)) E) F.called_set.init.plain F.entry_set_init (check_set_init_1 hT ?_)) fun r₂ s₂ hr₂ => ?_
      · have hsls := sub_str_set
        have hslf := sub_str_frozenset
        have hne : (Value.type "str" == Value.type "dict") = false := by decide
        unfold Builtin.«set.__init__» noKeywords Builtin.Frozenset.updateFrom
        generalize hPI : pyIter = PI
        wp_walk
        subst hPI
        refine wpAny_pyIter_str fun o St W st => ?_
        refine wpAny_bind (wpAny_runValue ?_)
        have hh3 : A.in1.in1.in1.handled = none := by simp [hh]
        have away : s.heap.objs.size ∉ [(s.heap.push { cls := .type "set", dict := none, data := .set #[] 0 (.fresh 0 0 led) }).objs.size] := by
          rw [Heap.size_push, List.mem_singleton]
          exact Nat.ne_of_lt (Nat.lt_succ_self _)
        refine loopS ((W _ hh3).toS) s.heap.objs.size away small (x.cps.size - 0) 0 _ (by omega) (Nat.zero_le _) st ?hS0 ?hR
        case hS0 =>
          exact SetOf_congr ((PyProof.Rows.setObjOf_fresh (knd := strKind prog w) led).setOf (Heap.get?_push_of_some _ hS) (by unfold scanBound; omega)) (fun _ => rfl) rfl
        case hR =>
          intro s' mv hS'
          obtain ⟨h', g', d', tk', os'⟩ := s'
          have eg : g' = s.gens := mv.gens
          have ed : d' = s.drawn := mv.drawn
          have eo : os' = s.os := mv.os
          subst eg; subst ed; subst eo
          show wpAny _ _ _ _ _ _
          refine wpAny_pure ?_
          show wpAny _ _ (ret Value.none) _ _ _
          refine wpAny_pure ⟨rfl, h', tk', rfl, hS', fun b o hb e => ?_⟩
          have n1 : b ≠ s.heap.objs.size := Nat.ne_of_lt hb
          have n2 : b ≠ (s.heap.push { cls := .type "set", dict := none, data := .set #[] 0 (.fresh 0 0 led) }).objs.size := by
            rw [Heap.size_push]; exact Nat.ne_of_lt (Nat.lt_succ_of_lt hb)
          exact mv.heap b o (by simp only [List.mem_cons, List.mem_singleton, List.not_mem_nil, or_false, not_or]; exact ⟨n1, n2⟩) (Heap.get?_push_of_some _ (Heap.get?_push_of_some _ e))
      · cases r₂ with
        | error e => exact hr₂
        | ok fl₂ =>
          cases fl₂ with
          | ret r =>
            obtain ⟨rfl, h', tk, rfl, hS', hk'⟩ := hr₂
            repeat (any_goals (first | assumption | wp_step))
            exact h _ _ hS' hk'
          | _ => exact hr₂.elim
    | _ => exact hr.elim
end
/-! ### the rules -/
/-- len(set(text)) -/
def tKinds (ta : TE) : TE := fun σ H Q => ta σ H fun v H1 => ∃ z : Str, v = .str z ∧ z.length ≤ 4000 ∧ Q (.int (kinds z : Nat)) H1
theorem pe_kinds {X : Cx} {a : Expr} {ta : TE} {p p2 q pos : Pos} (hg : Gl X "len") (hm : X.mg "len" = none) (hg2 : Gl X "set") (hm2 : X.mg "set" = none) (ha : PE X a ta) (hc : X.calm = true := by rfl)
    (na : starEach [a] X.env = (false, eval a X.env) :: starEach [] X.env := by rfl) : PE X (.Call (.Name "len" p) [.Call (.Name "set" p2) [a] [] q] [] pos) (tKinds ta) := by
  constructor
  intro pins s σ H Q I h
  refine Call_ (ld_blt I hg hm boot_len (PyProof.Rows.callWith_builtin1 (PyProof.Rows.args_cons (Call_ (ld_blt I hg2 hm2 boot_set ?_)) rfl) rfl rfl))
  refine PyProof.Rows.callWith_type1 (PyProof.Rows.args_cons (thn (ha.run pins s σ H _ I h) fun v s1 ⟨y, H1, I1, r1, q1⟩ => PyProof.Rows.args_nil ?_) na) na rfl
  obtain ⟨z, rfl, hl, q1⟩ := q1
  obtain ⟨t, rfl⟩ := r1
  have hs : z.cps.size = z.length := rfl
  refine call_set_text (I1.ok.hd hc) (by rw [hs]; unfold scanBound; omega) fun h' tk hS hk => PyProof.Rows.args_nil ?_
  have kl := kinds_le z
  obtain ⟨o, es, ep, t2, ho, hex, hd, _, _, _, hf, hn⟩ := hS
  have hn2 : es.size = kinds z := hn
  have I2 : Inv X pins σ H1 { s1 with heap := h', toks := tk } := I1.kept fun b o e => hk b o (Heap.lt_size e) e
  exact call_len_set ho hex hd hf (by rw [hn2]; omega) ⟨.int (kinds z : Nat), H1, I2.tok _, ⟨_, by rw [hn2]⟩, q1⟩
/-- text * n -/
def rMulS : R2 := fun x y H Q => ∃ (z : Str) (n : Int), x = .str z ∧ y = .int n ∧ MulOk z n ∧ Q (.str (Txt.mul z n)) H
theorem op_mulS {X : Cx} : OpR X (binaryOp .Mult) rMulS := by
  intro pins s σ H x y v u Q I rx ry h
  obtain ⟨z, n, rfl, rfl, hz, q⟩ := h
  obtain ⟨t, rfl⟩ := rx
  obtain ⟨t', rfl⟩ := ry
  exact SB.mul hz fun t2 tk => ⟨.str (Txt.mul z n), H, I.tok _, ⟨_, rfl⟩, q⟩
end SxA

set_option Elab.async false
set_option linter.all false
set_option maxRecDepth 100000
set_option maxHeartbeats 4000000
namespace SxA
open PySem PySem.Spec PyProof.Rows L2
section
variable {prog : Program} {w : World} {A : Around} {E : Value → Shared → Prop} {s : Shared}
/-- list(it), it what reversed(a list) gave -/
theorem call_list_rev {it l : Addr} {items : Array Value} {Q : Value → Shared → Prop} (hh : A.handled = none) (hit : s.heap.IsRevIter it l ((items.size : Int) - 1)) (hl : s.heap.IsList l items) (hne : l ≠ it) (hn : items.size ≤ sizeLine)
    (hQ : ∀ (h' : Heap) (tk : Nat) (acc : Array Value) (c : Nat), (∀ b o, b ≠ it → s.heap.get? b = some o → h'.get? b = some o) → h'.get? s.heap.objs.size = some { cls := .type "list", dict := none, data := .seq acc c, slots := #[] } →
      ItemsOf (fun i v => items[items.size - 1 - i]? = some v) acc items.size → Q (.ref s.heap.objs.size) { s with heap := h', toks := tk }) :
    wpAny (model prog w) A (call (.type "list") [.ref it]) Q E s := by
  obtain ⟨oi, hoi, _⟩ := id hit
  obtain ⟨ol, hol, _⟩ := id hl
  have ni : s.heap.objs.size ≠ it := Nat.ne_of_gt (Heap.lt_size hoi)
  have nl : s.heap.objs.size ≠ l := Nat.ne_of_gt (Heap.lt_size hol)
  have away : s.heap.objs.size ∉ [it, l] := by
    simp only [List.mem_cons, List.not_mem_nil, or_false, not_or]
    exact ⟨ni, nl⟩
  refine callType_codes (Q₁ := fun v s₁ => v = .ref s.heap.objs.size ∧ s₁ = { s with heap := s.heap.push { cls := .type "list", data := .seq #[] } }) F.called_list (F.typeCall_list_1 _) F.entry_list_init (code_list_new _ ⟨rfl, rfl⟩) fun v s₁ h₁ => ?_
  obtain ⟨rfl, rfl⟩ := h₁
  have hS : (s.heap.push { cls := .type "list", data := .seq #[] }).get? s.heap.objs.size = some { cls := .type "list", data := .seq #[] } := Heap.get?_push_size _ rfl
  refine ⟨⟨_, hS, rfl⟩, F.args_list_init_2 _ _, ?_⟩
  show wpAny _ _ (do let old ← Builtin.List.listItems (.ref s.heap.objs.size); Builtin.List.listUpdate (.ref s.heap.objs.size) (fun _ => #[]); letGo old.toList.reverse; Builtin.List.listExtendWith (.ref s.heap.objs.size) (.ref it) .none) _ _ _
  refine wpAny_bind ?_
  unfold Builtin.List.listItems
  refine wpAny_bind (wpAny_seqItems hS rfl (wpAny_pure ?_))
  show wpAny _ _ (updateSeq s.heap.objs.size (fun _ => #[]) >>= fun _ => letGo (#[] : Array Value).toList.reverse >>= fun _ => Builtin.List.listExtendWith (.ref s.heap.objs.size) (.ref it) .none) _ _ _
  refine wpAny_bind (wpAny_updateSeq hS rfl ?_)
  have hS₂ := Heap.get?_update_self (Obj.mapSeq (fun _ => (#[] : Array Value))) hS rfl
  have oth : ∀ b o, b ≠ s.heap.objs.size → s.heap.get? b = some o → ((s.heap.push { cls := .type "list", data := .seq #[] }).update s.heap.objs.size (Obj.mapSeq (fun _ => (#[] : Array Value)))).get? b = some o :=
    fun b o hb e => (Heap.get?_update_other _ _ (Ne.symm hb)).trans (Heap.get?_push_of_some _ e)
  refine wpAny_bind (wpAny_letGo ?_)
  generalize hgh : (s.heap.push { cls := .type "list", data := .seq #[] }).update s.heap.objs.size (Obj.mapSeq (fun _ => (#[] : Array Value))) = g at hS₂ oth
  have hit1 : g.IsRevIter it l ((items.size : Int) - 1) := hit.at fun o e => oth _ _ ni.symm e
  have hl1 : g.IsList l items := hl.at fun o e => oth _ _ nl.symm e
  have hT : ({ s with heap := g } : Shared).TypeIs (.ref it) "list_reverseiterator" := Heap.IsRevIter.typeIs (s := { s with heap := g }) hit1
  have h1 : Builtin.List.listSameRef (.ref s.heap.objs.size) (.ref it) = false := by simp [Builtin.List.listSameRef, ni]
  have hh2 : A.in1.in1.handled = none := by simp [hh]
  have W := (Walks.listRev (prog := prog) (w := w) (A := A.in1.in1) hh2 it l hne items).toS
  unfold Builtin.List.listExtendWith
  refine wpAny_bind (wpAny_typeOf hT ?_)
  rw [if_neg (by rw [h1]; decide)]
  refine wpAny_bind (wpAny_pyIter_revIter (s := { s with heap := g }) hit1 (wpAny_bind (wpAny_holding ?_)))
  unfold Builtin.List.listLengthHint
  refine wpAny_bind (wpAny_specialOf hT RT.nolen_lri ?_)
  show wpAny _ _ (specialOf (Value.ref it) (Str.ofString "__length_hint__") >>= _) _ _ _
  refine wpAny_bind (wpAny_specialOf hT RT.hint_lri ?_)
  generalize hid : ("list_reverseiterator.__length_hint__" : String) = nm
  wp_delta
  rw [show splitId nm = some ("list_reverseiterator", "__length_hint__") from by subst hid; decide +kernel]
  subst hid
  refine wpAny_bind (wpAny_isInstance (b := true) hT (by rw [isSubtype_type]; kernel_rfl) (wpAny_pure ?_))
  rw [if_neg (by decide)]
  have e0 : ((items.size : Nat) : Int) - 1 - ((0 : Nat) : Int) = (items.size : Int) - 1 := by omega
  refine wpAny_pure ⟨plainId_quiet F.plain_extend_loop _, codeAny_extend_loopS W hn _ away _ items.size 0 _ _ _ rfl (Nat.zero_le _) ⟨Nat.zero_le _, by rw [e0]; exact hit1, hl1⟩ hS₂ (ItemsOf.nil _) fun s' acc' c' mv hS' hacc => ?_⟩
  rw [Moved.eq_with mv]
  refine ⟨rfl, hQ s'.heap s'.toks acc' c' (fun b o hb e => mv.heap b o (fun hmem => ?_) ?_) hS' hacc⟩
  · rcases List.mem_cons.mp hmem with e' | hmem
    · exact absurd (Heap.lt_size e) (by rw [e']; exact Nat.lt_irrefl _)
    · exact hb (List.mem_singleton.mp hmem)
  · exact oth b o (Nat.ne_of_lt (Heap.lt_size e)) e
end
/-- list(reversed(x)), x a list -/
def tListRev (K : PySem.W.Frag) (te : TE) : TE := fun σ H Q => te σ H fun v H1 => ∃ (a : Addr) (xs : List V), v = .ref a ∧ SqL K H1 a xs ∧ ∀ q, H1 q = none → Q (.ref q) (upd H1 q (.lst xs.reverse))
theorem pe_listRev {X : Cx} {e : Expr} {te : TE} {p p2 pos pos2 : Pos} (hg : Gl X "list") (hm : X.mg "list" = none) (hg2 : Gl X "reversed") (hm2 : X.mg "reversed" = none) (he : PE X e te) (hc : X.calm = true := by rfl)
    (hs : starEach [e] X.env = (false, eval e X.env) :: starEach [] X.env := by rfl)
    (hs2 : starEach [.Call (.Name "reversed" p2) [e] [] pos2] X.env = (false, eval (.Call (.Name "reversed" p2) [e] [] pos2) X.env) :: starEach [] X.env := by rfl) :
    PE X (.Call (.Name "list" p) [.Call (.Name "reversed" p2) [e] [] pos2] [] pos) (tListRev X.K te) := by
  constructor
  intro pins s σ H Q I h
  refine Call_ (ld_blt I hg hm boot_list (PyProof.Rows.callWith_type1 (args_cons (Call_ (ld_blt I hg2 hm2 PyProof.Rows.boot_reversed (PyProof.Rows.callWith_type1 (args_cons (thn (he.run pins s σ H _ I h) fun u s1 ⟨v, H1, I1, r1, q1⟩ => args_nil ?_) hs) hs rfl))) hs2) hs2 rfl))
  obtain ⟨a, xs, rfl, hq, q⟩ := q1
  obtain rfl : u = Value.ref a := r1
  obtain ⟨its, rv, pl, hz⟩ := I1.list hq
  refine call_reversed_list pl.isList (args_nil ?_)
  have hl := pl.isList
  obtain ⟨ol, hol, _⟩ := id hl
  have hne : a ≠ s1.heap.objs.size := Nat.ne_of_lt (Heap.lt_size hol)
  have hn : its.toArray.size ≤ sizeLine := by rw [List.size_toArray, ← rv.length]; exact hz
  have sz : (s1.heap.push (revObj a ((its.toArray.size : Int) - 1))).objs.size = s1.heap.objs.size + 1 := Heap.size_push _ _
  refine call_list_rev (s := { s1 with heap := s1.heap.push (revObj a ((its.toArray.size : Int) - 1)) }) (I1.ok.hd hc) ⟨_, Heap.get?_push_size _ rfl, rfl, rfl⟩ (hl.push _) hne hn fun h' tk acc c hk hS hi => ?_
  have e1 : acc.toList.toArray = acc := by simp
  refine ⟨.ref (s1.heap.push (revObj a ((its.toArray.size : Int) - 1))).objs.size, upd H1 _ (.lst xs.reverse), I1.laid (t' := tk) (fun b o e => hk b o (Nat.ne_of_lt (Heap.lt_size e)) (Heap.get?_push_of_some _ e)) (by rw [sz]; exact Nat.le_succ _)
    (show ObjOk X.prog X.w _ h' _ (.lst xs.reverse) from ⟨by rw [List.length_reverse]; exact hz, acc.toList, c, RT.vals_rev rv hi, by rw [e1]; exact hS⟩), rfl, q _ (I1.hok.fresh (by rw [sz]; exact Nat.le_succ _))⟩
end SxA

set_option Elab.async false
set_option linter.all false
set_option maxRecDepth 100000
set_option maxHeartbeats 1000000
namespace Sx
open PySem PySem.Spec PyProof.Rows L2 SxA
/-- a def of the top -/
abbrev Fd (K : PySem.W.Frag) (x : Str) (st : Stmt) : Prop := ∃ fd, FunD K x x (defArgs st) (defBody st) (defScope st) [] [] (He.ga K x) fd
section
variable {P : Program} {w : World} {K : PySem.W.Frag} {mg : Str → Option Value} {base : Heap}
def Ok (P : Program) (w : World) (K : PySem.W.Frag) (mg : Str → Option Value) (base : Heap) (k : Nat) (x : Str) (ps : List Str) (sp : Sp) : Prop :=
  ∃ fd, FnOk P w K mg base CX0 k (He.ga K x) fd ps sp ∧ Binds K fd ps [] ∧ PySem.W.keepIn K (.ref (He.ga K x)) = true ∧ mg x = some (.ref (He.ga K x))
theorem mkOk {x : Str} {st : Stmt} {N ps : List Str} {k : Nat} {sp : Sp} (d : Fd K x st) (hx : mg x = some (.ref (He.ga K x))) (S : FnScope N ps (defScope st)) (len : ∀ vs H Q E, sp vs H Q E → vs.length = ps.length)
    (bnd : ∀ (kV doc pm : Value) (an : Option Addr) (cdv ct : Value) (us : List Value), us.length = ps.length → bindArgs (PySem.W.fnOf x x (defArgs st) (defBody st) (defScope st) .none kV doc pm an cdv ct) ⟨us, []⟩ = pure (ps.zip us))
    (body : ∀ (cdv : Value) (A : Around) (outer : List Env) (s : Shared) (H0 : Hp) (vs : List V) (Q : VK) (E : XK), Room k (A.deeper (envOfC x (defScope st) s.heap.objs.size (He.ga K x) cdv)) → sp vs H0 Q E →
      ∃ t, PSs (cxOf CX0 P w K mg base N x (defScope st) (He.ga K x) cdv A outer s H0 E).nox (defBody st) t ∧ t { nx := fun _ H' => Q .non H', rt := Q } (start N vs) H0) : Ok P w K mg base (k + 1) x ps sp := by
  obtain ⟨fd, F⟩ := d
  refine ⟨fd, F.ok S len fun cdv A outer s H vs Q E hr h => ?_, F.bindsN bnd, F.kp, hx⟩
  obtain ⟨t, h1, h2⟩ := body cdv A outer s H vs Q E hr h
  exact ⟨t, h1.nox, h2⟩
theorem pe_ok {X : Cx} {k : Nat} {x : Str} {ps : List Str} {sp : Sp} {p pos : Pos} {e : Expr} {es : List Expr} {t : TA} (o : Ok X.prog X.w X.K X.mg X.base k x ps sp) (hr : Room k X.A) (hg : Gl X x) (ha : PA X (e :: es) t)
    (hdb : (x == ("__debug__" : Str)) = false := by decide) (hs : starEach (e :: es) X.env = (false, eval e X.env) :: starEach es X.env := by rfl) (hpl : ((backTo pos (starEach es X.env)).any (·.1)) = false := by rfl) :
    PE X (.Call (.Name x p) (e :: es) [] pos) (tCall sp [] E0 t) := by
  obtain ⟨fd, F, b, kp, hm⟩ := o
  exact pe_call F hr hg hm kp b .nil pass0 ha hdb hs hpl
def But (a : Addr) (H H' : Hp) : Prop := ∀ b o, H b = some o → b ≠ a → H' b = some o
theorem But.of {a : Addr} {H H' : Hp} (s : Same H H') : But a H H' := fun b o e _ => s b o e
theorem Same.new {H : Hp} {p : Addr} {o : HO} (h : H p = none) : Same H (upd H p o) := fun b o e => by
  rw [upd_ne (ne_of_none e h)]
  exact e
theorem Same.put {H0 H : Hp} {p : Addr} {o : HO} (s : Same H0 H) (h : H0 p = none) : Same H0 (upd H p o) := fun b o e => by
  rw [upd_ne (ne_of_none e h)]
  exact s b o e
theorem lc_text {z : Str} {ys : List V} {te : TE} {i0 : Nat} {vs : List Nat} {σ : L2.St} {H1 : Hp} {D : Addr} {Qd : Hp → Prop} (hD : H1 D = none) (hl : ys.length = z.cps.toList.length) (hz : ys.length ≤ sizeLine)
    (hw : ∀ c : Nat, wipe ((wipe σ vs).set i0 (some (.str (sg c)))) vs = wipe σ vs)
    (he : ∀ (i c : Nat) (y : V) (H : Hp) (Q : VK), z.cps.toList[i]? = some c → ys[i]? = some y → Same H1 H → (∀ H', Same H H' → Q y H') → te ((wipe σ vs).set i0 (some (.str (sg c)))) H Q)
    (hd : ∀ H, Same H1 H → H D = some (.lst ys) → Qd H) :
    ∃ W : Nat → Nat → Hp → Prop, (∃ m, W 0 m (upd H1 D (.lst []))) ∧ ∀ i m H, W i m H → ((Its z).stop i H ∧ Qd H) ∨ ((Its z).go i H ∧ ∃ Nx : Hp → Prop, (∀ H', Nx H' → ∃ m', m' < m ∧ W (i + 1) m' H') ∧
      ∀ x H', (Its z).yld i H x H' → (gName i0) x (wipe σ vs) H' fun σ2 H2 => wipe σ2 vs = wipe σ vs ∧ tYes σ2 H2 fun b H3 => if b = true then te σ2 H3 fun y H4 => ∃ acc, H4 D = some (.lst acc) ∧ acc.length < sizeLine ∧ Nx (upd H4 D (.lst (acc ++ [y]))) else Nx H3) := by
  have hsz : z.cps.size = ys.length := by rw [hl]; simp
  refine ⟨fun i m H => m = ys.length - i ∧ i ≤ ys.length ∧ Same H1 H ∧ H D = some (.lst (ys.take i)), ⟨ys.length, rfl, Nat.zero_le _, Same.new hD, upd_same⟩, ?_⟩
  rintro i m H ⟨rfl, hi, sm, hH⟩
  by_cases lt : i < ys.length
  · refine .inr ⟨by show i < z.cps.size; omega, fun H' => Same H1 H' ∧ H' D = some (.lst (ys.take (i + 1))), fun H' q => ⟨ys.length - (i + 1), by omega, rfl, lt, q.1, q.2⟩, ?_⟩
    rintro x H' ⟨rfl, c, hc, rfl⟩
    have hc2 : z.cps.toList[i]? = some c := by rw [Array.getElem?_toList]; exact hc
    have hy : ys[i]? = some ys[i] := List.getElem?_eq_getElem lt
    refine ⟨hw c, ?_⟩
    show te _ _ _
    refine he i c _ _ _ hc2 hy sm fun H4 s4 => ⟨ys.take i, s4 _ _ hH, ?_, ?_, ?_⟩
    · rw [List.length_take]; omega
    · exact Same.put (sm.trans s4) hD
    · rw [upd_same, List.take_add_one, hy]; rfl
  · have e : i = ys.length := by omega
    subst e
    refine .inl ⟨by show z.cps.size ≤ ys.length; omega, hd H sm ?_⟩
    rw [hH, List.take_length]
theorem lc_known {a : Addr} {xs ys : List V} {te : TE} {i0 : Nat} {vs : List Nat} {σ : L2.St} {H1 : Hp} {D : Addr} {Qd : Hp → Prop} (hD : H1 D = none) (hq : SqL K H1 a xs) (hl : ys.length = xs.length) (hz : ys.length ≤ sizeLine)
    (hw : ∀ v : V, wipe ((wipe σ vs).set i0 (some v)) vs = wipe σ vs)
    (he : ∀ (i : Nat) (x y : V) (H : Hp) (Q : VK), xs[i]? = some x → ys[i]? = some y → Same H1 H → (∀ H', Same H H' → Q y H') → te ((wipe σ vs).set i0 (some x)) H Q)
    (hd : ∀ H, Same H1 H → H D = some (.lst ys) → Qd H) :
    ∃ W : Nat → Nat → Hp → Prop, (∃ m, W 0 m (upd H1 D (.lst []))) ∧ ∀ i m H, W i m H → ((Itl K a).stop i H ∧ Qd H) ∨ ((Itl K a).go i H ∧ ∃ Nx : Hp → Prop, (∀ H', Nx H' → ∃ m', m' < m ∧ W (i + 1) m' H') ∧
      ∀ x H', (Itl K a).yld i H x H' → (gName i0) x (wipe σ vs) H' fun σ2 H2 => wipe σ2 vs = wipe σ vs ∧ tYes σ2 H2 fun b H3 => if b = true then te σ2 H3 fun y H4 => ∃ acc, H4 D = some (.lst acc) ∧ acc.length < sizeLine ∧ Nx (upd H4 D (.lst (acc ++ [y]))) else Nx H3) := by
  refine lc_list (K := K) (a := a) (xs := xs) (g := gName i0) (tt := tYes) (te := te) (fun i H => Same H1 H ∧ H D = some (.lst (ys.take i))) ⟨Same.new hD, upd_same⟩ (fun i H _ p => p.1.seq hq) ?_ ?_
  · rintro i x H hx ⟨sm, hH⟩
    have lt : i < ys.length := by rw [hl]; exact (List.getElem?_eq_some_iff.mp hx).1
    have hy : ys[i]? = some ys[i] := List.getElem?_eq_getElem lt
    refine ⟨hw x, ?_⟩
    show te _ _ _
    refine he i x _ _ _ hx hy sm fun H4 s4 => ⟨ys.take i, s4 _ _ hH, ?_, Same.put (sm.trans s4) hD, ?_⟩
    · rw [List.length_take]; omega
    · rw [upd_same, List.take_add_one, hy]; rfl
  · rintro H ⟨sm, hH⟩
    rw [← hl, List.take_length] at hH
    exact hd H sm hH
abbrev sl (z : Str) : List Nat := z.cps.toList
theorem sl_len (z : Str) : z.length = (sl z).length := by simp [Str.length]
theorem lt1 (a b : Nat) : decide ((⟨#[a]⟩ : Str).cps.toList < (⟨#[b]⟩ : Str).cps.toList) = decide (a < b) := by
  rw [decide_eq_decide]
  show [a] < [b] ↔ a < b
  rw [List.cons_lt_cons_iff]
  constructor
  · rintro (h | ⟨_, h⟩)
    · exact h
    · exact absurd h (List.not_lt_nil _)
  · exact Or.inl
theorem eq_sg (c e : Nat) : decide (V.str (sg c) = V.str (sg e)) = decide (c = e) := by
  rw [decide_eq_decide]
  exact ⟨fun h => sg_inj (V.str.inj h), fun h => by rw [h]⟩
theorem mkFn {x : Str} {st : Stmt} {N ps : List Str} {k : Nat} {sp : Sp} {fd : FuncData} (F : FunD K x x (defArgs st) (defBody st) (defScope st) [] [] (He.ga K x) fd) (S : FnScope N ps (defScope st)) (len : ∀ vs H Q E, sp vs H Q E → vs.length = ps.length)
    (body : ∀ (cdv : Value) (A : Around) (outer : List Env) (s : Shared) (H0 : Hp) (vs : List V) (Q : VK) (E : XK), Room k (A.deeper (envOfC x (defScope st) s.heap.objs.size (He.ga K x) cdv)) → sp vs H0 Q E →
      ∃ t, PSs (cxOf CX0 P w K mg base N x (defScope st) (He.ga K x) cdv A outer s H0 E).nox (defBody st) t ∧ t { nx := fun _ H' => Q .non H', rt := Q } (start N vs) H0) : FnOk P w K mg base CX0 (k + 1) (He.ga K x) fd ps sp := by
  refine F.ok S len fun cdv A outer s H vs Q E hr h => ?_
  obtain ⟨t, h1, h2⟩ := body cdv A outer s H vs Q E hr h
  exact ⟨t, h1.nox, h2⟩
theorem pgi {X : Cx} {x : Str} {i : Int} {k : Tok} {pos : Pos} (hg : Gl X x) (hm : X.mg x = some (.int i k)) (hd : (x == ("__debug__" : Str)) = false := by decide) : PE X (.Name x pos) (tC (.int i)) := pe_glob (v := .int i) hg hm ⟨_, rfl⟩ hd
theorem pgs {X : Cx} {x z : Str} {k : Tok} {pos : Pos} (hg : Gl X x) (hm : X.mg x = some (.str z k)) (hd : (x == ("__debug__" : Str)) = false := by decide) : PE X (.Name x pos) (tC (.str z)) := pe_glob (v := .str z) hg hm ⟨_, rfl⟩ hd
theorem op_notInK {X : Cx} {K : PySem.W.Frag} (h : X.K = K) : OpR X (compareOp .NotIn) (rIn K true) := by
  subst h
  exact op_notIn_seq
theorem small4 {n : Nat} (h : n ≤ 4000) : n ≤ sizeLine := Nat.le_trans h (by decide)
theorem sqD {D : Addr} {H : Hp} {ys : List V} (h : H D = some (.lst ys)) : SqL K H D ys := SqL.of h
theorem big6 {n : Nat} (h : n ≤ 1000000) : n ≤ sizeLine := Nat.le_trans h (by decide)
def off (a : Addr) (H : Hp) : Hp := fun b => if b = a then none else H b
def fresh (H H' : Hp) : Hp := fun b => match H b with
  | none => H' b
  | some _ => none
theorem off_ne {a b : Addr} {H : Hp} (h : b ≠ a) : off a H b = H b := if_neg h
theorem off_some {a b : Addr} {H : Hp} {o : HO} (h : off a H b = some o) : b ≠ a ∧ H b = some o := by
  unfold off at h
  by_cases e : b = a
  · rw [if_pos e] at h; cases h
  · rw [if_neg e] at h; exact ⟨e, h⟩
theorem fresh_of {H H' : Hp} {b : Addr} (h : H b = none) : fresh H H' b = H' b := by
  unfold fresh; rw [h]
theorem fresh_some {H H' : Hp} {b : Addr} {o : HO} (h : fresh H H' b = some o) : H b = none ∧ H' b = some o := by
  unfold fresh at h
  cases e : H b with
  | none => rw [e] at h; exact ⟨rfl, h⟩
  | some u => rw [e] at h; cases h
theorem off_le {a : Addr} {H : Hp} : Same (off a H) H := fun b o h => (off_some h).2
theorem off_up {a : Addr} {H H' : Hp} (s : Same H H') : Same (off a H) (off a H') := fun b o h => by
  obtain ⟨h1, h2⟩ := off_some h
  rw [off_ne h1]
  exact s _ _ h2
theorem off_but {a : Addr} {H H' : Hp} (s : But a H H') : Same (off a H) (off a H') := fun b o h => by
  obtain ⟨h1, h2⟩ := off_some h
  rw [off_ne h1]
  exact s _ _ h2 h1
theorem off_put (a : Addr) (H : Hp) (o : HO) : off a (upd H a o) = off a H := by
  funext b
  unfold off
  by_cases e : b = a
  · rw [if_pos e, if_pos e]
  · rw [if_neg e, if_neg e, upd_ne e]
theorem off_in {a : Addr} {H0 H : Hp} (s : Same H0 H) (h : H0 a = none) : Same H0 (off a H) := fun b o e => by
  rw [off_ne (ne_of_none e h)]
  exact s _ _ e
theorem fresh_le {H H' : Hp} : Same (fresh H H') H' := fun b o h => (fresh_some h).2
theorem fresh_off {a : Addr} {H H' : Hp} {u : HO} (h : H a = some u) : Same (fresh H H') (off a H') := fun b o e => by
  obtain ⟨h1, h2⟩ := fresh_some e
  rw [off_ne fun q => by rw [q, h] at h1; cases h1]
  exact h2
theorem fresh_up {H H1 H' H2 : Hp} (s : ∀ b, H1 b = none → H b = none) (s2 : Same H' H2) : Same (fresh H1 H') (fresh H H2) := fun b o e => by
  obtain ⟨h1, h2⟩ := fresh_some e
  rw [fresh_of (s b h1)]
  exact s2 _ _ h2
theorem Same.none {H H' : Hp} (s : Same H H') : ∀ b, H' b = Option.none → H b = Option.none := fun b h => s.free h
theorem put_new (f : Str) (v : V) : ∀ fs : List (Str × V), (∀ q ∈ fs, q.1 ≠ f) → putF f v fs = fs ++ [(f, v)]
  | [], _ => rfl
  | (g, x) :: r, h => by
    show (if g = f then (g, v) :: r else (g, x) :: putF f v r) = _
    rw [if_neg (h (g, x) (.head _)), put_new f v r fun q hq => h q (.tail _ hq)]
    rfl
theorem len_put (f : Str) (v : V) : ∀ fs : List (Str × V), (putF f v fs).length ≤ fs.length + 1
  | [] => Nat.le_refl _
  | (g, x) :: r => by
    show (if g = f then (g, v) :: r else (g, x) :: putF f v r).length ≤ _
    by_cases h : g = f
    · rw [if_pos h]; exact Nat.le_succ _
    · rw [if_neg h]; exact Nat.succ_le_succ (len_put f v r)
theorem len_put_lt {f : Str} {v : V} {fs : List (Str × V)} {n : Nat} (h : fs.length ≤ n) : (putF f v fs).length ≤ n + 1 := Nat.le_trans (len_put f v fs) (Nat.succ_le_succ h)
theorem lc_rel {a : Addr} {xs : List V} {te : TE} {i0 : Nat} {vs : List Nat} {σ : L2.St} {H1 : Hp} {D : Addr} {Qd : Hp → Prop} (Rel : Nat → V → Hp → Prop) (hm : ∀ i v H H', Rel i v H → Same H H' → Rel i v H') (hD : H1 D = none) (hq : SqL K H1 a xs) (hz : xs.length ≤ sizeLine)
    (hw : ∀ v : V, wipe ((wipe σ vs).set i0 (some v)) vs = wipe σ vs)
    (he : ∀ (i : Nat) (x : V) (H : Hp) (Q : VK) (acc : List V), xs[i]? = some x → Same H1 H → H D = some (.lst acc) → (∀ y H', Same H H' → Rel i y (fresh H H') → Q y H') → te ((wipe σ vs).set i0 (some x)) H Q)
    (hd : ∀ H ys, Same H1 H → H D = some (.lst ys) → ys.length = xs.length → (∀ i y, ys[i]? = some y → Rel i y (fresh H1 (off D H))) → Qd H) :
    ∃ W : Nat → Nat → Hp → Prop, (∃ m, W 0 m (upd H1 D (.lst []))) ∧ ∀ i m H, W i m H → ((Itl K a).stop i H ∧ Qd H) ∨ ((Itl K a).go i H ∧ ∃ Nx : Hp → Prop, (∀ H', Nx H' → ∃ m', m' < m ∧ W (i + 1) m' H') ∧
      ∀ x H', (Itl K a).yld i H x H' → (gName i0) x (wipe σ vs) H' fun σ2 H2 => wipe σ2 vs = wipe σ vs ∧ tYes σ2 H2 fun b H3 => if b = true then te σ2 H3 fun y H4 => ∃ acc, H4 D = some (.lst acc) ∧ acc.length < sizeLine ∧ Nx (upd H4 D (.lst (acc ++ [y]))) else Nx H3) := by
  refine lc_list (K := K) (a := a) (xs := xs) (g := gName i0) (tt := tYes) (te := te) (fun i H => Same H1 H ∧ ∃ ys, H D = some (.lst ys) ∧ ys.length = i ∧ ∀ j y, ys[j]? = some y → Rel j y (fresh H1 (off D H)))
    ⟨Same.new hD, [], upd_same, rfl, fun j y h => by simp at h⟩ (fun i H _ p => p.1.seq hq) ?_ ?_
  · rintro i x H hx ⟨sm, ys, hH, hl, hr⟩
    have lt : i < xs.length := (List.getElem?_eq_some_iff.mp hx).1
    refine ⟨hw x, ?_⟩
    show te _ _ _
    refine he i x _ _ ys hx sm hH fun y H4 s4 r4 => ⟨ys, s4 _ _ hH, by omega, Same.put (sm.trans s4) hD, ys ++ [y], upd_same, by rw [List.length_append, hl]; rfl, fun j v hj => ?_⟩
    rw [off_put]
    by_cases hji : j < ys.length
    · rw [List.getElem?_append_left hji] at hj
      exact hm _ _ _ _ (hr j v hj) (fresh_up (fun b h => h) (off_up s4))
    · rw [List.getElem?_append_right (by omega)] at hj
      have hj0 : j - ys.length = 0 := by
        have := (List.getElem?_eq_some_iff.mp hj).1
        rw [List.length_singleton] at this
        omega
      rw [hj0] at hj
      obtain rfl : y = v := Option.some.inj hj
      have e : j = i := by omega
      rw [e]
      refine hm _ _ _ _ r4 fun b o e => ?_
      obtain ⟨h1, h2⟩ := fresh_some e
      have hb : b ≠ D := fun q => by rw [q, hH] at h1; cases h1
      rw [fresh_of (Sx.Same.none sm b h1), off_ne hb]
      exact h2
  · rintro H ⟨sm, ys, hH, hl, hr⟩
    exact hd H ys sm hH hl hr
def pInts (cs : List Int) : PyData := .list (cs.map PyData.int)
theorem eqvAll_ints : ∀ xs ys : List Int, PyData.eqvAll (xs.map PyData.int) (ys.map PyData.int) = decide (xs = ys)
  | [], [] => rfl
  | [], y :: ys => by simp [PyData.eqvAll]
  | x :: xs, [] => by simp [PyData.eqvAll]
  | x :: xs, y :: ys => by
    rw [List.map_cons, List.map_cons, PyData.eqvAll, eqvAll_ints xs ys, PyData.eqv]
    by_cases h : x = y
    · subst h; simp
    · simp [h]
theorem eqv_ints (xs ys : List Int) : PyData.eqv (pInts xs) (pInts ys) = decide (xs = ys) := by
  unfold pInts
  rw [PyData.eqv]
  exact eqvAll_ints xs ys
theorem lay_ints : ∀ xs : List Int, PyData.canLayAll0 (xs.map PyData.int) = true
  | [] => rfl
  | x :: xs => by
    rw [List.map_cons, PyData.canLayAll0, lay_ints xs]
    rfl
theorem dep_ints : ∀ xs : List Int, PyData.depthAll (xs.map PyData.int) ≤ 1
  | [] => Nat.zero_le _
  | x :: xs => by
    rw [List.map_cons, PyData.depthAll]
    exact Nat.max_le.mpr ⟨by rw [PyData.depth]; decide, dep_ints xs⟩
theorem shaped_ints (xs : List Int) : SeqAt.shaped (pInts xs) = true := by
  unfold SeqAt.shaped pInts
  rw [PyData.canLay0, lay_ints, PyData.depth]
  have := dep_ints xs
  simp
  omega
theorem dpAll_ints (K : PySem.W.Frag) (H : Hp) : ∀ xs : List Int, DpAll K H (xs.map V.int) (xs.map PyData.int)
  | [] => .nil
  | x :: xs => .cons (.int x) (dpAll_ints K H xs)
theorem dp_ints {K : PySem.W.Frag} {H : Hp} {a : Addr} {xs : List Int} (h : SqL K H a (xs.map V.int)) : Dp K H (.ref a) (pInts xs) := .lst h (dpAll_ints K H xs)
theorem hu64 {A : Around} {k : Nat} (hr : Room k A) : A.units + 64 < cLine := by
  have := hr.un
  omega
theorem lc_zip {a b : Addr} {xs ys zs : List V} {te : TE} {i0 j0 : Nat} {vs : List Nat} {σ : L2.St} {H1 : Hp} {D : Addr} {Qd : Hp → Prop} (hD : H1 D = none) (hx : SqL K H1 a xs) (hy : SqL K H1 b ys) (hl : ys.length = xs.length) (hz : zs.length = xs.length) (hb : zs.length ≤ sizeLine)
    (hw : ∀ u v : V, wipe (((wipe σ vs).set i0 (some u)).set j0 (some v)) vs = wipe σ vs)
    (he : ∀ (i : Nat) (x y z : V) (H : Hp) (Q : VK), xs[i]? = some x → ys[i]? = some y → zs[i]? = some z → Same H1 H → (∀ H', Same H H' → Q z H') → te (((wipe σ vs).set i0 (some x)).set j0 (some y)) H Q)
    (hd : ∀ H, Same H1 H → H D = some (.lst zs) → Qd H) :
    ∃ W : Nat → Nat → Hp → Prop, (∃ m, W 0 m (upd H1 D (.lst []))) ∧ ∀ i m H, W i m H → ((Itz K a b).stop i H ∧ Qd H) ∨ ((Itz K a b).go i H ∧ ∃ Nx : Hp → Prop, (∀ H', Nx H' → ∃ m', m' < m ∧ W (i + 1) m' H') ∧
      ∀ x H', (Itz K a b).yld i H x H' → (gTup K 2 (gCons (gName i0) (gCons (gName j0) gNil))) x (wipe σ vs) H' fun σ2 H2 => wipe σ2 vs = wipe σ vs ∧ tYes σ2 H2 fun b H3 => if b = true then te σ2 H3 fun y H4 => ∃ acc, H4 D = some (.lst acc) ∧ acc.length < sizeLine ∧ Nx (upd H4 D (.lst (acc ++ [y]))) else Nx H3) := by
  refine ⟨fun i m H => m = zs.length - i ∧ i ≤ zs.length ∧ Same H1 H ∧ H D = some (.lst (zs.take i)), ⟨zs.length, rfl, Nat.zero_le _, Same.new hD, upd_same⟩, ?_⟩
  rintro i m H ⟨rfl, hi, sm, hH⟩
  by_cases lt : i < zs.length
  · have ex : xs[i]? = some (xs[i]'(by omega)) := List.getElem?_eq_getElem _
    have ey : ys[i]? = some (ys[i]'(by omega)) := List.getElem?_eq_getElem _
    have ez : zs[i]? = some zs[i] := List.getElem?_eq_getElem lt
    refine .inr ⟨⟨xs, ys, _, _, sm.seq hx, sm.seq hy, ex, ey⟩, fun H' => Same H1 H' ∧ H' D = some (.lst (zs.take (i + 1))), fun H' q => ⟨zs.length - (i + 1), by omega, rfl, lt, q.1, q.2⟩, ?_⟩
    rintro v H' ⟨T, x, y, rfl, hT, rfl, h1, h2⟩
    have hx2 := h1 _ (sm.seq hx)
    have hy2 := h2 _ (sm.seq hy)
    refine ⟨T, [x, y], rfl, SqT.of upd_same, rfl, x, _, rfl, y, _, rfl, rfl, hw x y, ?_⟩
    show te _ _ _
    have nDT : D ≠ T := ne_of_none hH hT
    refine he i x y _ _ _ hx2 hy2 ez (sm.trans (Same.new hT)) fun H4 s4 => ⟨zs.take i, s4 _ _ (by rw [upd_ne nDT]; exact hH), ?_, ?_, ?_⟩
    · rw [List.length_take]; omega
    · exact Same.put ((sm.trans (Same.new hT)).trans s4) hD
    · rw [upd_same, List.take_add_one, ez]; rfl
  · have e : i = zs.length := by omega
    subst e
    refine .inl ⟨⟨xs, ys, sm.seq hx, sm.seq hy, .inl (by omega)⟩, hd H sm ?_⟩
    rw [hH, List.take_length]
theorem lc_rangeF {lo : Int} {n : Nat} {f : Nat → Bool} {F : Nat → V} {tt : TT} {te : TE} {i0 : Nat} {vs : List Nat} {σ : L2.St} {H1 : Hp} {D : Addr} {Qd : Hp → Prop} (hD : H1 D = none) (hn : n ≤ sizeLine)
    (hw : ∀ u : V, wipe ((wipe σ vs).set i0 (some u)) vs = wipe σ vs)
    (ht : ∀ (i : Nat) (H : Hp) (Q : Bool → Hp → Prop), i < n → Same H1 H → Q (f i) H → tt ((wipe σ vs).set i0 (some (.int (lo + (i : Nat))))) H Q)
    (he : ∀ (i : Nat) (H : Hp) (Q : VK), i < n → Same H1 H → Q (F i) H → te ((wipe σ vs).set i0 (some (.int (lo + (i : Nat))))) H Q)
    (hd : ∀ H, Same H1 H → H D = some (.lst (((List.range n).filter f).map F)) → Qd H) :
    ∃ W : Nat → Nat → Hp → Prop, (∃ m, W 0 m (upd H1 D (.lst []))) ∧ ∀ i m H, W i m H → ((Itr lo n).stop i H ∧ Qd H) ∨ ((Itr lo n).go i H ∧ ∃ Nx : Hp → Prop, (∀ H', Nx H' → ∃ m', m' < m ∧ W (i + 1) m' H') ∧
      ∀ x H', (Itr lo n).yld i H x H' → (gName i0) x (wipe σ vs) H' fun σ2 H2 => wipe σ2 vs = wipe σ vs ∧ tt σ2 H2 fun b H3 => if b = true then te σ2 H3 fun y H4 => ∃ acc, H4 D = some (.lst acc) ∧ acc.length < sizeLine ∧ Nx (upd H4 D (.lst (acc ++ [y]))) else Nx H3) := by
  have step : ∀ i, ((List.range (i + 1)).filter f).map F = ((List.range i).filter f).map F ++ (if f i = true then [F i] else []) := fun i => by
    rw [List.range_succ, List.filter_append, List.map_append]
    by_cases h : f i = true
    · rw [if_pos h]; simp [List.filter_cons, h]
    · rw [if_neg h]; simp [List.filter_cons, h]
  have small : ∀ i, i < n → (((List.range i).filter f).map F).length < sizeLine := fun i h => by
    rw [List.length_map]
    have := List.length_filter_le f (List.range i)
    rw [List.length_range] at this
    omega
  refine lc_range (g := gName i0) (tt := tt) (te := te) (fun i H => Same H1 H ∧ H D = some (.lst (((List.range i).filter f).map F))) ⟨Same.new hD, upd_same⟩ ?_ (fun H q => hd H q.1 q.2)
  rintro i H hi ⟨sm, hH⟩
  refine ⟨hw _, ht i H _ hi sm ?_⟩
  by_cases h : f i = true
  · rw [if_pos h]
    refine he i H _ hi sm ⟨_, hH, small i hi, Same.put sm hD, ?_⟩
    rw [upd_same, step, if_pos h]
  · rw [if_neg h]
    exact ⟨sm, by rw [hH, step, if_neg h, List.append_nil]⟩
theorem eq_int (a b : Int) : decide (V.int a = V.int b) = decide (a = b) := by
  rw [decide_eq_decide]
  exact ⟨V.int.inj, congrArg V.int⟩
theorem eq_str (a b : Str) : decide (V.str a = V.str b) = decide (a = b) := by
  rw [decide_eq_decide]
  exact ⟨V.str.inj, congrArg V.str⟩
theorem lc_rangeS {lo : Int} {n : Nat} {f : Nat → Bool} {F : Nat → V} {tt : TT} {te : TE} {i0 : Nat} {vs : List Nat} {σ : L2.St} {H1 : Hp} {D : Addr} {Qd : Hp → Prop} (hD : H1 D = none) (hn : n ≤ sizeLine)
    (hw : ∀ u : V, wipe ((wipe σ vs).set i0 (some u)) vs = wipe σ vs)
    (ht : ∀ (i : Nat) (H : Hp) (Q : Bool → Hp → Prop), i < n → Same H1 H → (∀ H', Same H H' → Q (f i) H') → tt ((wipe σ vs).set i0 (some (.int (lo + (i : Nat))))) H Q)
    (he : ∀ (i : Nat) (H : Hp) (Q : VK), i < n → Same H1 H → Q (F i) H → te ((wipe σ vs).set i0 (some (.int (lo + (i : Nat))))) H Q)
    (hd : ∀ H, Same H1 H → H D = some (.lst (((List.range n).filter f).map F)) → Qd H) :
    ∃ W : Nat → Nat → Hp → Prop, (∃ m, W 0 m (upd H1 D (.lst []))) ∧ ∀ i m H, W i m H → ((Itr lo n).stop i H ∧ Qd H) ∨ ((Itr lo n).go i H ∧ ∃ Nx : Hp → Prop, (∀ H', Nx H' → ∃ m', m' < m ∧ W (i + 1) m' H') ∧
      ∀ x H', (Itr lo n).yld i H x H' → (gName i0) x (wipe σ vs) H' fun σ2 H2 => wipe σ2 vs = wipe σ vs ∧ tt σ2 H2 fun b H3 => if b = true then te σ2 H3 fun y H4 => ∃ acc, H4 D = some (.lst acc) ∧ acc.length < sizeLine ∧ Nx (upd H4 D (.lst (acc ++ [y]))) else Nx H3) := by
  have step : ∀ i, ((List.range (i + 1)).filter f).map F = ((List.range i).filter f).map F ++ (if f i = true then [F i] else []) := fun i => by
    rw [List.range_succ, List.filter_append, List.map_append]
    by_cases h : f i = true
    · rw [if_pos h]; simp [List.filter_cons, h]
    · rw [if_neg h]; simp [List.filter_cons, h]
  have small : ∀ i, i < n → (((List.range i).filter f).map F).length < sizeLine := fun i h => by
    rw [List.length_map]
    have := List.length_filter_le f (List.range i)
    rw [List.length_range] at this
    omega
  refine lc_range (g := gName i0) (tt := tt) (te := te) (fun i H => Same H1 H ∧ H D = some (.lst (((List.range i).filter f).map F))) ⟨Same.new hD, upd_same⟩ ?_ (fun H q => hd H q.1 q.2)
  rintro i H hi ⟨sm, hH⟩
  refine ⟨hw _, ht i H _ hi sm fun H' s' => ?_⟩
  have hH' := s' _ _ hH
  have sm' := sm.trans s'
  by_cases h : f i = true
  · rw [if_pos h]
    refine he i H' _ hi sm' ⟨_, hH', small i hi, Same.put sm' hD, ?_⟩
    rw [upd_same, step, if_pos h]
  · rw [if_neg h]
    exact ⟨sm', by rw [hH', step, if_neg h, List.append_nil]⟩
theorem pe_fldK {X : Cx} {K : PySem.W.Frag} {e : Expr} {f : Str} {pos : Pos} {ta : TE} (h : X.K = K) (ha : PE X e ta) (hb : attributeBase e f X.env (eval e X.env) = eval e X.env := by rfl) : PE X (.Attribute e f pos) (tFld K ta f) := by
  subst h
  exact pe_fld ha hb
def tTru (K : PySem.W.Frag) (ta : TE) : TT := fun σ H Q => ta σ H fun x H' => ∃ k, TruV K x H' k ∧ Q k H'
theorem pt_truthK {X : Cx} {K : PySem.W.Frag} {a : Expr} {ta : TE} (h : X.K = K) (ha : PE X a ta) (he : ∀ whole, isTrue a X.env whole = (do let v ← whole; standAt a.pos; holding [v] (truthy v)) := by intro _; rfl) :
    PT X a (tTru K ta) := by
  subst h
  exact pt_truth ha he
theorem op_inK {X : Cx} {K : PySem.W.Frag} (h : X.K = K) : OpR X (compareOp .In) (rIn K false) := by
  subst h
  exact op_in_seq
theorem But.refl (a : Addr) (H : Hp) : But a H H := fun _ _ e _ => e
theorem But.trans {a : Addr} {H H1 H2 : Hp} (x : But a H H1) (y : But a H1 H2) : But a H H2 := fun b o e hb => y b o (x b o e hb) hb
theorem But.put (a : Addr) (H : Hp) (o : HO) : But a H (upd H a o) := fun b u e hb => by rw [upd_ne hb]; exact e
theorem ix_tupK {X : Cx} {K : PySem.W.Frag} (h : X.K = K) : IxR X (rIxT K) := by
  subst h
  exact ix_tup
theorem ix_listK {X : Cx} {K : PySem.W.Frag} (h : X.K = K) : IxR X (rIxL K) := by
  subst h
  exact ix_list
theorem But.none {a b : Addr} {H H' : Hp} {o : HO} (s : But a H H') (h : H' a = some o) (hb : H' b = Option.none) : H b = Option.none := by
  cases e : H b with
  | none => rfl
  | some u =>
    have n : b ≠ a := fun q => by rw [q, h] at hb; cases hb
    rw [s b u e n] at hb
    cases hb
theorem sl_app (a b : Str) : sl (a ++ b) = sl a ++ sl b := by
  show (a.cps ++ b.cps).toList = _
  simp
theorem sl_sg (c : Nat) : sl (sg c) = [c] := rfl
theorem sl_mt : sl (Str.ofString "") = [] := by decide +kernel
theorem len_app (a b : Str) : (a ++ b).length = a.length + b.length := by
  rw [sl_len, sl_len, sl_len, sl_app, List.length_append]
theorem sl_ext {a b : Str} (h : sl a = sl b) : a = b := by
  obtain ⟨a⟩ := a
  obtain ⟨b⟩ := b
  have : a = b := by
    apply Array.ext'
    exact h
  rw [this]
theorem join_sg : ∀ zs : List Nat, sl (Txt.join (Str.ofString "") (zs.map sg)) = zs := by
  intro zs
  have e : Txt.join (Str.ofString "") (zs.map sg) = Str.join (Str.ofString "") (zs.map sg) := eq_of_beq (join_plain_closes _ _)
  rw [e]
  have e0 : Str.ofString "" = ⟨#[]⟩ := by decide +kernel
  rw [e0]
  induction zs with
  | nil => rfl
  | cons c r ih =>
    cases r with
    | nil => rfl
    | cons d r =>
      have e2 : Str.join ⟨#[]⟩ ((c :: d :: r).map sg) = sg c ++ ⟨#[]⟩ ++ Str.join ⟨#[]⟩ ((d :: r).map sg) := rfl
      rw [e2, sl_app, ih (eq_of_beq (join_plain_closes _ _)), sl_app]
      rfl
theorem lc_signs {z : Str} {tt : TT} {te : TE} {i0 : Nat} {vs : List Nat} {σ : L2.St} {H1 : Hp} {D : Addr} {Qd : Hp → Prop} (Pv : Nat → Hp → Prop) (h0 : Pv 0 (upd H1 D (.lst [])))
    (hs : ∀ (i c : Nat) (H : Hp), (sl z)[i]? = some c → Pv i H → wipe ((wipe σ vs).set i0 (some (.str (sg c)))) vs = wipe σ vs ∧ tt ((wipe σ vs).set i0 (some (.str (sg c)))) H fun b H3 => if b = true then te ((wipe σ vs).set i0 (some (.str (sg c)))) H3 fun y H4 => ∃ acc, H4 D = some (.lst acc) ∧ acc.length < sizeLine ∧ Pv (i + 1) (upd H4 D (.lst (acc ++ [y]))) else Pv (i + 1) H3)
    (hd : ∀ H, Pv (sl z).length H → Qd H) :
    ∃ W : Nat → Nat → Hp → Prop, (∃ m, W 0 m (upd H1 D (.lst []))) ∧ ∀ i m H, W i m H → ((Its z).stop i H ∧ Qd H) ∨ ((Its z).go i H ∧ ∃ Nx : Hp → Prop, (∀ H', Nx H' → ∃ m', m' < m ∧ W (i + 1) m' H') ∧
      ∀ x H', (Its z).yld i H x H' → (gName i0) x (wipe σ vs) H' fun σ2 H2 => wipe σ2 vs = wipe σ vs ∧ tt σ2 H2 fun b H3 => if b = true then te σ2 H3 fun y H4 => ∃ acc, H4 D = some (.lst acc) ∧ acc.length < sizeLine ∧ Nx (upd H4 D (.lst (acc ++ [y]))) else Nx H3) := by
  have hsz : z.cps.size = (sl z).length := by simp
  refine ⟨fun i m H => m = (sl z).length - i ∧ i ≤ (sl z).length ∧ Pv i H, ⟨(sl z).length, rfl, Nat.zero_le _, h0⟩, ?_⟩
  rintro i m H ⟨rfl, hi, p⟩
  by_cases lt : i < (sl z).length
  · refine .inr ⟨by show i < z.cps.size; omega, Pv (i + 1), fun H' q => ⟨(sl z).length - (i + 1), by omega, rfl, lt, q⟩, ?_⟩
    rintro x H' ⟨rfl, c, hc, rfl⟩
    exact hs i c _ (by rw [Array.getElem?_toList]; exact hc) p
  · have e : i = (sl z).length := by omega
    subst e
    exact .inl ⟨by show z.cps.size ≤ (sl z).length; omega, hd H p⟩
theorem for_signs {z : Str} {g : TG} {tb : TS} {D : Ends} {σ : L2.St} {H : Hp} (Pv : Nat → L2.St → Hp → Prop) (h0 : Pv 0 σ H)
    (hs : ∀ (i c : Nat) (σ : L2.St) (H : Hp), (sl z)[i]? = some c → Pv i σ H → g (.str (sg c)) σ H fun σ2 H2 => tb { D with nx := Pv (i + 1), ct := Pv (i + 1), bk := D.nx } σ2 H2) (hd : ∀ σ H, Pv (sl z).length σ H → D.nx σ H) :
    ∃ W : Nat → Nat → L2.St → Hp → Prop, (∃ m, W 0 m σ H) ∧ ∀ i m σ H, W i m σ H → ((Its z).stop i H ∧ D.nx σ H) ∨ ((Its z).go i H ∧ ∃ N : L2.St → Hp → Prop, (∀ σ' H', N σ' H' → ∃ m', m' < m ∧ W (i + 1) m' σ' H') ∧
      ∀ v H', (Its z).yld i H v H' → g v σ H' fun σ2 H2 => tb { D with nx := N, ct := N, bk := D.nx } σ2 H2) := by
  have hsz : z.cps.size = (sl z).length := by simp
  refine ⟨fun i m σ H => m = (sl z).length - i ∧ i ≤ (sl z).length ∧ Pv i σ H, ⟨(sl z).length, rfl, Nat.zero_le _, h0⟩, ?_⟩
  rintro i m σ H ⟨rfl, hi, p⟩
  by_cases lt : i < (sl z).length
  · refine .inr ⟨by show i < z.cps.size; omega, Pv (i + 1), fun σ' H' q => ⟨(sl z).length - (i + 1), by omega, rfl, lt, q⟩, ?_⟩
    rintro x H' ⟨rfl, c, hc, rfl⟩
    exact hs i c σ _ (by rw [Array.getElem?_toList]; exact hc) p
  · have e : i = (sl z).length := by omega
    subst e
    exact .inl ⟨by show z.cps.size ≤ (sl z).length; omega, hd σ H p⟩
theorem RZat {l : List Nat} {u : Int} (h : u.toNat < l.length) (h0 : 0 ≤ u) : atI l u = some l[u.toNat] := by
  have h2 := atI_nat (xs := l) (j := u.toNat) (List.getElem?_eq_getElem h)
  have e : ((u.toNat : Nat) : Int) = u := by omega
  rw [e] at h2
  exact h2
theorem map_snoc {α β : Type} (f : α → β) (l : List α) (x : α) : (l ++ [x]).map f = l.map f ++ [f x] := by simp
end
end Sx

set_option Elab.async false
set_option linter.all false
set_option maxRecDepth 100000
set_option maxHeartbeats 1000000
namespace Sx
open PySem PySem.Spec PyProof.Rows L2 SxA
/-! ### classes: methods that do not raise, and what is made -/
section
variable {P : Program} {w : World} {K : PySem.W.Frag} {mg : Str → Option Value} {base : Heap}
def Met (P : Program) (w : World) (K : PySem.W.Frag) (mg : Str → Option Value) (base : Heap) (k : Nat) (C m : Str) (ps : List Str) (sp : Sp) : Prop :=
  ∃ fd, FnOk P w K mg base CX0 k (He.ma K (He.ga K C) m) fd ps sp ∧ Binds K fd ps []
theorem mkMet {C m qual : Str} {st : Stmt} {N ps : List Str} {k : Nat} {sp : Sp} (d : ∃ fd, FunD K m qual (defArgs st) (defBody st) (defScope st) [] [] (He.ma K (He.ga K C) m) fd) (S : FnScope N ps (defScope st)) (len : ∀ vs H Q E, sp vs H Q E → vs.length = ps.length)
    (bnd : ∀ (kV doc pm : Value) (an : Option Addr) (cdv ct : Value) (us : List Value), us.length = ps.length → bindArgs (PySem.W.fnOf m qual (defArgs st) (defBody st) (defScope st) .none kV doc pm an cdv ct) ⟨us, []⟩ = pure (ps.zip us))
    (body : ∀ (cdv : Value) (A : Around) (outer : List Env) (s : Shared) (H0 : Hp) (vs : List V) (Q : VK) (E : XK), Room k (A.deeper (envOfC qual (defScope st) s.heap.objs.size (He.ma K (He.ga K C) m) cdv)) → sp vs H0 Q E →
      ∃ t, PSs (cxOf CX0 P w K mg base N qual (defScope st) (He.ma K (He.ga K C) m) cdv A outer s H0 E).nox (defBody st) t ∧ t { nx := fun _ H' => Q .non H', rt := Q } (start N vs) H0) : Met P w K mg base (k + 1) C m ps sp := by
  obtain ⟨fd, F⟩ := d
  refine ⟨fd, F.ok S len fun cdv A outer s H vs Q E hr h => ?_, F.bindsN bnd⟩
  obtain ⟨t, h1, h2⟩ := body cdv A outer s H vs Q E hr h
  exact ⟨t, h1.nox, h2⟩
theorem pe_met {X : Cx} {k : Nat} {C m : Str} {ps : List Str} {sp : Sp} {apos pos : Pos} {o e : Expr} {es : List Expr} {ta : TE} {t : TA} {pl : Sem Bool} (M : Met X.prog X.w X.K X.mg X.base k C m ps sp) (c : Cls X.K (He.ga X.K C)) (hm : Meth X.K (He.ga X.K C) m (He.ma X.K (He.ga X.K C) m))
    (hr : Room k X.A) (he : PE X o ta) (ha : PA X (e :: es) t)
    (hst : starEach (e :: es) X.env = (false, eval e X.env) :: starEach es X.env := by rfl) (hpl : (backTo pos (starEach es X.env)).any (·.1) = false := by rfl)
    (ht : eval (.Call (.Attribute o m apos) (e :: es) [] pos) X.env = (do
      let ov ← eval o X.env
      standAt apos.atName
      let (f, first) ← holding [ov] (getMethod ov m pl)
      callWith pos f first (backTo pos (starEach (e :: es) X.env)) (backToKw pos (keywordEach [] X.env))) := by rfl) :
    PE X (.Call (.Attribute o m apos) (e :: es) [] pos) (tMeth (He.ga X.K C) m sp [] E0 ta t) := by
  obtain ⟨fd, F, b⟩ := M
  exact pe_meth he c hm F hr b .nil pass0 ha hst hpl ht
theorem pe_met0 {X : Cx} {k : Nat} {C m : Str} {ps : List Str} {sp : Sp} {apos pos : Pos} {o : Expr} {ta : TE} {pl : Sem Bool} (M : Met X.prog X.w X.K X.mg X.base k C m ps sp) (c : Cls X.K (He.ga X.K C)) (hm : Meth X.K (He.ga X.K C) m (He.ma X.K (He.ga X.K C) m))
    (hr : Room k X.A) (he : PE X o ta)
    (ht : eval (.Call (.Attribute o m apos) [] [] pos) X.env = (do
      let ov ← eval o X.env
      standAt apos.atName
      let (f, first) ← holding [ov] (getMethod ov m pl)
      callWith pos f first (backTo pos (starEach [] X.env)) (backToKw pos (keywordEach [] X.env))) := by rfl) :
    PE X (.Call (.Attribute o m apos) [] [] pos) (tMeth (He.ga X.K C) m sp [] E0 ta tNil) := by
  obtain ⟨fd, F, b⟩ := M
  exact pe_meth0 he c hm F hr b .nil pass0 ht
theorem pe_metK {X : Cx} {K : PySem.W.Frag} {k : Nat} {C m : Str} {ps : List Str} {sp : Sp} {apos pos : Pos} {o e : Expr} {es : List Expr} {ta : TE} {t : TA} {pl : Sem Bool} (h : X.K = K) (M : Met X.prog X.w K X.mg X.base k C m ps sp) (c : Cls K (He.ga K C)) (hm : Meth K (He.ga K C) m (He.ma K (He.ga K C) m))
    (hr : Room k X.A) (he : PE X o ta) (ha : PA X (e :: es) t)
    (hst : starEach (e :: es) X.env = (false, eval e X.env) :: starEach es X.env := by rfl) (hpl : (backTo pos (starEach es X.env)).any (·.1) = false := by rfl)
    (ht : eval (.Call (.Attribute o m apos) (e :: es) [] pos) X.env = (do
      let ov ← eval o X.env
      standAt apos.atName
      let (f, first) ← holding [ov] (getMethod ov m pl)
      callWith pos f first (backTo pos (starEach (e :: es) X.env)) (backToKw pos (keywordEach [] X.env))) := by rfl) :
    PE X (.Call (.Attribute o m apos) (e :: es) [] pos) (tMeth (He.ga K C) m sp [] E0 ta t) := by
  subst h
  exact pe_met M c hm hr he ha hst hpl ht
theorem pe_met0K {X : Cx} {K : PySem.W.Frag} {k : Nat} {C m : Str} {ps : List Str} {sp : Sp} {apos pos : Pos} {o : Expr} {ta : TE} {pl : Sem Bool} (h : X.K = K) (M : Met X.prog X.w K X.mg X.base k C m ps sp) (c : Cls K (He.ga K C)) (hm : Meth K (He.ga K C) m (He.ma K (He.ga K C) m))
    (hr : Room k X.A) (he : PE X o ta)
    (ht : eval (.Call (.Attribute o m apos) [] [] pos) X.env = (do
      let ov ← eval o X.env
      standAt apos.atName
      let (f, first) ← holding [ov] (getMethod ov m pl)
      callWith pos f first (backTo pos (starEach [] X.env)) (backToKw pos (keywordEach [] X.env))) := by rfl) :
    PE X (.Call (.Attribute o m apos) [] [] pos) (tMeth (He.ga K C) m sp [] E0 ta tNil) := by
  subst h
  exact pe_met0 M c hm hr he ht
theorem pe_mk {X : Cx} {k : Nat} {C : Str} {ps : List Str} {sp : Sp} {p pos : Pos} {e : Expr} {es : List Expr} {t : TA} (M : Met X.prog X.w X.K X.mg X.base k C "__init__" ps sp) (m : Mk X.K (He.ga X.K C) (He.ma X.K (He.ga X.K C) "__init__")) (hm : X.mg C = some (.ref (He.ga X.K C)))
    (hr : Room (k + 1) X.A) (hg : Gl X C) (ha : PA X (e :: es) t)
    (hdb : (C == ("__debug__" : Str)) = false := by decide) (he : starEach (e :: es) X.env = (false, eval e X.env) :: starEach es X.env := by rfl) (hpl : (backTo pos (starEach es X.env)).any (·.1) = false := by rfl) :
    PE X (.Call (.Name C p) (e :: es) [] pos) (tMake (He.ga X.K C) sp [] E0 t) := by
  obtain ⟨fd, F, b⟩ := M
  exact pe_make m F hr hg hm b .nil pass0 ha hdb he hpl
end
end Sx

set_option Elab.async false
set_option linter.all false
set_option maxRecDepth 100000
set_option maxHeartbeats 4000000
/-! rules that the layer lacks: enumerate over a text; two except clauses of which the first one has a name; super().__init__ of an own exception -/
namespace SxK
open PySem PySem.Spec PyProof.Rows L2
abbrev sgn (c : Nat) : Str := ⟨#[c]⟩
/-! ### for i, c in enumerate(text) -/
def Ise (z : Str) : It :=
  ⟨fun i _ => i < z.cps.size, fun i H v H' => ∃ T c, v = .ref T ∧ H T = none ∧ H' = upd H T (.tup [.int (i : Nat), .str (sgn c)]) ∧ z.cps[i]? = some c, fun i _ => z.cps.size ≤ i⟩
theorem drawsT {P : Program} {w : World} {A : Around} (hh : A.handled = none) (it : Addr) (z : Str) (t : Tok) : Draws P w A it [it] z.cps.size (SignAt z) (fun i h => h.IsStrIter it (strIterType z) z t i) := by
  unfold strIterType
  cases z.cps.all (· < 128)
  · exact Draws.strWide hh it z t
  · exact Draws.strAscii hh it z t
theorem turn_enumT {P : Program} {w : World} {K : PySem.W.Frag} {elts : List Expr} {kk : Nat} {tpos : Pos} (z : Str) (t : Tok) (e it : Addr) :
    Turn P w K (.Tuple elts kk tpos) (Ise z) [e, it] e (fun i h => (∃ old, IsEnum h e it ((i : Nat) : Int) old) ∧ h.IsStrIter it (strIterType z) z t i ∧ e ≠ it ∧ i ≤ z.cps.size) where
  mem := List.mem_cons_self
  obj := fun i h st b hb => by
    obtain ⟨⟨old, he⟩, ⟨o, ho, hcl, hdt⟩, _, _⟩ := st
    rcases List.mem_cons.mp hb with q | q
    · subst q; exact ⟨_, he, fun v n => nomatch n⟩
    · rw [List.mem_singleton.mp q]; exact ⟨o, ho, fun v n => by rw [hdt] at n; cases n⟩
  keep := fun i h h' st k => by
    obtain ⟨⟨old, he⟩, ⟨o, ho, r⟩, hne, hle⟩ := st
    exact ⟨⟨old, k e List.mem_cons_self _ he⟩, ⟨o, k it (List.mem_cons_of_mem _ List.mem_cons_self) o ho, r⟩, hne, hle⟩
  item := by
    intro X hP hw hK hc i pins s σ H E I hf st hg
    subst hP hw hK
    obtain ⟨⟨old, he⟩, hit, hne, hle⟩ := st
    have el : e < s.heap.objs.size := Heap.lt_size he
    have il : it < s.heap.objs.size := by
      obtain ⟨_, q, _⟩ := id hit
      exact Heap.lt_size q
    have D : Draws X.prog X.w X.A.in1 it [it] z.cps.size (SignAt z) (fun i h => h.IsStrIter it (strIterType z) z t i) := drawsT (A := X.A.in1) (show X.A.in1.handled = none from I.ok.hd hc) it z t
    refine wpAny_pyNext_enum_itemD D he hit hg hne (fun q => hne (List.mem_singleton.mp q)) fun x h' tk hx ho hit' hT hsz hk => ?_
    obtain ⟨c, u, hcz, rfl⟩ := hx
    refine ⟨_, rfl, wpAny_letOwnedTupleGo_enum (s := { s with heap := h', toks := tk + 1 }) ho fun h2 he2 sb => ?_⟩
    have hT2 : h2.get? s.heap.objs.size = some { cls := .type "tuple", data := .seq #[.int i tk, .str ⟨#[c]⟩ u] } := (sb.2 _ (Nat.ne_of_gt el)).trans hT
    have nw : ObjOk X.prog X.w (upd H s.heap.objs.size (.tup [.int (i : Nat), .str (sgn c)])) h2 s.heap.objs.size (.tup [.int (i : Nat), .str (sgn c)]) :=
      ⟨(by show 2 ≤ sizeLine; decide), [.int i tk, .str ⟨#[c]⟩ u], .cons ⟨_, rfl⟩ (.cons ⟨_, rfl⟩ .nil), ⟨_, hT2, rfl, _, rfl⟩⟩
    have I1 : Inv X pins σ (upd H s.heap.objs.size (.tup [.int (i : Nat), .str (sgn c)])) { s with heap := h2, toks := tk + 1 } :=
      I.turnedNew (ch := [e, it]) (fun b ob hb q => by
        have b1 : b ≠ e := fun n => hb (by rw [n]; exact List.mem_cons_self)
        have b2 : b ≠ it := fun n => hb (by rw [n]; exact List.mem_cons_of_mem _ List.mem_cons_self)
        exact (sb.2 b b1).trans (hk b ob b1 b2 q)) hf (Nat.le_refl _) nw
    have e1 : ((i + 1 : Nat) : Int) = (i : Int) + 1 := by omega
    refine ⟨.ref s.heap.objs.size, _, I1, rfl, ⟨_, c, rfl, I.hok.fresh (Nat.le_refl _), rfl, hcz⟩, ⟨⟨_, by rw [e1]; exact he2⟩, ?_, hne, Nat.succ_le_of_lt hg⟩, fun b hb => ?_⟩
    · obtain ⟨o, ho2, r⟩ := hit'
      exact ⟨o, (sb.2 it (Ne.symm hne)).trans ho2, r⟩
    · have lt : b < s.heap.objs.size := by
        rcases List.mem_cons.mp hb with q | q
        · rw [q]; exact el
        · rw [List.mem_singleton.mp q]; exact il
      rw [upd_ne (Nat.ne_of_lt lt)]
      exact (hf b hb).1
  done := by
    intro X hP hw hK hc i pins s σ H E I hf st hg
    subst hP hw hK
    obtain ⟨⟨old, he⟩, hit, hne, hle⟩ := st
    have D : Draws X.prog X.w X.A.in1 it [it] z.cps.size (SignAt z) (fun i h => h.IsStrIter it (strIterType z) z t i) := drawsT (A := X.A.in1) (show X.A.in1.handled = none from I.ok.hd hc) it z t
    obtain ⟨f0, f1, f2, f3, f4, f5⟩ := hf it (List.mem_cons_of_mem _ List.mem_cons_self)
    have ei : i = z.cps.size := Nat.le_antisymm hle hg
    subst ei
    exact wpAny_pyNext_enum_endD D he hit fun h' eb => ⟨rfl, I.turned (t' := s.toks) (fun b o hb q => eb b o hb q) f0 f1 f3 f4 f5⟩
  self := fun A i s Q E st h => by
    obtain ⟨⟨_, he⟩, _⟩ := st
    exact wpAny_pyIter_enum he h
def iEnumT (ta : TA) : TI := fun σ H R => ta σ H fun vs H1 => ∃ z : Str, vs = [.str z] ∧ R (Ise z) H1
theorem pi_enumT {X : Cx} {e : Expr} {ta : TA} {p pos tpos : Pos} {elts : List Expr} {kk : Nat} (hg : Gl X "enumerate") (hm : X.mg "enumerate" = none) (ha : PA X [e] ta) (hs : starEach [e] X.env = [(false, eval e X.env)] := by rfl) :
    PI X (.Tuple elts kk tpos) (.Call (.Name "enumerate" p) [e] [] pos) (iEnumT ta) := by
  refine ⟨fun pins s σ H R I h => ?_⟩
  refine Call_ (ld_blt I hg hm boot_enumerate (PyProof.Rows.callWith_type1 (thn (ha.run pos pins s σ H _ I h) fun us s1 ⟨vs, H1, I1, r1, z, ez, q⟩ => ?_) hs rfl))
  subst ez
  cases r1 with
  | cons r rr =>
    cases rr
    obtain ⟨t, rfl⟩ := r
    have gt : ∀ b, b ∈ [s1.heap.objs.size + 1, s1.heap.objs.size] → s1.heap.objs.size ≤ b := fun b hb => by
      rcases List.mem_cons.mp hb with n | n
      · rw [n]; exact Nat.le_add_right _ _
      · rw [List.mem_singleton.mp n]; exact Nat.le_refl _
    refine call_enumerate_str fun h' he hit hsz hk => wpAny_pyIter_enum he ?_
    exact ⟨s1.heap.objs.size + 1, [s1.heap.objs.size + 1, s1.heap.objs.size], _, _, H1, rfl, I1.kept (t' := s1.toks) hk, turn_enumT z t (s1.heap.objs.size + 1) s1.heap.objs.size,
      ⟨⟨.none, he⟩, hit, Nat.succ_ne_self _, Nat.zero_le _⟩, fun b hb => I1.fpOk (gt b hb) (I1.hok.fresh (gt b hb)), q⟩
theorem for_enumT {z : Str} {g : TG} {tb : TS} {D : Ends} {σ : L2.St} {H : Hp} (Pv : Nat → L2.St → Hp → Prop) (h0 : Pv 0 σ H)
    (hs : ∀ (i c : Nat) (T : Addr) (σ : L2.St) (H : Hp), z.cps.toList[i]? = some c → Pv i σ H → H T = none → g (.ref T) σ (upd H T (.tup [.int (i : Nat), .str (sgn c)])) fun σ2 H2 => tb { D with nx := Pv (i + 1), ct := Pv (i + 1), bk := D.nx } σ2 H2)
    (hd : ∀ σ H, Pv z.cps.toList.length σ H → D.nx σ H) :
    ∃ W : Nat → Nat → L2.St → Hp → Prop, (∃ m, W 0 m σ H) ∧ ∀ i m σ H, W i m σ H → ((Ise z).stop i H ∧ D.nx σ H) ∨ ((Ise z).go i H ∧ ∃ N : L2.St → Hp → Prop, (∀ σ' H', N σ' H' → ∃ m', m' < m ∧ W (i + 1) m' σ' H') ∧
      ∀ v H', (Ise z).yld i H v H' → g v σ H' fun σ2 H2 => tb { D with nx := N, ct := N, bk := D.nx } σ2 H2) := by
  have hsz : z.cps.size = z.cps.toList.length := by simp
  refine ⟨fun i m σ H => m = z.cps.toList.length - i ∧ i ≤ z.cps.toList.length ∧ Pv i σ H, ⟨z.cps.toList.length, rfl, Nat.zero_le _, h0⟩, ?_⟩
  rintro i m σ H ⟨rfl, hi, p⟩
  by_cases lt : i < z.cps.toList.length
  · refine .inr ⟨by show i < z.cps.size; omega, Pv (i + 1), fun σ' H' q => ⟨z.cps.toList.length - (i + 1), by omega, rfl, lt, q⟩, ?_⟩
    rintro v H' ⟨T, c, rfl, hT, rfl, hc⟩
    exact hs i c T σ _ (by rw [Array.getElem?_toList]; exact hc) p hT
  · have e : i = z.cps.toList.length := by omega
    subst e
    exact .inl ⟨by show z.cps.size ≤ z.cps.toList.length; omega, hd σ H p⟩
end SxK

set_option Elab.async false
set_option linter.all false
set_option maxRecDepth 100000
set_option maxHeartbeats 4000000
namespace SxK
open PySem PySem.Spec PyProof.Rows L2
/-! ### try with clauses of which the first one, with a name, takes every exception that is due -/
/-- the ends behind a suite whose name in slot i goes -/
def dropAt (i : Nat) (D : Ends) : Ends := { nx := fun σ' H' => D.nx (σ'.set i none) H', rt := D.rt, bk := fun σ' H' => D.bk (σ'.set i none) H', ct := fun σ' H' => D.ct (σ'.set i none) H' }
def wFirst (K : PySem.W.Frag) (c : Value) (i : Nat) (ts : Addr → Value → Option Addr → TS) (D : Ends) : WX := fun cls d σ H =>
  PySem.W.exmOne K cls c = some true ∧ ∀ a, H a = none → ts a cls d (dropAt i D) (σ.set i (some (.ref a))) H
section
variable {X : Cx} {x n : Str} {c : Value} {i : Nat} {body suite : List Stmt} {b₀ : Stmt} {np pos pos' : Pos} {more : List ExceptHandler} {tb : WX → TS} {ts : Addr → Value → Option Addr → TS}
theorem ps_try_first (st : X.stack = X.env :: X.outer) (fr : X.env.frame = some X.env.locals) (nd : X.N.Nodup) (ni : X.N[i]? = some n) (nl : X.env.kindOf n = some .local) (nc : Names X x c)
    (tryB : ∀ (W : WX) (pn : List (Addr × Obj)) (xe : Value → Shared → Prop), Takes (X.tr pn xe) W → PassesOwn (model X.prog X.w) X.A X.env xe → PSs (X.tr pn xe) body (tb W))
    (suiteB : ∀ (a : Addr) (oe : Obj) (cls : Value) (d : Option Addr) (pn : List (Addr × Obj)), Zc cls d oe → (∃ vs, oe.data = .fields vs) → PSs (X.suite a ((a, oe) :: pn)) (b₀ :: suite) (ts a cls d)) :
    PS X (.Try body (.ExceptHandler (some (.Name x np)) (some n) (b₀ :: suite) pos' :: more) [] [] pos) (fun D σ H => tb (wFirst X.K c i ts D) D σ H) := by
  refine ⟨fun pins s σ H D I h => ?_⟩
  have okX := I.ok
  have afr : X.A.frames = some (X.env :: X.outer) := by rw [okX.frames, st]
  refine wpAny_Try_except (wpAny_mono ((tryB (wFirst X.K c i ts D) (X.pn ++ pins) _ (fun u s2 y => ?_) PassesOwn.looking).run [] s σ H D (I.toTry _) h) (fun f s1 q => ?_) (fun e s1 q => q))
  · obtain ⟨a, B, sJ, pins2, τ, G, cls, d, rfl, J0, inB, upS, air, free, osJ, gnJ, mt, wish⟩ := y
    have J : Inv X pins τ G sJ := J0.ofTry okX
    have air2 : Sky B (X.env :: X.outer) a (Zc cls d) X.env.locals s2.heap := by rw [← st]; exact air
    show wpAny (model X.prog X.w) X.A (noteFrame (.ref a) X.env) _ _ _
    refine Sky.land Zc.steady afr fr air2 fun hL flL upL => ?_
    have JL : Inv X pins τ G { s2 with heap := hL } := J.landed inB flL.1 (upS.trans upL) osJ gnJ
    obtain ⟨oL, vL, eL, zL, dL⟩ := flL.there
    have off : a ∉ frs (X.env :: X.outer) := fun hm => by
      obtain ⟨_, o', e', hnf⟩ := flL.2.2.1.mem hm
      rw [eL] at e'
      cases e'
      exact hnf _ dL
    have aL : a ≠ X.env.locals := fun z => off (List.mem_filterMap.mpr ⟨X.env, List.mem_cons_self, by rw [fr, z]⟩)
    have aF : a ∉ X.fs := fun hm => by
      obtain ⟨e, he, q⟩ := List.mem_filterMap.mp hm
      exact off (List.mem_filterMap.mpr ⟨e, List.mem_cons_of_mem _ he, q⟩)
    have SL := JL.suite eL dL free aL aF
    refine wpAny_handleBy_cons (codeAny_handlers_test ?_) (fun q => by cases q)
    have tyL : PySem.W.Looks (model X.prog X.w) hL (typeOf (.ref a)) cls := fun A Q E s k q => wpAny_typeOf_ref (k _ _ eL) (by rw [zL.1]; exact q)
    have mtL := PySem.W.exm_one (M := model X.prog X.w) JL.kIn tyL mt
    have named : ∀ {Q : Value → Shared → Prop} {E : Value → Shared → Prop}, Q c { s2 with heap := hL } → wpAny (model X.prog X.w) (X.A.mark (some (.ref a))) (eval (.Name x np) X.env) Q E { s2 with heap := hL } := fun {Q E} q => by
      rcases nc with ⟨g1, g2, m1 | ⟨m1, m2, m3⟩⟩
      · exact ld_glob (X := X.suite a ((a, oL) :: (X.pn ++ pins))) SL g1 m1 q g2
      · exact ld_blt (X := X.suite a ((a, oL) :: (X.pn ++ pins))) SL g1 m1 m2 q m3 g2
    refine named (mtL.here (codeAny_handlers_suite_as (HandSPX.lands_againZ flL fun hR flR upR => ?_)))
    have JR : Inv X pins τ G { s2 with heap := hR } := J.landed inB flR.1 ((upS.trans upL).trans upR) osJ gnJ
    obtain ⟨oR, vR, eR, zR, dR⟩ := flR.there
    refine store_ok (X := X.suite a ((a, oR) :: (X.pn ++ pins))) (v := .ref a) (JR.suite eR dR free aL aF) nd ni (.inl nl) rfl (fun s5 S5 => ?_) (.inr nl)
    refine wpAny_mono ((suiteB a oR cls d (X.pn ++ pins) zR ⟨_, dR⟩).run [] s5 _ G _ S5 (wish a free)) (fun f s6 q => ?_) (fun _ _ z => z.elim)
    have goes : ∀ {ρ : L2.St} {F : Hp} {Q : Shared → Prop}, Inv (X.suite a ((a, oR) :: (X.pn ++ pins))) [] ρ F s6 → (∀ s7, Inv X pins (ρ.set i none) F s7 → Q s7) →
        wpAny (model X.prog X.w) X.A (do bindName X.env n .none; unbindBehindTheSuite X.env n pos') (fun _ s7 => Q s7) X.xe s6 := fun {ρ F Q} Sx hq => gone_ok (Sx.unsuite okX) nd ni nl hq
    cases f with
    | ret u =>
      obtain ⟨v, ρ, F, Sx, rv, q⟩ := q
      exact goes Sx fun s7 J7 => ⟨_, _, _, J7, rv, q⟩
    | next =>
      obtain ⟨ρ, F, Sx, q⟩ := q
      exact goes Sx fun s7 J7 => ⟨_, _, J7, q⟩
    | brk =>
      obtain ⟨ρ, F, Sx, q⟩ := q
      exact goes Sx fun s7 J7 => ⟨_, _, J7, q⟩
    | cont =>
      obtain ⟨ρ, F, Sx, q⟩ := q
      exact goes Sx fun s7 J7 => ⟨_, _, J7, q⟩
  · cases f with
    | ret u =>
      obtain ⟨v, τ, G, J, rv, q⟩ := q
      exact ⟨v, τ, G, J.ofTry okX, rv, q⟩
    | next =>
      obtain ⟨τ, G, J, q⟩ := q
      exact wpAny_execs_nil ⟨τ, G, J.ofTry okX, q⟩
    | brk =>
      obtain ⟨τ, G, J, q⟩ := q
      exact ⟨τ, G, J.ofTry okX, q⟩
    | cont =>
      obtain ⟨τ, G, J, q⟩ := q
      exact ⟨τ, G, J.ofTry okX, q⟩
end
end SxK

set_option Elab.async false
set_option linter.all false
set_option maxRecDepth 100000
set_option maxHeartbeats 4000000
namespace SxK
open PySem PySem.Spec PyProof.Rows L2 PySem.Calls
/-! ### an __init__ whose first statement is super().__init__(e), the base's one ValueError's -/
structure SupC (P : Program) (K : PySem.W.Frag) (mg : Str → Option Value) (C fI cc cda : Addr) (nm q : Str) (params : Arguments) (body : List Stmt) (scope : Scope) (fd : FuncData) : Prop where
  ex : OexC K C
  fn : ∃ oc od kV doc pm an ct osl, fd = PySem.W.ksFn nm q params body scope .none kV doc pm an (.ref cda) ct cc ∧ K.lookup fI = some ⟨oc, od, .func fd, osl⟩
  cod : PySem.W.codeIn K (.ref cda) q = true
  file : ∃ cl cd vs sl tf file, K.lookup cda = some ⟨cl, cd, .fields vs, sl⟩ ∧ vs[2]? = some (.str file tf) ∧ ((P.main.file : Str) == file) = true
  cell : ∃ cl cd sl, K.lookup cc = some ⟨cl, cd, .cell (some (.ref C)), sl⟩
  opq : PySem.W.nsIn K cStatics "thirdparty.any" = some none
  ini : PySem.W.ks_superIn K C C "__init__" = some (some (.builtin "ValueError.__init__"))
  sub : PySem.W.mroIn K C (.ref C) = some true
  isB : PySem.W.subIn K (.ref C) (.type "ValueError") = some true
  sup : mg "super" = none
  top : (P.main.scope.names.lookup ("super" : Str)).isSome = false
  iC : PySem.W.findIn K (.ref C) "__init__" = some (some (.ref fI))
  tI : PySem.W.typeIn K (.ref fI) = some (.type "function")
section
variable {X : Cx} {pins : List (Addr × Obj)} {σ : L2.St} {H : Hp} {s : Shared} {a C u : Addr} {us : List Value} {Q : Value → Shared → Prop} {E : Value → Shared → Prop}
/-- the bound ValueError.__init__ is called: nothing of it is told -/
theorem mw_call (T : OexC X.K C) (I : Inv X pins σ H s) (e : H a = some (exo a C none)) (hu : s.heap.get? u = some (PySem.W.kxs_mw "ValueError.__init__" a)) (hl : us.length ≤ sizeLine) (h : ∀ s', Inv X pins σ H s' → Q .none s') :
    wpAny (model X.prog X.w) X.A (call (.ref u) us) Q E s := by
  obtain ⟨nm, q, N, bs, bm, sn, sub, ab, col, dd, k0, k1, k2, k3, k5, hC, hbm⟩ := T.cls
  obtain ⟨t1, ho⟩ := exo_at I.hok e
  obtain ⟨hp, g, d, t, os⟩ := s
  have FB := F.excBase_ValueError
  have mt : (Value.type "method-wrapper" == Value.type "method" || Value.type "method-wrapper" == Value.type "builtin_function_or_method" || Value.type "method-wrapper" == Value.type "method-wrapper") = true := by decide
  refine wpAny_call (codeAny_of_tree ?_); show wpAny _ X.A.in1 (callAny (.ref u) ⟨us, []⟩) _ _ _
  simp only [callAny]; refine wpAny_bind (wpAny_load hu ?_)
  simp only [PySem.W.kxs_mw, mt, if_true]
  refine PySem.W.KFB.if_so (by decide) (wpAny_bind (PySem.W.check_bound_init FB.toExcCallFacts (I.kIn _ _ hC) ho rfl (wpAny_bind (wpAny_pure (wpAny_pure ?_)))))
  refine ⟨plainId_quiet FB.init.plain _, codeAny_builtin FB.initEntry (PySem.W.exc_init_tree (cls := .ref C) (t0 := t1) (dv := none) (c2 := .none) (c3 := .none) (b4 := .bool false) ho hl fun h' k hx _ => ?_)⟩
  have J := I.write (t' := t) (x := a) (e := a) (o := exo a C none) (by rw [e]; exact True.intro) (.inl rfl) k ⟨_, hx⟩ (exo_ok hx)
  have eu : upd H a (exo a C none) = H := funext fun b => by
    by_cases hb : b = a
    · rw [hb, upd_same, e]
    · exact upd_ne hb
  rw [eu] at J
  exact h _ J
end
end SxK

set_option Elab.async false
set_option linter.all false
set_option maxRecDepth 100000
set_option maxHeartbeats 4000000
namespace SxK
open PySem PySem.Spec PyProof.Rows L2 PySem.Calls
/-- the context of such an __init__ -/
def cxSup (CX : CXT) (P : Program) (w : World) (K : PySem.W.Frag) (mg : Str → Option Value) (base : Heap) (N : List Str) (q : Str) (scope : Scope) (f cda cc : Addr) (A : Around) (outer : List Env) (s : Shared) (H : Hp) (E : XK) : Cx :=
  { prog := P, w := w, K := K, mg := mg, base := base, A := A.deeper (PySem.W.ksEnv q scope s.heap.objs.size f (.ref cda) cc), N := N, s_0 := s, H_0 := H, env := PySem.W.ksEnv q scope s.heap.objs.size f (.ref cda) cc, outer := outer,
    stack := PySem.W.ksEnv q scope s.heap.objs.size f (.ref cda) cc :: outer, ex := [], calm := true, fn := fun x => !(x == ("__class__" : Str)), pn := [],
    xe := fun e s' => wpAny (model P w) (A.deeper (PySem.W.ksEnv q scope s.heap.objs.size f (.ref cda) cc)) (leaving (PySem.W.ksEnv q scope s.heap.objs.size f (.ref cda) cc) e) (fun _ s'' => CX outer H s E e s'') (fun e' s'' => CX outer H s E e' s'') s' }
structure ScSup (scope : Scope) (ps : List Str) : Prop where
  kind : scope.kind = .function
  co : scope.isCoroutine = false
  gen : scope.isGenerator = false
  nd : ps.Nodup
  par : ∀ x ∈ ps, scope.names.lookup x = some .local
  nocell : ∀ y ∈ scope.names, y.2 ≠ .cell
  fre : ∀ y ∈ scope.names, y.2 = .free → y.1 = ("__class__" : Str)
  ks : scope.names.lookup ("super" : Str) = some .globalImplicit
  kc : scope.names.lookup ("__class__" : Str) = some .free
section
variable {CX : CXT} {P : Program} {w : World} {K : PySem.W.Frag} {mg : Str → Option Value} {base : Heap} {N ps : List Str} {q nm : Str} {scope : Scope} {C fI cda cc a : Addr} {A : Around} {outer : List Env} {s0 s : Shared} {H0 H : Hp} {E : XK}
  {params : Arguments} {body body2 : List Stmt} {fd : FuncData} {σ : L2.St} {p0 p1 p2 p3 p4 : Pos} {arg : Expr} {t : TA} {G : Hp → Prop} {m : Str → Option Value} {ar : Arg} {pl : Sem Bool}
theorem sup_first (S : SupC P K mg C fI cc cda nm q params body scope fd) (Z : ScSup scope ps) (hp : (params.posonlyargs ++ params.args).head? = some ar) (hpa : ar.arg ∈ ps)
    (I : Inv (cxSup CX P w K mg base N q scope fI cda cc A outer s0 H0 E) [] σ H s) (hns : s.heap.Ns s0.heap.objs.size m) (hv : m ar.arg = some (.ref a)) (e : H a = some (exo a C none))
    (ha : PA (cxSup CX P w K mg base N q scope fI cda cc A outer s0 H0 E) [arg] t)
    (hq : t σ H fun vs H1 => vs.length ≤ 1000 ∧ H1 a = some (exo a C none) ∧ G H1)
    (hs : starEach [arg] (PySem.W.ksEnv q scope s0.heap.objs.size fI (.ref cda) cc) = (false, eval arg (PySem.W.ksEnv q scope s0.heap.objs.size fI (.ref cda) cc)) :: starEach [] (PySem.W.ksEnv q scope s0.heap.objs.size fI (.ref cda) cc) := by rfl)
    (hi : interactive (PySem.W.ksEnv q scope s0.heap.objs.size fI (.ref cda) cc) = false := by rfl)
    (hsw : swapsWith (.Call (.Attribute (.Call (.Name "super" p0) [] [] p1) "__init__" p2) [arg] [] p3) none p4.line (PySem.W.ksEnv q scope s0.heap.objs.size fI (.ref cda) cc) = pure false := by rfl)
    (hev : eval (.Call (.Attribute (.Call (.Name "super" p0) [] [] p1) "__init__" p2) [arg] [] p3) (PySem.W.ksEnv q scope s0.heap.objs.size fI (.ref cda) cc) = (do
      let ov ← attributeBase (.Call (.Name "super" p0) [] [] p1) "__init__" (PySem.W.ksEnv q scope s0.heap.objs.size fI (.ref cda) cc) (eval (.Call (.Name "super" p0) [] [] p1) (PySem.W.ksEnv q scope s0.heap.objs.size fI (.ref cda) cc))
      standAt p2.atName
      let (f, first) ← holding [ov] (getMethod ov "__init__" pl)
      callWith p3 f first (backTo p3 (starEach [arg] (PySem.W.ksEnv q scope s0.heap.objs.size fI (.ref cda) cc))) []) := by rfl) :
    PySem.wpAt (model P w) (A.deeper (PySem.W.ksEnv q scope s0.heap.objs.size fI (.ref cda) cc)) (.func body2 (PySem.W.ksEnv q scope s0.heap.objs.size fI (.ref cda) cc))
      (exec (.Expr (.Call (.Attribute (.Call (.Name "super" p0) [] [] p1) "__init__" p2) [arg] [] p3) p4) (PySem.W.ksEnv q scope s0.heap.objs.size fI (.ref cda) cc))
      (fun f s' => f = .next ∧ ∃ H1, Inv (cxSup CX P w K mg base N q scope fI cda cc A outer s0 H0 E) [] σ H1 s' ∧ H1 a = some (exo a C none) ∧ G H1) (cxSup CX P w K mg base N q scope fI cda cc A outer s0 H0 E).xe s := by
  obtain ⟨oc, od, kV, doc, pm, an, ct, osl, efd, hf⟩ := S.fn
  subst efd
  obtain ⟨cl, cd, vs, sl, tf, file, hcode, hvs, hfile⟩ := S.file
  obtain ⟨cl2, cd2, sl2, hcell⟩ := S.cell
  obtain ⟨cn, cq, cN, bs, bm, sn, sub, ab, col, dd, k0, k1, k2, k3, k5, hC, hbm⟩ := S.ex.cls
  obtain ⟨t1, hx⟩ := exo_at I.hok e
  obtain ⟨mb, hb1, hb2⟩ := I.mod.blt
  have KI : K.In s.heap := I.kIn
  have hcd : PySem.W.clsIn K C = some { name := cn, bases := bs, mro := .ref C :: bm, ns := cN, qualname := cq, hasDict := true, slotNames := sn, subclasses := sub, abstract := ab, collection := col, hasDel := false } := by
    unfold PySem.W.clsIn
    rw [hC]
  have hax : a ≠ C := fun z => by
    have h1 := KI _ _ hC
    rw [← z, hx] at h1
    cases h1
  have hm : PySem.W.alongIn K "__init__" (((Value.ref C :: bm).dropWhile (· != .ref C)).drop 1) = some (some (.builtin "ValueError.__init__")) := by
    have h1 := S.ini
    unfold PySem.W.ks_superIn at h1
    rw [hcd] at h1
    exact h1
  refine ks_wpAt_Expr_any (ks_wpAt_MethodCall (ks_wpAt_super_base (env := PySem.W.ksEnv q scope s0.heap.objs.size fI (.ref cda) cc) Z.ks Z.kc (by decide) rfl (KI _ _ hf) rfl hp rfl (KI _ _ hcode) rfl hvs hfile S.top ?_) hev) hi hsw
  refine PySem.W.ks_loadName_global Z.kind Z.ks (loadGlobal_builtin (env := PySem.W.ksEnv q scope s0.heap.objs.size fI (.ref cda) cc) (I.mod.glob.keeps I.bk) S.sup (hb1.keeps I.bk) ((hb2 _ (by decide)).trans (by decide +kernel)) ⟨rfl, ?_⟩)
  refine wpAny_loadName_free Z.kind Z.kc (by rfl) ⟨_, KI _ _ hcell, rfl⟩ (wpAny_loadName_local Z.kind (Z.par _ hpa) hns hv ?_)
  obtain ⟨hh, g, d, tk, os⟩ := s
  refine ks_wpAny_isType_cls (KI _ _ hC) rfl ⟨rfl, ?_⟩
  refine ks_wpAny_call_super (KI _ _ hC) rfl hx rfl (fun c z => by cases z) (PySem.W.looks_mroIn KI S.sub) fun h1 e1 kp1 => ?_
  have K1 : K.In h1 := KI.keeps kp1
  have lx : PySem.W.Looks (model P w) h1 (isInstance (.ref a) (.type "ValueError")) true :=
    PySem.W.Looks.andThen (a := Value.ref C) (fun A Q E s k q => wpAny_typeOf_ref (k _ _ (kp1 _ _ hx)) q) (PySem.W.looks_subIn K1 S.isB)
  refine PySem.W.kxs_getMethod PySem.W.kxs_ValueError e1 (PySem.W.looks_opaque K1 S.opq) (l₀ := .ref C :: bm) ((PySem.W.looks_clsIn K1 hcd).andThen .now) rfl K1 hm lx hax (by decide) ?_
  have kp2 : ∀ b o, hh.get? b = some o → (h1.push (PySem.W.kxs_mw "ValueError.__init__" a)).get? b = some o := fun b o z => Heap.get?_push_of_some _ (kp1 _ _ z)
  have hu : (h1.push (PySem.W.kxs_mw "ValueError.__init__" a)).get? h1.objs.size = some (PySem.W.kxs_mw "ValueError.__init__" a) := Heap.get?_push_size _ rfl
  have I2 : Inv (cxSup CX P w K mg base N q scope fI cda cc A outer s0 H0 E) [] σ H ⟨h1.push (PySem.W.kxs_mw "ValueError.__init__" a), g, d, tk + 1, os⟩ := I.kept (t' := tk + 1) kp2
  have hle : hh.objs.size ≤ h1.objs.size := Nat.le_of_lt (Heap.lt_size e1)
  have I3 : Inv (cxSup CX P w K mg base N q scope fI cda cc A outer s0 H0 E) [(h1.objs.size, PySem.W.kxs_mw "ValueError.__init__" a)] σ H ⟨h1.push (PySem.W.kxs_mw "ValueError.__init__" a), g, d, tk + 1, os⟩ := I2.pins_of fun p hpp => by
    rw [List.mem_singleton.mp hpp]
    exact ⟨hu, I.hok.fresh hle, Nat.ne_of_gt (Nat.lt_of_lt_of_le I.lt hle), I.nofs hle, fun v z => by cases z⟩
  have run := ha.run p3 _ _ σ H _ I3 hq
  show wpAny _ _ (callWith p3 (.ref h1.objs.size) [] (backTo p3 (starEach [arg] (PySem.W.ksEnv q scope s0.heap.objs.size fI (.ref cda) cc))) []) _ _ _
  have run2 : wpAny (model P w) (A.deeper (PySem.W.ksEnv q scope s0.heap.objs.size fI (.ref cda) cc)) (spliced (backTo p3 (starEach [arg] (PySem.W.ksEnv q scope s0.heap.objs.size fI (.ref cda) cc)))) _ _ _ := run
  rw [hs] at run2 ⊢
  refine PySem.W.kxs_callWith (i := "ValueError.__init__") (x := a) rfl (evalArgs_plain (thn run2 fun us s4 h4 => ?_))
  obtain ⟨vs4, H4, I4, r4, l4, e4, q4⟩ := h4
  have hu4 := (I4.pin _ (List.mem_append_right _ List.mem_cons_self)).1
  refine ⟨hu4, mw_call (X := cxSup CX P w K mg base N q scope fI cda cc A outer s0 H0 E) S.ex I4 e4 hu4 (by rw [List.nil_append, ← r4.length, sizeLine_eq]; omega) fun s5 J5 => ?_⟩
  exact ⟨rfl, H4, J5.pins_of (pins' := []) (fun p hpp => absurd hpp (List.not_mem_nil)), e4, q4⟩
end
end SxK

set_option Elab.async false
set_option linter.all false
set_option maxRecDepth 100000
set_option maxHeartbeats 4000000
namespace SxK
open PySem PySem.Spec PyProof.Rows L2 PySem.Calls
theorem look_rev : ∀ (ps : List Str) (us : List Value) (i : Nat) (x : Str) (u : Value), ps.Nodup → ps[i]? = some x → us[i]? = some u → (ps.zip us).reverse.lookup x = some u
  | [], _, _, _, _, _, h, _ => by simp at h
  | _ :: _, [], _, _, _, _, _, h => by simp at h
  | p :: ps, v :: us, i, x, u, nd, h1, h2 => by
    obtain ⟨n1, n2⟩ := List.nodup_cons.mp nd
    rw [List.zip_cons_cons, List.reverse_cons, List.lookup_append]
    cases i with
    | zero =>
      have e1 : p = x := by simpa using h1
      have e2 : v = u := by simpa using h2
      subst e1 e2
      have e3 : (ps.zip us).reverse.lookup p = none := by
        rw [List.lookup_eq_none_iff]
        intro q hq
        have h3 := (List.of_mem_zip (List.mem_reverse.mp hq : (q.1, q.2) ∈ ps.zip us)).1
        have h4 : p ≠ q.1 := fun z => n1 (by rw [z]; exact h3)
        simpa using h4
      rw [e3]
      simp [List.lookup]
    | succ i => rw [look_rev ps us i x u n2 (by simpa using h1) (by simpa using h2)]; rfl
section
variable {CX : CXT} {P : Program} {w : World} {K : PySem.W.Frag} {mg : Str → Option Value} {base : Heap} {ps : List Str} {q nm : Str} {scope : Scope} {C fI cda cc : Addr}
  {params : Arguments} {rest : List Stmt} {fd : FuncData} {p0 p1 p2 p3 p4 : Pos} {arg : Expr} {ar : Arg} {pl : Sem Bool} {sp : Sp} {k : Nat}
theorem sup_start {body : List Stmt} {A : Around} {outer : List Env} {s : Shared} {H : Hp} {E : XK} {us : List Value} {vs : List V} {h0 : Heap} {tk : Nat} (S : SupC P K mg C fI cc cda nm q params body scope fd) (Z : ScSup scope ps)
    (hd : A.handled = none) (e0 : Env0 P w K mg base A outer s H) (hl : vs.length = ps.length) (r : Vals vs us) (hns : h0.Ns s.heap.objs.size (fun x => (ps.zip us).reverse.lookup x)) (hk : ∀ b o, s.heap.get? b = some o → h0.get? b = some o) :
    Inv (cxSup CX P w K mg base ps q scope fI cda cc A outer s H E) [] (start ps vs) H { s with heap := h0, toks := tk } := by
  obtain ⟨cl2, cd2, sl2, hcell⟩ := S.cell
  have hc0 := e0.bs _ _ (e0.mod.kin _ _ hcell)
  have none_in : ∀ b : Addr, b ∉ (cxSup CX P w K mg base ps q scope fI cda cc A outer s H E).ex := fun b z => absurd (show b ∈ ([] : List Addr) from z) List.not_mem_nil
  have cells : ∀ y c, (cxSup CX P w K mg base ps q scope fI cda cc A outer s H E).env.cells.lookup y = some c → y = ("__class__" : Str) ∧ c = cc := fun y c z => by
    have z1 : List.lookup y [(("__class__" : Str), cc)] = some c := z
    by_cases hy : y = ("__class__" : Str)
    · subst hy
      have z2 : List.lookup ("__class__" : Str) [(("__class__" : Str), cc)] = some cc := by simp [List.lookup]
      rw [z2] at z1
      exact ⟨rfl, (Option.some.inj z1).symm⟩
    · have q1 : (y == ("__class__" : Str)) = false := by simpa using hy
      simp [List.lookup, q1] at z1
  have upto : ∀ i v, (start ps vs)[i]? = some (some v) → vs[i]? = some v := fun i v z => by
    unfold L2.start at z
    rw [hl, Nat.sub_self, List.replicate_zero, List.append_nil, List.getElem?_map] at z
    cases n : vs[i]? with
    | none => rw [n] at z; cases z
    | some a => rw [n] at z; cases z; rfl
  refine ⟨⟨e0.mod, Z.kind, rfl, rfl, Nat.le_refl _, fun y z c h1 h2 => by rw [(cells _ _ h1).1, (cells _ _ h2).1], fun y hy => ?_, fun y c h1 h2 => ?_, fun _ => hd, Around.frames_deeper e0.frames, .inr ⟨rfl, rfl⟩, fun b z => absurd z (none_in b), e0.bs, e0.bsz, fun b _ _ => none_in b,
      fun b z => absurd z (none_in b), e0.funs, e0.frf⟩, rfl, e0.bare, Un.kept hk, ⟨_, hns, fun i y v h1 h2 h3 => ?_⟩, fun y c h => ?_, e0.hok.fresh (Nat.le_refl _), fun y c h => ?_, fun p hp => absurd (show p ∈ ([] : List (Addr × Obj)) from hp) List.not_mem_nil, e0.hok.kept hk, ?_⟩
  · have hy' : scope.names.lookup y = some .cell ∨ scope.names.lookup y = some .free := hy
    rcases hy' with z | z
    · exact absurd rfl (Z.nocell _ (PySem.mem_of_lookup z))
    · have e1 := Z.fre _ (PySem.mem_of_lookup z) rfl
      have e2 : y = ("__class__" : Str) := e1
      subst e2
      exact ⟨cc, by show List.lookup ("__class__" : Str) [(("__class__" : Str), cc)] = some cc; simp [List.lookup]⟩
  · have h1' : (!(y == ("__class__" : Str))) = true := h1
    rw [(cells _ _ h2).1] at h1'
    simp at h1'
  · obtain ⟨u, hu, rv⟩ := r.get (upto i v h2)
    exact ⟨u, rv, .inl ⟨Z.par y (List.mem_of_getElem? h1), look_rev ps us i y u Z.nd h1 hu⟩⟩
  · rw [(cells _ _ h).2]
    exact ⟨_, _, hk _ _ hc0.1, rfl⟩
  · rw [(cells _ _ h).2]
    exact hc0.2
  · unfold L2.start
    show _ = ps.length
    rw [List.length_append, List.length_map, List.length_replicate]
    omega
theorem fn_sup (S : SupC P K mg C fI cc cda nm q params (.Expr (.Call (.Attribute (.Call (.Name "super" p0) [] [] p1) "__init__" p2) [arg] [] p3) p4 :: rest) scope fd) (Z : ScSup scope ps)
    (hp : (params.posonlyargs ++ params.args).head? = some ar) (hps : ps[0]? = some ar.arg) (len : ∀ vs H Q E, sp vs H Q E → vs.length = ps.length)
    (body : ∀ (A : Around) (outer : List Env) (s : Shared) (H : Hp) (vs : List V) (Q : VK) (E : XK), Room k (A.deeper (PySem.W.ksEnv q scope s.heap.objs.size fI (.ref cda) cc)) → sp vs H Q E →
      ∃ (t : TA) (t2 : TS) (a : Addr) (vr : List V), PA (cxSup CX P w K mg base ps q scope fI cda cc A outer s H E) [arg] t ∧ PSs (cxSup CX P w K mg base ps q scope fI cda cc A outer s H E) rest t2 ∧ vs = .ref a :: vr ∧ H a = some (exo a C none) ∧
        t (start ps vs) H fun us H1 => us.length ≤ 1000 ∧ H1 a = some (exo a C none) ∧ t2 { nx := fun _ H' => Q .non H', rt := Q } (start ps vs) H1)
    (hs : ∀ L, starEach [arg] (PySem.W.ksEnv q scope L fI (.ref cda) cc) = (false, eval arg (PySem.W.ksEnv q scope L fI (.ref cda) cc)) :: starEach [] (PySem.W.ksEnv q scope L fI (.ref cda) cc))
    (hi : ∀ L, interactive (PySem.W.ksEnv q scope L fI (.ref cda) cc) = false)
    (hsw : ∀ L, swapsWith (.Call (.Attribute (.Call (.Name "super" p0) [] [] p1) "__init__" p2) [arg] [] p3) none p4.line (PySem.W.ksEnv q scope L fI (.ref cda) cc) = pure false)
    (hev : ∀ L, eval (.Call (.Attribute (.Call (.Name "super" p0) [] [] p1) "__init__" p2) [arg] [] p3) (PySem.W.ksEnv q scope L fI (.ref cda) cc) = (do
      let ov ← attributeBase (.Call (.Name "super" p0) [] [] p1) "__init__" (PySem.W.ksEnv q scope L fI (.ref cda) cc) (eval (.Call (.Name "super" p0) [] [] p1) (PySem.W.ksEnv q scope L fI (.ref cda) cc))
      standAt p2.atName
      let (f, first) ← holding [ov] (getMethod ov "__init__" pl)
      callWith p3 f first (backTo p3 (starEach [arg] (PySem.W.ksEnv q scope L fI (.ref cda) cc))) [])) : FnOk P w K mg base CX (k + 1) fI fd ps sp := by
  refine ⟨len, fun A outer s H args us vs Q E hr e0 hb r hsp => ?_⟩
  have hl := len _ _ _ _ hsp
  obtain ⟨t, t2, a, vr, ha, hr2, evs, he, hq⟩ := body A outer s H vs Q E (hr.deeper _) hsp
  have KX : K.In s.heap := e0.mod.kin.keeps fun b o e => (e0.bs b o e).1
  have lim : s.heap.NoLimit := e0.mod.nolimit.keeps fun b o e => (e0.bs b o e).1
  obtain ⟨u0, hu0, ru0⟩ := r.get (i := 0) (x := V.ref a) (by rw [evs]; rfl)
  obtain rfl : u0 = Value.ref a := ru0
  obtain ⟨oc, od, kV, doc, pm, an, ct, osl, efd, hf⟩ := id S.fn
  refine ks_codeAny_call_defAt (fd := fd) (body := .Expr (.Call (.Attribute (.Call (.Name "super" p0) [] [] p1) "__init__" p2) [arg] [] p3) p4 :: rest) (binds := ps.zip us) hr.depth (KX _ _ hf) rfl lim
    (by rw [efd]; exact PySem.W.codeRec_of KX S.cod) (by rw [efd]) hb (by rw [efd]; exact Z.nocell) (by rw [efd]; exact fun y hy => Z.par _ (List.of_mem_zip (show (y.1, y.2) ∈ ps.zip us from hy)).1) (fun h0 hns hk => ?_) (by rw [efd]; exact Z.co) (by rw [efd]; exact Z.gen) (by rw [efd]; exact Z.kind)
  have I : Inv (cxSup CX P w K mg base ps q scope fI cda cc A outer s H E) [] (start ps vs) H { s with heap := h0, toks := s.toks + (ps.zip us).length } := sup_start S Z hr.hd e0 hl r hns hk
  have ee : callEnv fd s.heap.objs.size fI = PySem.W.ksEnv q scope s.heap.objs.size fI (.ref cda) cc := by rw [efd]; rfl
  rw [ee]
  refine ks_wpAt_execs_cons (ks_wpAt_mono (sup_first S Z hp (List.mem_of_getElem? hps) I hns (look_rev ps us 0 _ _ Z.nd hps hu0) he ha hq (hs _) (hi _) (hsw _) (hev _)) (fun f s1 h1 => ?_) fun e s1 h1 => h1)
  obtain ⟨rfl, H1, I1, e1, q1⟩ := h1
  refine wpAt_of_wpAny (wpAny_mono (hr2.run [] s1 (start ps vs) H1 _ I1 q1) (fun fl s2 h2 => ?_) fun e s2 h2 => h2)
  cases fl with
  | ret u =>
    obtain ⟨v, σ', H', J, rv, z⟩ := h2
    exact ⟨v, H', J.os, J.bare, J.base, J.hok, rv, z⟩
  | next =>
    obtain ⟨σ', H', J, z⟩ := h2
    exact ⟨V.non, H', J.os, J.bare, J.base, J.hok, rfl, z⟩
  | brk => obtain ⟨_, _, _, z⟩ := h2; exact z.elim
  | cont => obtain ⟨_, _, _, z⟩ := h2; exact z.elim
end
end SxK

set_option Elab.async false
set_option linter.all false
set_option maxRecDepth 100000
set_option maxHeartbeats 2000000
namespace SxK
open PySem PySem.Spec PyProof.Rows L2
/-! ### facts of own exceptions, read at the head -/
def oexB (K : PySem.W.Frag) (C : Addr) : Bool := match K.lookup C with
  | some ⟨.type "type", _, .cls cd, sl⟩ => (match cd.mro, sl.toList with
    | .ref C' :: bm, [_, _, _, _, some (.builtin n), _] => decide (C' = C) && (decide (n = "ValueError.__new__") && (!cd.hasDel && (cd.hasDict && PySem.HandSPX.refsVE bm)))
    | _, _ => false)
  | _ => false
theorem oexB_ok {K : PySem.W.Frag} {C : Addr} (h : oexB K C = true) :
    ∃ nm q N bs bm sn sub ab col dd k0 k1 k2 k3 k5, K.lookup C = some (excClassObj nm q C N bs bm true sn sub ab col dd k0 k1 k2 k3 k5 "ValueError.__new__") ∧ PySem.HandSPX.refsVE bm = true := by
  unfold oexB at h
  split at h
  · rename_i dd cd sl ho
    split at h
    · rename_i C' bm k0 k1 k2 k3 n k5 hm hs
      obtain ⟨nm, bs, mro, ns, qn, hd, sn, sb, ab, col, del⟩ := cd
      obtain ⟨l⟩ := sl
      have hs' : l = [k0, k1, k2, k3, some (.builtin n), k5] := hs
      have hm' : mro = .ref C' :: bm := hm
      subst hs' hm'
      obtain ⟨h1, h⟩ := Bool.and_eq_true_iff.mp h
      obtain ⟨h2, h⟩ := Bool.and_eq_true_iff.mp h
      obtain ⟨h3, h⟩ := Bool.and_eq_true_iff.mp h
      obtain ⟨h4, h5⟩ := Bool.and_eq_true_iff.mp h
      have h1' := of_decide_eq_true h1
      have h2' := of_decide_eq_true h2
      have h3' : del = false := by simpa using h3
      have h4' : hd = true := h4
      subst h1' h2' h3' h4'
      exact ⟨_, _, _, _, _, _, _, _, _, _, _, _, _, _, _, ho, h5⟩
    · cases h
  · cases h
abbrev FnS : Type := Option (Str × Str × Arguments × FuncBody × Scope × Addr × Addr)
/-- one such class: its name, its __init__ -/
structure SupD where
  cls : Str
  qual : Str
  params : Arguments
  body : List Stmt
  scope : Scope
  file : Str
  ats : List Str
def SupD.I (K : PySem.W.Frag) (d : SupD) : Addr := He.ma K (He.ga K d.cls) "__init__"
def SupD.obs (K : PySem.W.Frag) (d : SupD) : FnS := match K.lookup (d.I K) with
  | some ⟨_, _, .func fd, _⟩ => some (fd.name, fd.qualname, fd.params, fd.body, fd.scope, fd.globals, fd.builtins)
  | _ => none
def SupD.val (d : SupD) : FnS := some ("__init__", d.qual, d.params, .stmts d.body, d.scope, mainGlobals, builtinsNs)
def SupD.fnB (K : PySem.W.Frag) (d : SupD) : Bool := match K.lookup (d.I K) with
  | some ⟨_, _, .func fd, _⟩ => (match fd.defaults, fd.code, fd.closure with
    | .none, .ref cda, [(n, cc)] => decide (n = "__class__") && (PySem.W.codeIn K (.ref cda) d.qual && ((match K.lookup cda with
        | some ⟨_, _, .fields vs, _⟩ => (match vs[2]? with
          | some (Value.str f _) => decide (f = d.file)
          | _ => false)
        | _ => false) && (match K.lookup cc with
        | some ⟨_, _, .cell (some (.ref D)), _⟩ => decide (D = He.ga K d.cls)
        | _ => false)))
    | _, _, _ => false)
  | _ => false
def SupD.ok (K : PySem.W.Frag) (d : SupD) : Bool :=
  oexB K (He.ga K d.cls) && (xfB K (He.ga K d.cls) && (d.fnB K && (He.eqO (PySem.W.findIn K (.ref (He.ga K d.cls)) "__setattr__") (some (some (.builtin "object.__setattr__"))) && (
  decide (PySem.W.subIn K (.ref (He.ga K d.cls)) (.type "BaseException") = some true) && (decide (PySem.W.typeIn K (.ref (He.ga K d.cls)) = some (.type "type")) && (PySem.W.keepIn K (.ref (He.ga K d.cls)) && (
  He.eqO (PySem.W.nsIn K cStatics "thirdparty.any") (some none) && (He.eqO (PySem.W.ks_superIn K (He.ga K d.cls) (He.ga K d.cls) "__init__") (some (some (.builtin "ValueError.__init__"))) && (
  decide (PySem.W.mroIn K (He.ga K d.cls) (.ref (He.ga K d.cls)) = some true) && (decide (PySem.W.subIn K (.ref (He.ga K d.cls)) (.type "ValueError") = some true) && (He.eqO (PySem.W.nsIn K mainGlobals "super") (some none) && (
  He.eqO (PySem.W.findIn K (.ref (He.ga K d.cls)) "__init__") (some (some (.ref (d.I K)))) && (decide (PySem.W.typeIn K (.ref (d.I K)) = some (.type "function")) && (He.eqO (PySem.W.nsIn K mainGlobals d.cls) (some (some (.ref (He.ga K d.cls)))) && (
  decide (PySem.W.exmOne K (.ref (He.ga K d.cls)) (.ref (He.ga K d.cls)) = some true) &&
  d.ats.all fun f => He.eqO (PySem.W.findIn K (.ref (He.ga K d.cls)) f) (some none))))))))))))))))
/-- what is known of such a class -/
structure ErrC (P : Program) (K : PySem.W.Frag) (mg : Str → Option Value) (d : SupD) : Prop where
  sup : ∃ cc cda fd, SupC P K mg (He.ga K d.cls) (d.I K) cc cda "__init__" d.qual d.params d.body d.scope fd
  xf : XfC K (He.ga K d.cls)
  glob : mg d.cls = some (.ref (He.ga K d.cls))
  exm : PySem.W.exmOne K (.ref (He.ga K d.cls)) (.ref (He.ga K d.cls)) = some true
  ats : ∀ f ∈ d.ats, PySem.W.findIn K (.ref (He.ga K d.cls)) f = some none
theorem SupD.err {P : Program} {K : PySem.W.Frag} {mg : Str → Option Value} {d : SupD} {h : Heap} (X : K.In h) (G : h.Ns mainGlobals mg) (e : d.obs K = d.val) (c : d.ok K = true) (hfile : P.main.file = d.file)
    (htop : (P.main.scope.names.lookup ("super" : Str)).isSome = false) : ErrC P K mg d := by
  unfold SupD.ok at c
  obtain ⟨c1, c⟩ := He.ba c
  obtain ⟨c2, c⟩ := He.ba c
  obtain ⟨c3, c⟩ := He.ba c
  obtain ⟨c4, c⟩ := He.ba c
  obtain ⟨c5, c⟩ := He.ba c
  obtain ⟨c6, c⟩ := He.ba c
  obtain ⟨c7, c⟩ := He.ba c
  obtain ⟨c8, c⟩ := He.ba c
  obtain ⟨c9, c⟩ := He.ba c
  obtain ⟨c10, c⟩ := He.ba c
  obtain ⟨c11, c⟩ := He.ba c
  obtain ⟨c12, c⟩ := He.ba c
  obtain ⟨c13, c⟩ := He.ba c
  obtain ⟨c14, c⟩ := He.ba c
  obtain ⟨c15, c⟩ := He.ba c
  obtain ⟨c16, c17⟩ := He.ba c
  refine ⟨?_, xfB_ok c2, PySem.W.mg_of X G (He.eqO_ok c15), of_decide_eq_true c16, fun f hf => He.eqO_ok (List.all_eq_true.mp c17 f hf)⟩
  have ex : OexC K (He.ga K d.cls) := ⟨oexB_ok c1, He.eqO_ok c4, of_decide_eq_true c5, of_decide_eq_true c6, c7⟩
  unfold SupD.fnB at c3
  unfold SupD.obs at e
  split at c3
  · rename_i o1 o2 fd o3 ho
    rw [ho] at e
    split at c3
    · rename_i cda n cc e1 e2 e3
      obtain ⟨d1, c3⟩ := He.ba c3
      obtain ⟨d2, c3⟩ := He.ba c3
      obtain ⟨d3, d4⟩ := He.ba c3
      obtain ⟨n1, n2, n3, n4, n5, n6, n7, n8, n9, n10, n11, n12, n13, n14, n15⟩ := fd
      have e4 : (some (n1, n2, n3, n4, n5, n6, n15) : FnS) = (some ("__init__", d.qual, d.params, .stmts d.body, d.scope, mainGlobals, builtinsNs) : FnS) := e
      simp only [Option.some.injEq, Prod.mk.injEq] at e4
      obtain ⟨h1, h2, h3, h4, h5, h6, h7⟩ := e4
      have e1' : n8 = .none := e1
      have e2' : n13 = .ref cda := e2
      have e3' : n7 = [(n, cc)] := e3
      have d1' := of_decide_eq_true d1
      subst h1 h2 h3 h4 h5 h6 h7 e1' e2' e3' d1'
      refine ⟨cc, cda, _, ex, ⟨_, _, _, _, _, _, _, _, rfl, ho⟩, d2, ?_, ?_, He.eqO_ok c8, He.eqO_ok c9, of_decide_eq_true c10, of_decide_eq_true c11, PySem.W.mg_none_of X G (He.eqO_ok c12), htop, He.eqO_ok c13, of_decide_eq_true c14⟩
      · split at d3
        · rename_i a1 a2 vs a3 ha
          split at d3
          · rename_i f t hv
            exact ⟨_, _, _, _, t, f, ha, hv, by rw [hfile, of_decide_eq_true d3]; simp⟩
          · cases d3
        · cases d3
      · split at d4
        · rename_i a1 a2 D a3 ha
          have eD := of_decide_eq_true d4
          subst eD
          exact ⟨_, _, _, ha⟩
        · cases d4
    · cases c3
  · cases c3
/-! ### the Hook with such classes -/
abbrev AlX : Type := He.AlD × (Bool × List FnS)
def obsX (fa : List He.Fa) (fn : List He.DefD) (xs : List SupD) (K : PySem.W.Frag) : AlX := (He.obsD fa fn K, xs.all fun d => d.ok K, xs.map fun d => d.obs K)
def valX (fn : List He.DefD) (xs : List SupD) : AlX := (He.valD fn, true, xs.map SupD.val)
def SaysX (fa : List He.Fa) (fn : List He.DefD) (xs : List SupD) (K : PySem.W.Frag) : Prop := obsX fa fn xs K = valX fn xs
def obsXG (n : Nat) (fa : List He.Fa) (fn : List He.DefD) (xs : List SupD) (g : Addr → Option Obj) : AlX := obsX fa fn xs (He.frG g (He.asD g n ++ [cStatics]))
def hookX (n : Nat) (fa : List He.Fa) (fn : List He.DefD) (xs : List SupD) : PySem.W.Hook where
  α := AlX
  obs := fun s => obsXG n fa fn xs s.heap.get?
  val := fun _ => valX fn xs
  says := fun _ h => ∃ K : PySem.W.Frag, K.In h ∧ SaysX fa fn xs K
  of := fun _ _ e => ⟨_, He.frG_in, e⟩
  keeps := fun _ _ _ ⟨K, hK, c⟩ k => ⟨K, PySem.W.Frag.In.keeps hK k, c⟩
theorem obsXG_eq {n : Nat} {fa : List He.Fa} {fn : List He.DefD} {xs : List SupD} {g : Addr → Option Obj} {s : Shared} (h : ∀ a, g a = s.heap.get? a) : obsXG n fa fn xs g = (hookX n fa fn xs).obs s := by
  have e : g = s.heap.get? := funext h
  rw [e] <;> rfl
section
variable {fa : List He.Fa} {fn : List He.DefD} {xs : List SupD} {K : PySem.W.Frag}
theorem SaysX.d (c : SaysX fa fn xs K) : He.SaysD fa fn K := congrArg (fun z : AlX => z.1) c
theorem SaysX.sup (c : SaysX fa fn xs K) (i : Nat) {d : SupD} (h : xs[i]? = some d := by rfl) : d.obs K = d.val ∧ d.ok K = true := by
  have c1 : (xs.all fun d => d.ok K) = true := congrArg (fun z : AlX => z.2.1) c
  have c2 : xs.map (fun d => d.obs K) = xs.map SupD.val := congrArg (fun z : AlX => z.2.2) c
  have e2 : (xs.map fun d => d.obs K)[i]? = (xs.map SupD.val)[i]? := by rw [c2]
  rw [List.getElem?_map, List.getElem?_map, h] at e2
  exact ⟨Option.some.inj e2, List.all_eq_true.mp c1 d (List.mem_of_getElem? h)⟩
end
end SxK

set_option Elab.async false
set_option linter.all false
set_option maxRecDepth 100000
set_option maxHeartbeats 2000000
namespace Sx
open PySem PySem.Spec PyProof.Rows L2 SxA SxK
/-! ### defs and methods that may raise -/
def OkX (P : Program) (w : World) (K : PySem.W.Frag) (mg : Str → Option Value) (base : Heap) (k : Nat) (x : Str) (ps : List Str) (sp : Sp) : Prop :=
  ∃ fd, FnOk P w K mg base (L2.CX P w) k (He.ga K x) fd ps sp ∧ Binds K fd ps [] ∧ PySem.W.keepIn K (.ref (He.ga K x)) = true ∧ mg x = some (.ref (He.ga K x))
def MetX (P : Program) (w : World) (K : PySem.W.Frag) (mg : Str → Option Value) (base : Heap) (k : Nat) (C m : Str) (ps : List Str) (sp : Sp) : Prop :=
  ∃ fd, FnOk P w K mg base (L2.CX P w) k (He.ma K (He.ga K C) m) fd ps sp ∧ Binds K fd ps []
section
variable {P : Program} {w : World} {K : PySem.W.Frag} {mg : Str → Option Value} {base : Heap}
theorem mkOkX {x : Str} {st : Stmt} {N ps : List Str} {k : Nat} {sp : Sp} (d : Fd K x st) (hx : mg x = some (.ref (He.ga K x))) (S : FnScope N ps (defScope st)) (len : ∀ vs H Q E, sp vs H Q E → vs.length = ps.length)
    (bnd : ∀ (kV doc pm : Value) (an : Option Addr) (cdv ct : Value) (us : List Value), us.length = ps.length → bindArgs (PySem.W.fnOf x x (defArgs st) (defBody st) (defScope st) .none kV doc pm an cdv ct) ⟨us, []⟩ = pure (ps.zip us))
    (body : ∀ (cdv : Value) (A : Around) (outer : List Env) (s : Shared) (H0 : Hp) (vs : List V) (Q : VK) (E : XK), Room k (A.deeper (envOfC x (defScope st) s.heap.objs.size (He.ga K x) cdv)) → sp vs H0 Q E →
      ∃ t, PSs (cxOf (L2.CX P w) P w K mg base N x (defScope st) (He.ga K x) cdv A outer s H0 E) (defBody st) t ∧ t { nx := fun _ H' => Q .non H', rt := Q } (start N vs) H0) : OkX P w K mg base (k + 1) x ps sp := by
  obtain ⟨fd, F⟩ := d
  exact ⟨fd, F.ok S len body, F.bindsN bnd, F.kp, hx⟩
theorem pe_okX {X : Cx} {W : WX} {k : Nat} {x : Str} {ps : List Str} {sp : Sp} {p pos : Pos} {e : Expr} {es : List Expr} {t : TA} (o : OkX X.prog X.w X.K X.mg X.base k x ps sp) (hr : Room k X.A) (hg : Gl X x) (tk : Takes X W) (ha : PA X (e :: es) t)
    (hdb : (x == ("__debug__" : Str)) = false := by decide) (hs : starEach (e :: es) X.env = (false, eval e X.env) :: starEach es X.env := by rfl) (hpl : ((backTo pos (starEach es X.env)).any (·.1)) = false := by rfl) :
    PE X (.Call (.Name x p) (e :: es) [] pos) (tCallS sp (WE W) t) := by
  obtain ⟨fd, F, b, kp, hm⟩ := o
  exact pe_callS F hr hg hm kp b (fun σ => passAt tk σ) ha hdb hs hpl
theorem mkMetX {C m qual : Str} {st : Stmt} {N ps : List Str} {k : Nat} {sp : Sp} (d : ∃ fd, FunD K m qual (defArgs st) (defBody st) (defScope st) [] [] (He.ma K (He.ga K C) m) fd) (S : FnScope N ps (defScope st)) (len : ∀ vs H Q E, sp vs H Q E → vs.length = ps.length)
    (bnd : ∀ (kV doc pm : Value) (an : Option Addr) (cdv ct : Value) (us : List Value), us.length = ps.length → bindArgs (PySem.W.fnOf m qual (defArgs st) (defBody st) (defScope st) .none kV doc pm an cdv ct) ⟨us, []⟩ = pure (ps.zip us))
    (body : ∀ (cdv : Value) (A : Around) (outer : List Env) (s : Shared) (H0 : Hp) (vs : List V) (Q : VK) (E : XK), Room k (A.deeper (envOfC qual (defScope st) s.heap.objs.size (He.ma K (He.ga K C) m) cdv)) → sp vs H0 Q E →
      ∃ t, PSs (cxOf (L2.CX P w) P w K mg base N qual (defScope st) (He.ma K (He.ga K C) m) cdv A outer s H0 E) (defBody st) t ∧ t { nx := fun _ H' => Q .non H', rt := Q } (start N vs) H0) : MetX P w K mg base (k + 1) C m ps sp := by
  obtain ⟨fd, F⟩ := d
  exact ⟨fd, F.ok S len body, F.bindsN bnd⟩
theorem pe_metX {X : Cx} {E : XK} {k : Nat} {C m : Str} {ps : List Str} {sp : Sp} {apos pos : Pos} {o e : Expr} {es : List Expr} {ta : TE} {t : TA} {pl : Sem Bool} (M : MetX X.prog X.w X.K X.mg X.base k C m ps sp) (c : Cls X.K (He.ga X.K C)) (hm : Meth X.K (He.ga X.K C) m (He.ma X.K (He.ga X.K C) m))
    (hr : Room k X.A) (hx : Passes (L2.CX X.prog X.w) X E) (he : PE X o ta) (ha : PA X (e :: es) t)
    (hst : starEach (e :: es) X.env = (false, eval e X.env) :: starEach es X.env := by rfl) (hpl : (backTo pos (starEach es X.env)).any (·.1) = false := by rfl)
    (ht : eval (.Call (.Attribute o m apos) (e :: es) [] pos) X.env = (do
      let ov ← eval o X.env
      standAt apos.atName
      let (f, first) ← holding [ov] (getMethod ov m pl)
      callWith pos f first (backTo pos (starEach (e :: es) X.env)) (backToKw pos (keywordEach [] X.env))) := by rfl) :
    PE X (.Call (.Attribute o m apos) (e :: es) [] pos) (tMeth (He.ga X.K C) m sp [] E ta t) := by
  obtain ⟨fd, F, b⟩ := M
  exact pe_meth he c hm F hr b .nil hx ha hst hpl ht
theorem pe_metX0 {X : Cx} {E : XK} {k : Nat} {C m : Str} {ps : List Str} {sp : Sp} {apos pos : Pos} {o : Expr} {ta : TE} {pl : Sem Bool} (M : MetX X.prog X.w X.K X.mg X.base k C m ps sp) (c : Cls X.K (He.ga X.K C)) (hm : Meth X.K (He.ga X.K C) m (He.ma X.K (He.ga X.K C) m))
    (hr : Room k X.A) (hx : Passes (L2.CX X.prog X.w) X E) (he : PE X o ta)
    (ht : eval (.Call (.Attribute o m apos) [] [] pos) X.env = (do
      let ov ← eval o X.env
      standAt apos.atName
      let (f, first) ← holding [ov] (getMethod ov m pl)
      callWith pos f first (backTo pos (starEach [] X.env)) (backToKw pos (keywordEach [] X.env))) := by rfl) :
    PE X (.Call (.Attribute o m apos) [] [] pos) (tMeth (He.ga X.K C) m sp [] E ta tNil) := by
  obtain ⟨fd, F, b⟩ := M
  exact pe_meth0 he c hm F hr b .nil hx ht
/-! ### an exception with one int, told by an f-string -/
def spXInt (K : PySem.W.Frag) (C f : Str) : Sp := fun vs H Q _ => ∃ (a : Addr) (l : Int), vs = [.ref a, .int l] ∧ H a = some (exo a (He.ga K C) none) ∧ (0 ≤ l ∧ l < 10 ^ 10) ∧
  ∀ H1 d, Same H H1 → H1 d = none → d ≠ a → Q .non (upd (upd H1 a (exo a (He.ga K C) (some d))) d (exd d [(f, .int l)]))
theorem lg10 {l : Int} (h0 : 0 ≤ l) (h : l < 10 ^ 10) : l.natAbs.log2 < 1920 := by
  by_cases n : l.natAbs = 0
  · rw [n]; decide
  · exact (Nat.log2_lt n).mpr (Nat.lt_of_lt_of_le (show l.natAbs < 10 ^ 10 by omega) (by decide))
/-- what such an error lets be known -/
def ErI (K : PySem.W.Frag) (C f : Str) (E : XK) (H : Hp) (l : Int) : Prop := ∀ d H', Same H H' → H' d = some (.xd [(f, .int l)]) → E (.ref (He.ga K C)) (some d) H'
theorem ErI.same {C f : Str} {E : XK} {H H2 : Hp} {l : Int} (e : ErI K C f E H l) (s : Same H H2) : ErI K C f E H2 l := fun d H' s2 h => e d H' (s.trans s2) h
theorem mk_errI {C f : Str} {H : Hp} {l : Int} {Q : XK} (hl : 0 ≤ l ∧ l < 10 ^ 10) (q : ErI K C f Q H l) :
    [V.int l].length ≤ 1000 ∧ ∀ a, H a = none → spXInt K C f (.ref a :: ([V.int l] ++ [])) (upd H a (exo a (He.ga K C) none))
      (fun v H2 => v = .non ∧ ∃ (d : Addr) (fs : List (Str × V)), H2 a = some (exo a (He.ga K C) (some d)) ∧ H2 d = some (exd d fs) ∧ H d = none ∧ Q (.ref (He.ga K C)) (some d) (upd (del H2 a) d (.xd fs))) (fun _ _ _ => False) := by
  refine ⟨(by show 1 ≤ 1000; decide), fun a ha => ⟨a, l, rfl, upd_same, hl, fun H1 d s1 hd ne => ?_⟩⟩
  have hd0 : H d = none := by
    have e := s1.free hd
    rw [upd_ne ne] at e
    exact e
  refine ⟨rfl, d, [(f, .int l)], by rw [upd_ne ne.symm]; exact upd_same, upd_same, hd0, ?_⟩
  refine q d _ (fun b o hb => ?_) upd_same
  have b1 : b ≠ d := ne_of_none hb hd0
  have b2 : b ≠ a := ne_of_none hb ha
  rw [upd_ne b1, del_ne b2, upd_ne b1, upd_ne b2]
  exact s1 b o (by rw [upd_ne b2]; exact hb)
end
end Sx

set_option Elab.async false
set_option linter.all false
set_option maxRecDepth 100000
set_option maxHeartbeats 0
namespace Sx
open PySem PySem.Spec PyProof.Rows L2
/-! ### the text by places -/
def top (i : Nat) : Stmt := PySem.Challenge.pw_sixdot_k31_where_pages_may_end.main.body.getD i (.Pass ⟨0, 0, 0, 0⟩)
abbrev sMayPart : Stmt := top 1
abbrev sPartingPlaces : Stmt := top 2
abbrev sMayEnd : Stmt := top 3
abbrev sLawDraws : Stmt := top 5
abbrev sLawTake : Stmt := top 6
abbrev sLawSame : Stmt := top 7
abbrev sLawText : Stmt := top 8
abbrev sLawBlock : Stmt := top 9
abbrev sLawBlocks : Stmt := top 10
abbrev sLawCounts : Stmt := top 11
abbrev sLawOwners : Stmt := top 12
abbrev sLawMay : Stmt := top 13
abbrev sLaw : Stmt := top 14
/-! ### the head: facts by names, the run -/
def dMayPart : He.DefD := ⟨("may_part", none), "may_part", "may_part", defArgs sMayPart, defBody sMayPart, defScope sMayPart, [], []⟩
def dPartingPlaces : He.DefD := ⟨("parting_places", none), "parting_places", "parting_places", defArgs sPartingPlaces, defBody sPartingPlaces, defScope sPartingPlaces, [], []⟩
def dMayEnd : He.DefD := ⟨("may_end", none), "may_end", "may_end", defArgs sMayEnd, defBody sMayEnd, defScope sMayEnd, [], []⟩
def dLawDraws : He.DefD := ⟨("_law_draws", none), "_law_draws", "_law_draws", defArgs sLawDraws, defBody sLawDraws, defScope sLawDraws, [], []⟩
def dLawTake : He.DefD := ⟨("_law_take", none), "_law_take", "_law_take", defArgs sLawTake, defBody sLawTake, defScope sLawTake, [], []⟩
def dLawSame : He.DefD := ⟨("_law_same", none), "_law_same", "_law_same", defArgs sLawSame, defBody sLawSame, defScope sLawSame, [], []⟩
def dLawText : He.DefD := ⟨("_law_text", none), "_law_text", "_law_text", defArgs sLawText, defBody sLawText, defScope sLawText, [], []⟩
def dLawBlock : He.DefD := ⟨("_law_block", none), "_law_block", "_law_block", defArgs sLawBlock, defBody sLawBlock, defScope sLawBlock, [], []⟩
def dLawBlocks : He.DefD := ⟨("_law_blocks", none), "_law_blocks", "_law_blocks", defArgs sLawBlocks, defBody sLawBlocks, defScope sLawBlocks, [], []⟩
def dLawCounts : He.DefD := ⟨("_law_counts", none), "_law_counts", "_law_counts", defArgs sLawCounts, defBody sLawCounts, defScope sLawCounts, [], []⟩
def dLawOwners : He.DefD := ⟨("_law_owners", none), "_law_owners", "_law_owners", defArgs sLawOwners, defBody sLawOwners, defScope sLawOwners, [], []⟩
def dLawMay : He.DefD := ⟨("_law_may", none), "_law_may", "_law_may", defArgs sLawMay, defBody sLawMay, defScope sLawMay, [], []⟩
def dLaw : He.DefD := ⟨("law", none), "law", "law", defArgs sLaw, defBody sLaw, defScope sLaw, [], []⟩
def fn : List He.DefD := [dMayPart, dPartingPlaces, dMayEnd, dLawDraws, dLawTake, dLawSame, dLawText, dLawBlock, dLawBlocks, dLawCounts, dLawOwners, dLawMay, dLaw]
def fa : List He.Fa := [.glo "may_part", .glo "parting_places", .glo "may_end", .glo "_law_draws", .glo "_law_take", .glo "_law_same", .glo "_law_text", .glo "_law_block", .glo "_law_blocks", .glo "_law_counts", .glo "_law_owners", .glo "_law_may", .glo "law", .free "abs", .free "bool", .free "int", .free "isinstance", .free "len", .free "list", .free "range", .free "reversed", .free "str", .free "sum", .free "tuple", .free "zip"]
def loose0 : List Str := ["may_part", "parting_places", "may_end", "_law_draws", "_law_take", "_law_same", "_law_text", "_law_block", "_law_blocks", "_law_counts", "_law_owners", "_law_may"]
abbrev loose : List Str := loose0
abbrev R : PySem.W.OpenRow := PySem.W.OpenLaw.row PySem.Challenge.rw_sixdot_k31_where_pages_may_end
abbrev hk : PySem.W.Hook := He.hookD 5 fa fn
def ob (s : PySem.W.SharedT) : He.AlD := He.obsDG 5 fa fn (HandSHeadRun.getT s)
theorem ob_eq (s : PySem.W.SharedT) : ob s = hk.obs s.abs := He.obsDG_eq (HandSHeadRun.getT_eq s)
theorem run (w : World) : HandSHeadRun.RunEq R (PySem.W.view R.prog [14]) hk ob 4000 loose w := by
  intro os
  kernel_rfl
end Sx

set_option Elab.async false
set_option linter.all false
set_option maxRecDepth 100000
set_option maxHeartbeats 4000000
namespace Sx
open PySem PySem.Spec PyProof.Rows L2
/-- what stands behind the top -/
structure T (K : PySem.W.Frag) (mg : Str → Option Value) : Prop where
  c : He.SaysD fa fn K
  g : ∃ h : Heap, K.In h ∧ h.Ns mainGlobals mg
section
variable {K : PySem.W.Frag} {mg : Str → Option Value}

theorem T.g_may_part (t : T K mg) : mg "may_part" = some (.ref (He.ga K "may_part")) := by
  obtain ⟨h, X, G⟩ := t.g
  exact He.glo_ok X G (t.c.fact 0 (f := .glo "may_part") rfl)
theorem T.g_parting_places (t : T K mg) : mg "parting_places" = some (.ref (He.ga K "parting_places")) := by
  obtain ⟨h, X, G⟩ := t.g
  exact He.glo_ok X G (t.c.fact 1 (f := .glo "parting_places") rfl)
theorem T.g_may_end (t : T K mg) : mg "may_end" = some (.ref (He.ga K "may_end")) := by
  obtain ⟨h, X, G⟩ := t.g
  exact He.glo_ok X G (t.c.fact 2 (f := .glo "may_end") rfl)
theorem T.g_law_draws (t : T K mg) : mg "_law_draws" = some (.ref (He.ga K "_law_draws")) := by
  obtain ⟨h, X, G⟩ := t.g
  exact He.glo_ok X G (t.c.fact 3 (f := .glo "_law_draws") rfl)
theorem T.g_law_take (t : T K mg) : mg "_law_take" = some (.ref (He.ga K "_law_take")) := by
  obtain ⟨h, X, G⟩ := t.g
  exact He.glo_ok X G (t.c.fact 4 (f := .glo "_law_take") rfl)
theorem T.g_law_same (t : T K mg) : mg "_law_same" = some (.ref (He.ga K "_law_same")) := by
  obtain ⟨h, X, G⟩ := t.g
  exact He.glo_ok X G (t.c.fact 5 (f := .glo "_law_same") rfl)
theorem T.g_law_text (t : T K mg) : mg "_law_text" = some (.ref (He.ga K "_law_text")) := by
  obtain ⟨h, X, G⟩ := t.g
  exact He.glo_ok X G (t.c.fact 6 (f := .glo "_law_text") rfl)
theorem T.g_law_block (t : T K mg) : mg "_law_block" = some (.ref (He.ga K "_law_block")) := by
  obtain ⟨h, X, G⟩ := t.g
  exact He.glo_ok X G (t.c.fact 7 (f := .glo "_law_block") rfl)
theorem T.g_law_blocks (t : T K mg) : mg "_law_blocks" = some (.ref (He.ga K "_law_blocks")) := by
  obtain ⟨h, X, G⟩ := t.g
  exact He.glo_ok X G (t.c.fact 8 (f := .glo "_law_blocks") rfl)
theorem T.g_law_counts (t : T K mg) : mg "_law_counts" = some (.ref (He.ga K "_law_counts")) := by
  obtain ⟨h, X, G⟩ := t.g
  exact He.glo_ok X G (t.c.fact 9 (f := .glo "_law_counts") rfl)
theorem T.g_law_owners (t : T K mg) : mg "_law_owners" = some (.ref (He.ga K "_law_owners")) := by
  obtain ⟨h, X, G⟩ := t.g
  exact He.glo_ok X G (t.c.fact 10 (f := .glo "_law_owners") rfl)
theorem T.g_law_may (t : T K mg) : mg "_law_may" = some (.ref (He.ga K "_law_may")) := by
  obtain ⟨h, X, G⟩ := t.g
  exact He.glo_ok X G (t.c.fact 11 (f := .glo "_law_may") rfl)
theorem T.g_law (t : T K mg) : mg "law" = some (.ref (He.ga K "law")) := by
  obtain ⟨h, X, G⟩ := t.g
  exact He.glo_ok X G (t.c.fact 12 (f := .glo "law") rfl)
theorem T.f_abs (t : T K mg) : mg "abs" = none := by
  obtain ⟨h, X, G⟩ := t.g
  exact He.free_ok X G (t.c.fact 13 (f := .free "abs") rfl)
theorem T.f_bool (t : T K mg) : mg "bool" = none := by
  obtain ⟨h, X, G⟩ := t.g
  exact He.free_ok X G (t.c.fact 14 (f := .free "bool") rfl)
theorem T.f_int (t : T K mg) : mg "int" = none := by
  obtain ⟨h, X, G⟩ := t.g
  exact He.free_ok X G (t.c.fact 15 (f := .free "int") rfl)
theorem T.f_isinstance (t : T K mg) : mg "isinstance" = none := by
  obtain ⟨h, X, G⟩ := t.g
  exact He.free_ok X G (t.c.fact 16 (f := .free "isinstance") rfl)
theorem T.f_len (t : T K mg) : mg "len" = none := by
  obtain ⟨h, X, G⟩ := t.g
  exact He.free_ok X G (t.c.fact 17 (f := .free "len") rfl)
theorem T.f_list (t : T K mg) : mg "list" = none := by
  obtain ⟨h, X, G⟩ := t.g
  exact He.free_ok X G (t.c.fact 18 (f := .free "list") rfl)
theorem T.f_range (t : T K mg) : mg "range" = none := by
  obtain ⟨h, X, G⟩ := t.g
  exact He.free_ok X G (t.c.fact 19 (f := .free "range") rfl)
theorem T.f_reversed (t : T K mg) : mg "reversed" = none := by
  obtain ⟨h, X, G⟩ := t.g
  exact He.free_ok X G (t.c.fact 20 (f := .free "reversed") rfl)
theorem T.f_str (t : T K mg) : mg "str" = none := by
  obtain ⟨h, X, G⟩ := t.g
  exact He.free_ok X G (t.c.fact 21 (f := .free "str") rfl)
theorem T.f_sum (t : T K mg) : mg "sum" = none := by
  obtain ⟨h, X, G⟩ := t.g
  exact He.free_ok X G (t.c.fact 22 (f := .free "sum") rfl)
theorem T.f_tuple (t : T K mg) : mg "tuple" = none := by
  obtain ⟨h, X, G⟩ := t.g
  exact He.free_ok X G (t.c.fact 23 (f := .free "tuple") rfl)
theorem T.f_zip (t : T K mg) : mg "zip" = none := by
  obtain ⟨h, X, G⟩ := t.g
  exact He.free_ok X G (t.c.fact 24 (f := .free "zip") rfl)
theorem T.d_may_part (t : T K mg) : Fd K "may_part" sMayPart := t.c.def_ 0 (d := dMayPart) rfl
theorem T.d_parting_places (t : T K mg) : Fd K "parting_places" sPartingPlaces := t.c.def_ 1 (d := dPartingPlaces) rfl
theorem T.d_may_end (t : T K mg) : Fd K "may_end" sMayEnd := t.c.def_ 2 (d := dMayEnd) rfl
theorem T.d_law_draws (t : T K mg) : Fd K "_law_draws" sLawDraws := t.c.def_ 3 (d := dLawDraws) rfl
theorem T.d_law_take (t : T K mg) : Fd K "_law_take" sLawTake := t.c.def_ 4 (d := dLawTake) rfl
theorem T.d_law_same (t : T K mg) : Fd K "_law_same" sLawSame := t.c.def_ 5 (d := dLawSame) rfl
theorem T.d_law_text (t : T K mg) : Fd K "_law_text" sLawText := t.c.def_ 6 (d := dLawText) rfl
theorem T.d_law_block (t : T K mg) : Fd K "_law_block" sLawBlock := t.c.def_ 7 (d := dLawBlock) rfl
theorem T.d_law_blocks (t : T K mg) : Fd K "_law_blocks" sLawBlocks := t.c.def_ 8 (d := dLawBlocks) rfl
theorem T.d_law_counts (t : T K mg) : Fd K "_law_counts" sLawCounts := t.c.def_ 9 (d := dLawCounts) rfl
theorem T.d_law_owners (t : T K mg) : Fd K "_law_owners" sLawOwners := t.c.def_ 10 (d := dLawOwners) rfl
theorem T.d_law_may (t : T K mg) : Fd K "_law_may" sLawMay := t.c.def_ 11 (d := dLawMay) rfl
theorem T.d_law (t : T K mg) : Fd K "law" sLaw := t.c.def_ 12 (d := dLaw) rfl
end
end Sx

set_option Elab.async false
set_option linter.all false
set_option maxRecDepth 100000
set_option maxHeartbeats 1000000
namespace Sx
open PySem PySem.Spec PyProof.Rows L2 SxA
/-! ### draws: a list of ints, of which one is taken -/
def Dr (H : Hp) (a : Addr) : Prop := ∃ ns : List Int, H a = some (.lst (ns.map V.int))
def DrL (H : Hp) (a : Addr) (n : Nat) : Prop := ∃ ns : List Int, H a = some (.lst (ns.map V.int)) ∧ ns.length ≤ n
theorem Dr.has {H : Hp} {a : Addr} (h : Dr H a) : ∃ o, H a = some o := ⟨_, h.choose_spec⟩
theorem Dr.ne {H : Hp} {a D : Addr} (h : Dr H a) (hD : H D = none) : a ≠ D := ne_of_none h.choose_spec hD
theorem Dr.put {H : Hp} {a D : Addr} {o : HO} (h : Dr H a) (n : a ≠ D) : Dr (upd H D o) a := by
  obtain ⟨ns, e⟩ := h
  exact ⟨ns, by rw [upd_ne n]; exact e⟩
theorem Dr.new {H : Hp} {a D : Addr} {o : HO} (h : Dr H a) (hD : H D = none) : Dr (upd H D o) a := h.put (h.ne hD)
theorem Dr.same {H H' : Hp} {a : Addr} (h : Dr H a) (s : Same H H') : Dr H' a := by
  obtain ⟨ns, e⟩ := h
  exact ⟨ns, s _ _ e⟩
theorem But.new {a : Addr} {H H' : Hp} {p : Addr} {o : HO} (b : But a H H') (hp : H p = Option.none) : But a H (upd H' p o) := fun c u e n => by
  rw [upd_ne (ne_of_none e hp)]
  exact b c u e n
theorem But.same {a : Addr} {H H1 H2 : Hp} (b : But a H H1) (s : Same H1 H2) : But a H H2 := b.trans (But.of s)
def spTake : Sp := fun vs H Q _ => ∃ (a : Addr) (m : Int), vs = [.ref a, .int m] ∧ Dr H a ∧ 0 < m ∧ ∀ v H', 0 ≤ v → v < m → Dr H' a → But a H H' → Q (.int v) H'
def spDraws (K : PySem.W.Frag) : Sp := fun vs H Q _ => ∃ (a : Addr) (ns : List Int), vs = [.ref a] ∧ SqL K H a (ns.map V.int) ∧ ns.length ≤ 63 ∧ ∀ p H', H p = none → Same H H' → Dr H' p → Q (.ref p) H'
section
variable {P : Program} {w : World} {K : PySem.W.Frag} {mg : Str → Option Value} {base : Heap}
abbrev nsLawTake : List Str := ["draws", "bound"]
theorem scLawTake : FnScope nsLawTake ["draws", "bound"] (defScope sLawTake) := ⟨rfl, rfl, rfl, by decide +kernel, rfl, by decide +kernel, by decide +kernel⟩
theorem ok_law_take (t : T K mg) : Ok P w K mg base 1 "_law_take" ["draws", "bound"] spTake := by
  refine mkOk t.d_law_take t.g_law_take scLawTake (fun vs H Q E h => ?_) (fun _ _ _ _ _ _ us hl => match us, hl with | [_, _], _ => rfl) fun cdv A outer s H vs Q E hr h => ?_
  · obtain ⟨a, m, rfl, _⟩ := h; rfl
  obtain ⟨a, m, rfl, ⟨ns, hn⟩, m0, k⟩ := h
  refine ⟨_, pss_cons (ps_if (pt_cmpR op_eq (pe_callB call_len_seq rfl t.f_len boot_len (pa_cons (pv 0) pa_nil)) pe_int (nomark _))
      (pss_one (ps_ret pe_int))
      pss_nil)
    (pss_one (ps_ret (pe_op op_mod (pe_callTy call_int1 rfl t.f_int (by decide +kernel) (pa_cons (pe_bm0 PySem.F.plainAttrs_list PySem.F.slot_list_pop PySem.F.type_list_pop mt_pop (pv 0)) pa_nil)) (pv 1)))), ?_⟩
  refine ⟨_, rfl, a, _, rfl, .inl (SqL.of hn), rfl, _, rfl, ?_⟩
  refine ite2 (fun h1 => k 0 H (Int.le_refl _) m0 ⟨ns, hn⟩ (But.refl _ _)) (fun h1 => ?_)
  have hl : 0 < ns.length := by
    cases ns with
    | nil => exact absurd rfl h1
    | cons x r => exact Nat.succ_pos _
  have hlast : (ns.map V.int)[(ns.map V.int).length - 1]? = some (.int (ns[ns.length - 1]'(by omega))) := by
    rw [List.length_map, List.getElem?_map, List.getElem?_eq_getElem (by omega)]
    rfl
  refine ⟨_, rfl, .inl ⟨rfl, _, SqL.of hn⟩, a, _, _, rfl, rfl, hn, hlast, .inl ⟨_, rfl, ?_⟩⟩
  refine ⟨_, rfl, _, _, rfl, rfl, m0, k _ _ (Int.emod_nonneg _ (by omega)) (Int.emod_lt_of_pos _ m0) ⟨ns.dropLast, ?_⟩ (But.put _ _ _)⟩
  rw [upd_same, List.map_dropLast]
abbrev nsLawDraws : List Str := ["script", "draws", "cell", "number", "first", "k", "seed"]
theorem scLawDraws : FnScope nsLawDraws ["script"] (defScope sLawDraws) := ⟨rfl, rfl, rfl, by decide +kernel, rfl, by decide +kernel, by decide +kernel⟩
theorem DrL.push {H : Hp} {D : Addr} {ns : List Int} {z : Int} {n : Nat} (h : ns.length ≤ n) : DrL (upd H D (.lst (ns.map V.int ++ [V.int z]))) D (n + 1) := ⟨ns ++ [z], by rw [upd_same, List.map_append]; rfl, by rw [List.length_append]; exact Nat.succ_le_succ h⟩
theorem smallL {ns : List Int} {n : Nat} (h : ns.length ≤ n) (hn : n ≤ 100000) : (ns.map V.int).length < sizeLine := by
  rw [List.length_map]
  exact Nat.lt_of_le_of_lt h (Nat.lt_of_le_of_lt hn (by decide))
theorem ok_law_draws (t : T K mg) : Ok P w K mg base 1 "_law_draws" ["script"] (spDraws K) := by
  refine mkOk t.d_law_draws t.g_law_draws scLawDraws (fun vs H Q E h => ?_) (fun _ _ _ _ _ _ us hl => match us, hl with | [_], _ => rfl) fun cdv A outer s H vs Q E hr h => ?_
  · obtain ⟨a, ns, rfl, _⟩ := h; rfl
  obtain ⟨sc, zs, rfl, hS, hlen, k⟩ := h
  refine ⟨_, pss_cons (ps_set (i := 1) scLawDraws.nd rfl (Or.inl rfl) (pe_lst pa_nil))
    (pss_cons (ps_for PassesOwn.never rfl (pi_list (pv 0)) (pg_name (i := 2) scLawDraws.nd rfl (Or.inl rfl))
      (pss_cons (ps_set (i := 3) scLawDraws.nd rfl (Or.inl rfl) (pe_callB call_abs rfl t.f_abs (by decide +kernel) (pa_cons (pv 2) pa_nil)))
    (C8.pss_cut (ps_if (pt_cmpR op_lt (pv 3) (pe_op op_pow pe_int pe_int) (nomark _))
      (pss_cons (ps_set (i := 4) scLawDraws.nd rfl (Or.inl rfl) (pe_op op_mod (pe_callTy call_int1 rfl t.f_int (by decide +kernel) (pa_cons (pe_op op_add (pe_op op_mul (pv 3) pe_int) pe_int) pa_nil)) pe_int))
    (pss_cons (ps_expr (pe_bm PySem.F.plainAttrs_list PySem.F.slot_list_append PySem.F.type_list_append mt_append (pv 1) (pa_cons (pe_op op_mod (pe_callTy call_int1 rfl t.f_int (by decide +kernel) (pa_cons (pe_op op_add (pe_op op_mul (pv 4) pe_int) (pv 3)) pa_nil)) pe_int) pa_nil)))
    (pss_cons (ps_expr (pe_bm PySem.F.plainAttrs_list PySem.F.slot_list_append PySem.F.type_list_append mt_append (pv 1) (pa_cons (pe_op op_mod (pe_callTy call_int1 rfl t.f_int (by decide +kernel) (pa_cons (pe_op op_add (pv 4) (pe_op op_fdiv (pv 3) pe_int)) pa_nil)) pe_int) pa_nil)))
    (pss_one (ps_set (i := 3) scLawDraws.nd rfl (Or.inl rfl) pe_int)))))
      pss_nil)
    (pss_one (ps_for PassesOwn.never rfl (pi_range1 rfl t.f_range (pa_cons pe_int pa_nil)) (pg_name (i := 5) scLawDraws.nd rfl (Or.inl rfl))
      (pss_one (ps_if (pt_cmpR op_gt (pv 3) pe_int (nomark _))
      (pss_cons (ps_expr (pe_bm PySem.F.plainAttrs_list PySem.F.slot_list_append PySem.F.type_list_append mt_append (pv 1) (pa_cons (pe_op op_mod (pe_callTy call_int1 rfl t.f_int (by decide +kernel) (pa_cons (pv 3) pa_nil)) pe_int) pa_nil)))
    (pss_one (ps_set (i := 3) scLawDraws.nd rfl (Or.inl rfl) (pe_op op_fdiv (pv 3) pe_int))))
      pss_nil)))))))
    (pss_cons (ps_set (i := 6) scLawDraws.nd rfl (Or.inl rfl) pe_int)
    (C8.pss_cut (ps_if (pt_cmpR op_gt (pe_callB call_len_seq rfl t.f_len boot_len (pa_cons (pv 0) pa_nil)) pe_int (nomark _))
      (pss_one (ps_set (i := 6) scLawDraws.nd rfl (Or.inl rfl) (pe_op op_add pe_int (pe_callB call_abs rfl t.f_abs (by decide +kernel) (pa_cons (pe_ix ix_list (pv 0) pe_int (fun _ _ => rfl)) pa_nil)))))
      pss_nil)
    (pss_cons (ps_for PassesOwn.never rfl (pi_range1 rfl t.f_range (pa_cons pe_int pa_nil)) (pg_name (i := 5) scLawDraws.nd rfl (Or.inl rfl))
      (pss_cons (ps_set (i := 6) scLawDraws.nd rfl (Or.inl rfl) (pe_op op_mod (pe_callTy call_int1 rfl t.f_int (by decide +kernel) (pa_cons (pe_op op_add (pe_op op_mul (pv 6) pe_int) pe_int) pa_nil)) pe_int))
    (pss_one (ps_expr (pe_bm PySem.F.plainAttrs_list PySem.F.slot_list_append PySem.F.type_list_append mt_append (pv 1) (pa_cons (pe_op op_fdiv (pv 6) pe_int) pa_nil))))))
    (pss_one (ps_ret (pe_listRev rfl t.f_list rfl t.f_reversed (pv 1)))))))), ?_⟩
  refine ⟨(by show 0 ≤ sizeLine; decide), fun D hD => ?_⟩
  refine ⟨_, rfl, sc, rfl, ⟨_, (Same.new hD).seq hS⟩, ?_⟩
  refine for_list (K := K) (a := sc) (xs := zs.map V.int) (fun i σ' H' => (∃ o2 o3 o4 o5 : Option V, σ' = [some (.ref sc), some (.ref D), o2, o3, o4, o5, none]) ∧ DrL H' D (62 * i) ∧ Same H H') ⟨⟨_, _, _, _, rfl⟩, ⟨[], upd_same, Nat.le_refl _⟩, Same.new hD⟩ (fun i σ' H' _ p => p.2.2.seq hS) ?_ ?_
  · rintro i x σ' H' hx ⟨⟨o2, o3, o4, o5, rfl⟩, ⟨ds, hds, hdl⟩, s1⟩
    obtain ⟨z, rfl⟩ : ∃ z : Int, x = .int z := by
      rw [List.getElem?_map] at hx
      cases q : zs[i]? with
      | none => rw [q] at hx; cases hx
      | some z => rw [q] at hx; exact ⟨z, (Option.some.inj hx).symm⟩
    have il : i < 63 := by
      have := (List.getElem?_eq_some_iff.mp hx).1
      rw [List.length_map] at this
      omega
    refine ⟨_, rfl, _, rfl, ?_⟩
    generalize (if z < 0 then -z else z) = n
    refine ⟨fun σ2 H2 => (∃ (m : Int) (o4 : Option V), σ2 = [some (.ref sc), some (.ref D), some (.int z), some (.int m), o4, o5, none]) ∧ DrL H2 D (62 * i + 2) ∧ Same H H2, ?_, ?_⟩
    · refine ⟨_, rfl, _, _, rfl, rfl, ⟨by decide, by decide, by decide⟩, _, _, rfl, rfl, _, rfl, ?_⟩
      refine ite2 (fun h1 => ?_) (fun h1 => ⟨⟨_, _, rfl⟩, ⟨ds, hds, by omega⟩, s1⟩)
      refine ⟨_, rfl, _, _, rfl, rfl, .inr (by decide), _, _, rfl, rfl, .inl ⟨_, rfl, ?_⟩⟩
      refine ⟨_, _, rfl, rfl, (by show (0 : Int) < 2147483647; decide), ?_⟩
      refine ⟨_, rfl, .inl ⟨rfl, _, SqL.of hds⟩, _, rfl, _, _, rfl, rfl, .inr (by decide), _, rfl, _, _, rfl, rfl, .inl ⟨_, rfl, ?_⟩⟩
      refine ⟨_, _, rfl, rfl, (by show (0 : Int) < 2147483629; decide), ?_⟩
      refine ⟨D, _, _, rfl, rfl, hds, smallL hdl (by omega), ?_⟩
      refine ⟨_, rfl, .inl ⟨rfl, _, SqL.of upd_same⟩, _, rfl, _, rfl, _, _, rfl, rfl, ⟨by decide, by decide⟩, _, _, rfl, rfl, .inl ⟨_, rfl, ?_⟩⟩
      refine ⟨_, _, rfl, rfl, (by show (0 : Int) < 1000003; decide), ?_⟩
      refine ⟨D, _, _, rfl, rfl, upd_same, ?_, ⟨⟨_, _, rfl⟩, ⟨ds ++ [_] ++ [_], by rw [upd_same, List.map_append, List.map_append]; rfl, by rw [List.length_append, List.length_append]; simp; omega⟩, ?_⟩⟩
      · rw [List.length_append]
        have := smallL (n := 62 * i) hdl (by omega)
        have e : (62 * i + 1) < sizeLine := Nat.lt_of_le_of_lt (show 62 * i + 1 ≤ 100000 by omega) (by decide)
        rw [List.length_map]
        exact Nat.lt_of_le_of_lt (Nat.succ_le_succ hdl) e
      · exact Same.put (Same.put s1 hD) hD
    · rintro σ2 H2 ⟨⟨m, o4, rfl⟩, ⟨ds, hds, hdl⟩, s1⟩
      refine ⟨60, rfl, by decide, by decide, ?_⟩
      refine for_range (lo := 0) (n := 60) (fun j σ3 H3 => (∃ (m : Int) (o5 : Option V), σ3 = [some (.ref sc), some (.ref D), some (.int z), some (.int m), o4, o5, none]) ∧ DrL H3 D (62 * i + 2 + j) ∧ Same H H3) ⟨⟨_, _, rfl⟩, ⟨ds, hds, hdl⟩, s1⟩ ?_ ?_
      · rintro j σ3 H3 hj ⟨⟨m, o5, rfl⟩, ⟨ds, hds, hdl⟩, s1⟩
        refine ⟨_, rfl, _, _, rfl, rfl, _, rfl, ?_⟩
        refine ite2 (fun h1 => ?_) (fun h1 => ⟨⟨_, _, rfl⟩, ⟨ds, hds, by omega⟩, s1⟩)
        refine ⟨_, rfl, .inl ⟨rfl, _, SqL.of hds⟩, _, rfl, .inl ⟨_, rfl, ?_⟩⟩
        refine ⟨_, _, rfl, rfl, (by show (0 : Int) < 997; decide), ?_⟩
        refine ⟨D, _, _, rfl, rfl, hds, smallL hdl (by omega), ?_⟩
        refine ⟨_, rfl, _, _, rfl, rfl, ⟨by decide, by decide⟩, ⟨_, _, rfl⟩, DrL.push hdl, Same.put s1 hD⟩
      · rintro σ3 H3 ⟨⟨m, o5, rfl⟩, ⟨ds, hds, hdl⟩, s1⟩
        exact ⟨⟨_, _, _, _, rfl⟩, ⟨ds, hds, by omega⟩, s1⟩
  rintro σ' H' ⟨⟨o2, o3, o4, o5, rfl⟩, ⟨ds, hds, hdl⟩, s1⟩
  rw [List.length_map] at hdl
  refine ⟨fun σ2 H2 => (∃ m : Int, σ2 = [some (.ref sc), some (.ref D), o2, o3, o4, o5, some (.int m)]) ∧ H2 = H', ?_, ?_⟩
  · refine ⟨_, rfl, sc, _, rfl, .inl (s1.seq hS), _, _, rfl, rfl, _, rfl, ?_⟩
    refine ite2 (fun h1 => ?_) (fun h1 => ⟨⟨_, rfl⟩, rfl⟩)
    cases zs with
    | nil => exact absurd h1 (by decide)
    | cons z r => exact ⟨_, rfl, sc, _, _, .int z, rfl, rfl, s1.seq hS, atI_nat (j := 0) rfl, _, rfl, _, _, rfl, rfl, ⟨_, rfl⟩, rfl⟩
  rintro σ2 H2 ⟨⟨m, rfl⟩, rfl⟩
  refine ⟨240, rfl, by decide, by decide, ?_⟩
  refine for_range (lo := 0) (n := 240) (fun j σ3 H3 => (∃ (m : Int) (o5 : Option V), σ3 = [some (.ref sc), some (.ref D), o2, o3, o4, o5, some (.int m)]) ∧ DrL H3 D (62 * 63 + j) ∧ Same H H3) ⟨⟨_, _, rfl⟩, ⟨ds, hds, by omega⟩, s1⟩ ?_ ?_
  · rintro j σ3 H3 hj ⟨⟨m, o5, rfl⟩, ⟨ds, hds, hdl⟩, s1⟩
    refine ⟨_, rfl, _, _, rfl, rfl, .inr (by decide), _, _, rfl, rfl, .inl ⟨_, rfl, ?_⟩⟩
    refine ⟨_, _, rfl, rfl, (by show (0 : Int) < 2147483647; decide), ?_⟩
    refine ⟨_, rfl, .inl ⟨rfl, _, SqL.of hds⟩, _, rfl, _, _, rfl, rfl, ⟨by decide, by decide⟩, ?_⟩
    exact ⟨D, _, _, rfl, rfl, hds, smallL hdl (by omega), ⟨⟨_, _, rfl⟩, DrL.push hdl, Same.put s1 hD⟩⟩
  · rintro σ3 H3 ⟨⟨m, o5, rfl⟩, ⟨ds, hds, hdl⟩, s1⟩
    refine ⟨_, rfl, D, _, rfl, SqL.of hds, fun q hq => ?_⟩
    exact k q _ (Sx.Same.none s1 _ hq) (Same.put s1 (Sx.Same.none s1 _ hq)) ⟨ds.reverse, by rw [upd_same, List.map_reverse]⟩
end
end Sx

set_option Elab.async false
set_option linter.all false
set_option maxRecDepth 100000
set_option maxHeartbeats 1000000
namespace Sx
open PySem PySem.Spec PyProof.Rows L2 SxA
theorem isi {K : PySem.W.Frag} {H : Hp} {Q : VK} {x : V} {t n : String} {b : Bool} (ty : TyX K H x (.type t)) (h : kitB t n = some b) (q : Q (.bl b) H) : rIsi K [x, .ty n] H Q := ⟨_, _, _, _, b, rfl, .ty n, ty, kit_ty h, q⟩
def spSameB : Sp := fun vs H Q _ => ∃ x d : Bool, vs = [.bl x, .bl d] ∧ Q (.bl (decide (V.bl x = V.bl d))) H
def spText : Sp := fun vs H Q _ => ∃ (a : Addr) (m : Int), vs = [.ref a, .int m] ∧ Dr H a ∧ 0 < m ∧ m ≤ 1000 ∧ ∀ x H', 1 ≤ x.length → x.length ≤ 1001 → Dr H' a → But a H H' → Q (.str x) H'
def spBlock : Sp := fun vs H Q _ => ∃ (a : Addr) (m : Int), vs = [.ref a, .int m] ∧ Dr H a ∧ 0 < m ∧ m ≤ 1000 ∧ ∀ p (kd : Str) rest H', H p = none → H' p = some (.tup (.str kd :: rest)) → Dr H' a → But a H H' → Q (.ref p) H'
section
variable {P : Program} {w : World} {K : PySem.W.Frag} {mg : Str → Option Value} {base : Heap}
abbrev nsLawSame : List Str := ["actual", "due", "k"]
theorem scLawSame : FnScope nsLawSame ["actual", "due"] (defScope sLawSame) := ⟨rfl, rfl, rfl, by decide +kernel, rfl, by decide +kernel, by decide +kernel⟩
theorem ok_law_same (t : T K mg) : Ok P w K mg base 1 "_law_same" ["actual", "due"] spSameB := by
  refine mkOk t.d_law_same t.g_law_same scLawSame (fun vs H Q E h => ?_) (fun _ _ _ _ _ _ us hl => match us, hl with | [_, _], _ => rfl) fun cdv A outer s H vs Q E hr h => ?_
  · obtain ⟨x, d, rfl, _⟩ := h; rfl
  obtain ⟨x, d, rfl, k⟩ := h
  refine ⟨_, pss_cons (ps_if (PW.pt (pw_or (pt_val (pe_callB call_isi rfl t.f_isinstance (by decide +kernel) (pa_cons (pv 1) (pa_cons (pe_bltn (v := .ty "tuple") rfl t.f_tuple (by decide +kernel) rfl) pa_nil)))) (pw_or1 (pt_val (pe_callB call_isi rfl t.f_isinstance (by decide +kernel) (pa_cons (pv 1) (pa_cons (pe_bltn (v := .ty "list") rfl t.f_list (by decide +kernel) rfl) pa_nil)))))))
      pss_never
      pss_nil)
    (pss_cons (ps_if (pt_cmpR op_ne (pe_callB call_isi rfl t.f_isinstance (by decide +kernel) (pa_cons (pv 1) (pa_cons (pe_bltn (v := .ty "bool") rfl t.f_bool (by decide +kernel) rfl) pa_nil))) (pe_callB call_isi rfl t.f_isinstance (by decide +kernel) (pa_cons (pv 0) (pa_cons (pe_bltn (v := .ty "bool") rfl t.f_bool (by decide +kernel) rfl) pa_nil))) (nomark _))
      (pss_one (ps_ret pe_bl))
      pss_nil)
    (pss_cons (ps_if (PW.pt (pw_or (pt_cmpR op_ne (pe_callB call_isi rfl t.f_isinstance (by decide +kernel) (pa_cons (pv 1) (pa_cons (pe_bltn (v := .ty "int") rfl t.f_int (by decide +kernel) rfl) pa_nil))) (pe_callB call_isi rfl t.f_isinstance (by decide +kernel) (pa_cons (pv 0) (pa_cons (pe_bltn (v := .ty "int") rfl t.f_int (by decide +kernel) rfl) pa_nil))) (nomark _)) (pw_or1 (pt_cmpR op_ne (pe_callB call_isi rfl t.f_isinstance (by decide +kernel) (pa_cons (pv 1) (pa_cons (pe_bltn (v := .ty "str") rfl t.f_str (by decide +kernel) rfl) pa_nil))) (pe_callB call_isi rfl t.f_isinstance (by decide +kernel) (pa_cons (pv 0) (pa_cons (pe_bltn (v := .ty "str") rfl t.f_str (by decide +kernel) rfl) pa_nil))) (nomark _)))))
      (pss_one (ps_ret pe_bl))
      pss_nil)
    (pss_one (ps_ret (pe_cmpR op_eq (pv 0) (pv 1) (nomark _)))))), ?_⟩
  refine ⟨_, rfl, _, _, _, _, false, rfl, .ty _, .base (.bl _), kit_ty (by decide +kernel), _, rfl, iteF ⟨_, rfl, _, _, _, _, false, rfl, .ty _, .base (.bl _), kit_ty (by decide +kernel), _, rfl, iteF ?_⟩⟩
  refine ⟨_, rfl, _, _, _, _, true, rfl, .ty _, .base (.bl _), kit_ty (by decide +kernel), _, rfl, _, _, _, _, true, rfl, .ty _, .base (.bl _), kit_ty (by decide +kernel), rfl, _, rfl, iteF ?_⟩
  refine ⟨_, rfl, _, _, _, _, true, rfl, .ty _, .base (.bl _), kit_ty (by decide +kernel), _, rfl, _, _, _, _, true, rfl, .ty _, .base (.bl _), kit_ty (by decide +kernel), rfl, _, rfl, iteF ?_⟩
  refine ⟨_, rfl, _, _, _, _, false, rfl, .ty _, .base (.bl _), kit_ty (by decide +kernel), _, rfl, _, _, _, _, false, rfl, .ty _, .base (.bl _), kit_ty (by decide +kernel), rfl, _, rfl, iteF ?_⟩
  exact ⟨_, rfl, _, rfl, rfl, k⟩
abbrev nsLawText : List Str := ["draws", "most", "text", "k", "sign"]
theorem scLawText : FnScope nsLawText ["draws", "most"] (defScope sLawText) := ⟨rfl, rfl, rfl, by decide +kernel, rfl, by decide +kernel, by decide +kernel⟩
theorem atS {z : Str} {l : List Nat} {v : Int} (e : sl z = l) (h0 : 0 ≤ v) (h1 : v.toNat < l.length) : atI z.cps.toList v = some l[v.toNat] := by
  subst e
  exact RZat h1 h0
theorem ok_law_text (t : T K mg) : Ok P w K mg base 2 "_law_text" ["draws", "most"] spText := by
  refine mkOk t.d_law_text t.g_law_text scLawText (fun vs H Q E h => ?_) (fun _ _ _ _ _ _ us hl => match us, hl with | [_, _], _ => rfl) fun cdv A outer s H vs Q E hr h => ?_
  · obtain ⟨a, m, rfl, _⟩ := h; rfl
  obtain ⟨a, m, rfl, hD, m0, m1, k⟩ := h
  have hr1 : Room 1 _ := hr.mono (by decide)
  refine ⟨_, pss_cons (ps_set (i := 2) scLawText.nd rfl (Or.inl rfl) (pe_ix ix_str pe_str (pe_ok (ok_law_take t) hr1 rfl (pa_cons (pv 0) (pa_cons pe_int pa_nil))) (fun _ _ => rfl)))
    (pss_cons (ps_for PassesOwn.never rfl (pi_range1 rfl t.f_range (pa_cons (pe_ok (ok_law_take t) hr1 rfl (pa_cons (pv 0) (pa_cons (pv 1) pa_nil))) pa_nil)) (pg_name (i := 3) scLawText.nd rfl (Or.inl rfl))
      (pss_cons (ps_set (i := 4) scLawText.nd rfl (Or.inl rfl) (pe_ix ix_str pe_str (pe_ok (ok_law_take t) hr1 rfl (pa_cons (pv 0) (pa_cons pe_int pa_nil))) (fun _ _ => rfl)))
    (pss_one (ps_if (PW.pt (pw_or (pt_cmpR op_ne (pv 4) pe_str (nomark _)) (pw_or1 (pt_cmpR op_ne (pe_ix ix_str (pv 2) (pe_op op_sub (pe_callB call_len_str rfl t.f_len boot_len (pa_cons (pv 2) pa_nil)) pe_int) (fun _ _ => rfl)) pe_str (nomark _)))))
      (pss_one (ps_set (i := 2) scLawText.nd rfl (Or.inl rfl) (pe_op op_add_str (pv 2) (pv 4))))
      pss_nil))))
    (C8.pss_cut (ps_if (pt_cmpR op_eq (pe_ix ix_str (pv 2) (pe_op op_sub (pe_callB call_len_str rfl t.f_len boot_len (pa_cons (pv 2) pa_nil)) pe_int) (fun _ _ => rfl)) pe_str (nomark _))
      (pss_one (ps_set (i := 2) scLawText.nd rfl (Or.inl rfl) (pe_op op_add_str (pv 2) pe_str)))
      pss_nil)
    (pss_one (ps_ret (pv 2))))), ?_⟩
  have ab : sl (Str.ofString "ab") = [97, 98] := by decide +kernel
  have aabb : sl (Str.ofString "aabb ") = [97, 97, 98, 98, 32] := by decide +kernel
  have ea : (Str.ofString "a").length = 1 := by decide +kernel
  have lst : ∀ x : Str, 1 ≤ x.length → atI x.cps.toList ((x.length : Int) - 1) = some ((sl x).getD (x.length - 1) 0) := fun x hx => by
    have hl : ((x.length : Int) - 1).toNat < (sl x).length := by rw [← sl_len]; omega
    have q := RZat hl (by omega)
    rw [q]
    have e : ((x.length : Int) - 1).toNat = x.length - 1 := by omega
    congr 1
    rw [← e]
    rw [List.getD_eq_getElem?_getD, List.getElem?_eq_getElem hl]
    rfl
  refine ⟨_, rfl, a, 2, rfl, hD, by decide, fun v H1 v0 v1 D1 B1 => ?_⟩
  refine ⟨_, v, _, rfl, rfl, (by decide +kernel), atS ab v0 (by show v.toNat < 2; omega), ?_⟩
  refine ⟨_, rfl, _, rfl, a, m, rfl, D1, m0, fun u H2 u0 u1 D2 B2 => ?_⟩
  refine ⟨_, rfl, by omega, by omega, ?_⟩
  refine for_range (lo := 0) (n := u.toNat) (fun i σ' H' => (∃ (x : Str) (o3 o4 : Option V), σ' = [some (.ref a), some (.int m), some (.str x), o3, o4] ∧ 1 ≤ x.length ∧ x.length ≤ 1 + i) ∧ Dr H' a ∧ But a H H') ⟨⟨_, _, _, rfl, Nat.le_refl _, Nat.le_refl _⟩, D2, B1.trans B2⟩ ?_ ?_
  · rintro i σ' H' hi ⟨⟨x, o3, o4, rfl, x1, x2⟩, D3, B3⟩
    refine ⟨_, rfl, a, 5, rfl, D3, by decide, fun c H4 c0 c1 D4 B4 => ?_⟩
    refine ⟨_, c, _, rfl, rfl, (by decide +kernel), atS aabb c0 (by show c.toNat < 5; omega), ?_⟩
    have more : ∀ z : Nat, ((∃ (x' : Str) (o3 o4 : Option V), [some (V.ref a), some (.int m), some (.str (x ++ sg z)), some (.int (0 + (i : Int))), some (.str (sg z))] = [some (V.ref a), some (.int m), some (.str x'), o3, o4] ∧ 1 ≤ x'.length ∧ x'.length ≤ 1 + (i + 1)) ∧ Dr H4 a ∧ But a H H4) := fun z =>
      ⟨⟨_, _, _, rfl, by rw [len_app]; omega, by rw [len_app]; show x.length + 1 ≤ _; omega⟩, D4, B3.trans B4⟩
    refine ⟨_, rfl, rfl, _, rfl, ?_⟩
    refine ite2 (fun h1 => ?_) (fun h1 => ?_)
    · exact ⟨_, rfl, _, rfl, _, _, rfl, rfl, (by show x.length + 1 ≤ sizeLine; exact small4 (by omega)), more _⟩
    · refine ⟨_, rfl, _, rfl, _, rfl, small4 (by omega), _, _, rfl, rfl, _, _, _, rfl, rfl, small4 (by omega), lst x x1, rfl, _, rfl, ?_⟩
      refine ite2 (fun h2 => ?_) (fun h2 => ⟨⟨_, _, _, rfl, x1, by omega⟩, D4, B3.trans B4⟩)
      exact ⟨_, rfl, _, rfl, _, _, rfl, rfl, (by show x.length + 1 ≤ sizeLine; exact small4 (by omega)), more _⟩
  rintro σ' H' ⟨⟨x, o3, o4, rfl, x1, x2⟩, D3, B3⟩
  refine ⟨fun σ2 H2 => (∃ x : Str, σ2 = [some (V.ref a), some (.int m), some (.str x), o3, o4] ∧ 1 ≤ x.length ∧ x.length ≤ 1001) ∧ H2 = H', ?_, ?_⟩
  · refine ⟨_, rfl, _, rfl, _, rfl, small4 (by omega), _, _, rfl, rfl, _, _, _, rfl, rfl, small4 (by omega), lst x x1, rfl, _, rfl, ?_⟩
    refine ite2 (fun h2 => ?_) (fun h2 => ⟨⟨_, rfl, x1, by omega⟩, rfl⟩)
    exact ⟨_, rfl, _, _, rfl, rfl, (by rw [ea]; exact small4 (by omega)), ⟨_, rfl, by rw [len_app]; omega, by rw [len_app, ea]; omega⟩, rfl⟩
  rintro σ2 H2 ⟨⟨x, rfl, x1, x2⟩, rfl⟩
  exact ⟨_, rfl, k x _ x1 x2 D3 B3⟩
end
end Sx

set_option Elab.async false
set_option linter.all false
set_option maxRecDepth 100000
set_option maxHeartbeats 1000000
namespace Sx
open PySem PySem.Spec PyProof.Rows L2 SxA
/-! ### blocks: their kinds alone -/
structure BlksAt (H : Hp) (p : Addr) (vs : List V) (ks : List Str) : Prop where
  at_ : H p = some (.lst vs)
  len : vs.length = ks.length
  el : ∀ (i : Nat) v kd, vs[i]? = some v → ks[i]? = some kd → ∃ q rest, v = .ref q ∧ H q = some (.tup (.str kd :: rest))
theorem BlksAt.same {H H' : Hp} {p : Addr} {vs : List V} {ks : List Str} (h : BlksAt H p vs ks) (s : Same H H') : BlksAt H' p vs ks :=
  ⟨s _ _ h.at_, h.len, fun i v kd a b => by
    obtain ⟨q, rest, e, hq⟩ := h.el i v kd a b
    exact ⟨q, rest, e, s _ _ hq⟩⟩
theorem BlksAt.but {H H' : Hp} {a p : Addr} {vs : List V} {ks : List Str} (h : BlksAt H p vs ks) (s : But a H H') (n : p ≠ a) (D : Dr H a) : BlksAt H' p vs ks := by
  obtain ⟨ns, hn⟩ := D
  refine ⟨s _ _ h.at_ n, h.len, fun i v kd a b => ?_⟩
  obtain ⟨q, rest, e, hq⟩ := h.el i v kd a b
  exact ⟨q, rest, e, s _ _ hq (ne_of hq hn (by intro z; cases z))⟩
def nv (n : Nat) : V := .int (n : Int)
def spBlocks : Sp := fun vs H Q _ => ∃ (a : Addr) (lo hi m : Int), vs = [.ref a, .int lo, .int hi, .int m] ∧ Dr H a ∧ 0 ≤ lo ∧ lo ≤ hi ∧ hi ≤ 1000 ∧ 0 < m ∧ m ≤ 1000 ∧ ∀ p vs ks H', H p = none → BlksAt H' p vs ks → lo ≤ ks.length → ks.length ≤ hi → Dr H' a → But a H H' → Q (.ref p) H'
structure Counts (ks : List Str) (ns : List Nat) : Prop where
  len : ns.length = ks.length
  pos : ∀ n ∈ ns, 1 ≤ n ∧ n ≤ 6
  brk : ∀ (i : Nat) (kd : Str) (n : Nat), ks[i]? = some kd → ns[i]? = some n → kd = "break" → n = 1
def spCounts : Sp := fun vs H Q _ => ∃ (a p : Addr) (bs : List V) (ks : List Str), vs = [.ref a, .ref p] ∧ Dr H a ∧ BlksAt H p bs ks ∧ p ≠ a ∧ ks.length ≤ 1000 ∧ ∀ q ns H', H q = none → H' q = some (.lst (ns.map nv)) → Counts ks ns → Dr H' a → But a H H' → Q (.ref q) H'
section
variable {P : Program} {w : World} {K : PySem.W.Frag} {mg : Str → Option Value} {base : Heap}
abbrev nsLawBlock : List Str := ["draws", "most", "kind", "text"]
theorem scLawBlock : FnScope nsLawBlock ["draws", "most"] (defScope sLawBlock) := ⟨rfl, rfl, rfl, by decide +kernel, rfl, by decide +kernel, by decide +kernel⟩
theorem ok_law_block (t : T K mg) : Ok P w K mg base 3 "_law_block" ["draws", "most"] spBlock := by
  refine mkOk t.d_law_block t.g_law_block scLawBlock (fun vs H Q E h => ?_) (fun _ _ _ _ _ _ us hl => match us, hl with | [_, _], _ => rfl) fun cdv A outer s H vs Q E hr h => ?_
  · obtain ⟨a, m, rfl, _⟩ := h; rfl
  obtain ⟨a, m, rfl, hD, m0, m1, k⟩ := h
  have hr1 : Room 1 _ := hr.mono (by decide)
  have hr2 : Room 2 _ := hr.mono (by decide)
  refine ⟨_, pss_cons (ps_set (i := 2) scLawBlock.nd rfl (Or.inl rfl) (pe_ok (ok_law_take t) hr1 rfl (pa_cons (pv 0) (pa_cons pe_int pa_nil))))
    (pss_cons (ps_set (i := 3) scLawBlock.nd rfl (Or.inl rfl) (pe_ok (ok_law_text t) hr2 rfl (pa_cons (pv 0) (pa_cons (pv 1) pa_nil))))
    (pss_cons (ps_if (pt_cmpR op_lt (pv 2) pe_int (nomark _))
      (pss_one (ps_ret (pe_tup (pa_cons pe_str (pa_cons (pv 3) pa_nil)))))
      pss_nil)
    (pss_cons (ps_if (pt_cmpR op_lt (pv 2) pe_int (nomark _))
      (pss_one (ps_ret (pe_tup (pa_cons pe_str (pa_cons (pv 3) pa_nil)))))
      pss_nil)
    (pss_cons (ps_if (pt_cmpR op_eq (pv 2) pe_int (nomark _))
      (pss_one (ps_ret (pe_tup (pa_cons pe_str (pa_cons (pe_op op_add pe_int (pe_ok (ok_law_take t) hr1 rfl (pa_cons (pv 0) (pa_cons pe_int pa_nil)))) (pa_cons (pv 3) pa_nil))))))
      pss_nil)
    (pss_cons (ps_if (pt_cmpR op_eq (pv 2) pe_int (nomark _))
      (pss_one (ps_ret (pe_tup (pa_cons pe_str (pa_cons (pe_ix ix_list (pe_lst (pa_cons (pe_op op_add pe_int (pe_ok (ok_law_take t) hr1 rfl (pa_cons (pv 0) (pa_cons pe_int pa_nil)))) (pa_cons pe_int pa_nil))) (pe_ok (ok_law_take t) hr1 rfl (pa_cons (pv 0) (pa_cons pe_int pa_nil))) (fun _ _ => rfl)) (pa_cons (pv 3) pa_nil))))))
      pss_nil)
    (pss_one (ps_ret (pe_tup (pa_cons pe_str pa_nil))))))))), ?_⟩
  refine ⟨_, rfl, a, 8, rfl, hD, by decide, fun v H1 v0 v1 D1 B1 => ?_⟩
  refine ⟨_, rfl, _, rfl, a, m, rfl, D1, m0, m1, fun x H2 x1 x2 D2 B2 => ?_⟩
  have B := B1.trans B2
  have fin : ∀ (kd : Str) rest (H3 : Hp) p, Dr H3 a → But a H H3 → H3 p = none → Q (.ref p) (upd H3 p (.tup (.str kd :: rest))) := fun kd rest H3 p D3 B3 hp => by
    refine k p kd rest _ ?_ upd_same (D3.new hp) (B3.new ?_)
    all_goals
      cases e : H p with
      | none => rfl
      | some o =>
        by_cases n : p = a
        · obtain ⟨o2, h2⟩ := D3.has
          rw [n, h2] at hp
          cases hp
        · rw [B3 _ _ e n] at hp
          cases hp
  refine ⟨_, rfl, _, _, rfl, rfl, _, rfl, ?_⟩
  refine ite2 (fun h1 => ⟨_, rfl, (by show 2 ≤ sizeLine; decide), fun p hp => fin _ _ _ p D2 B hp⟩) (fun h1 => ?_)
  refine ⟨_, rfl, _, _, rfl, rfl, _, rfl, ?_⟩
  refine ite2 (fun h2 => ⟨_, rfl, (by show 2 ≤ sizeLine; decide), fun p hp => fin _ _ _ p D2 B hp⟩) (fun h2 => ?_)
  refine ⟨_, rfl, rfl, _, rfl, ?_⟩
  refine ite2 (fun h3 => ?_) (fun h3 => ?_)
  · refine ⟨_, rfl, a, 3, rfl, D2, by decide, fun u H3 u0 u1 D3 B3 => ⟨_, _, rfl, rfl, _, rfl, (by show 3 ≤ sizeLine; decide), fun p hp => fin _ _ _ p D3 (B.trans B3) hp⟩⟩
  refine ⟨_, rfl, rfl, _, rfl, ?_⟩
  refine ite2 (fun h4 => ?_) (fun h4 => ⟨(by show 1 ≤ sizeLine; decide), fun p hp => fin _ _ _ p D2 B hp⟩)
  refine ⟨_, rfl, a, 99, rfl, D2, by decide, fun u H3 u0 u1 D3 B3 => ⟨_, _, rfl, rfl, (by show 2 ≤ sizeLine; decide), fun l hl => ?_⟩⟩
  refine ⟨_, rfl, a, 2, rfl, D3.new hl, by decide, fun y H4 y0 y1 D4 B4 => ?_⟩
  have hl4 := B4 _ _ upd_same (D3.ne hl).symm
  have hy : y = 0 ∨ y = 1 := by omega
  obtain ⟨z, hz⟩ : ∃ z : Int, atI [V.int (1 + u), V.int 7] y = some (.int z) := by
    rcases hy with rfl | rfl
    · exact ⟨_, rfl⟩
    · exact ⟨_, rfl⟩
  refine ⟨_, _, _, _, rfl, rfl, SqL.of hl4, hz, _, rfl, (by show 3 ≤ sizeLine; decide), fun p hp => fin _ _ _ p D4 ((B.trans B3).trans fun b o e n => ?_) hp⟩
  exact B4 b o (by rw [upd_ne (ne_of_none e hl)]; exact e) n
theorem get_snoc {α : Type} {l : List α} {x y : α} {i j : Nat} (hl : l.length = i) (h : (l ++ [x])[j]? = some y) : (j < i ∧ l[j]? = some y) ∨ (j = i ∧ y = x) := by
  by_cases hji : j < i
  · rw [List.getElem?_append_left (by omega)] at h
    exact .inl ⟨hji, h⟩
  · rw [List.getElem?_append_right (by omega)] at h
    have hj : j - l.length = 0 := by
      have := (List.getElem?_eq_some_iff.mp h).1
      rw [List.length_singleton] at this
      omega
    rw [hj] at h
    exact .inr ⟨by omega, (Option.some.inj h).symm⟩
theorem But.free {a : Addr} {H H' : Hp} {p : Addr} (b : But a H H') (D : Dr H' a) (hp : H' p = Option.none) : H p = Option.none := by
  cases e : H p with
  | none => rfl
  | some o =>
    by_cases n : p = a
    · obtain ⟨o2, h2⟩ := D.has
      rw [n, h2] at hp
      cases hp
    · rw [b _ _ e n] at hp
      cases hp
theorem small1 {n : Nat} (h : n ≤ 100000) : n < sizeLine := Nat.lt_of_le_of_lt h (by decide)
abbrev nsLawBlocks : List Str := ["draws", "least", "most", "length", "k"]
theorem scLawBlocks : FnScope nsLawBlocks ["draws", "least", "most", "length"] (defScope sLawBlocks) := ⟨rfl, rfl, rfl, by decide +kernel, rfl, by decide +kernel, by decide +kernel⟩
theorem ok_law_blocks (t : T K mg) : Ok P w K mg base 4 "_law_blocks" ["draws", "least", "most", "length"] spBlocks := by
  refine mkOk t.d_law_blocks t.g_law_blocks scLawBlocks (fun vs H Q E h => ?_) (fun _ _ _ _ _ _ us hl => match us, hl with | [_, _, _, _], _ => rfl) fun cdv A outer s H vs Q E hr h => ?_
  · obtain ⟨a, lo, hi, m, rfl, _⟩ := h; rfl
  obtain ⟨a, lo, hi, m, rfl, hD, l0, l1, l2, m0, m1, k⟩ := h
  have hr1 : Room 1 _ := hr.mono (by decide)
  have hr3 : Room 3 _ := hr.mono (by decide)
  refine ⟨_, pss_one (ps_ret (pe_lc (own := [("k", 4)]) (g := gName 4) (tt := tYes) rfl scLawBlocks.nd (pi_range1 rfl t.f_range (pa_cons (pe_op op_add (pv 1) (pe_ok (ok_law_take t) hr1 rfl (pa_cons (pv 0) (pa_cons (pe_op op_add (pe_op op_sub (pv 2) (pv 1)) pe_int) pa_nil)))) pa_nil)) (blkOk_by (own := [("k", 4)]) (N := nsLawBlocks) (sc := defScope sLawBlocks) (by decide +kernel)) (fun _ _ _ _ _ => pg_name (i := 4) scLawBlocks.nd rfl (Or.inl rfl)) (fun _ _ _ _ _ => pts_nil) (fun _ _ _ _ _ => (pe_ok (ok_law_block t) hr3 rfl (pa_cons (pv 0) (pa_cons (pv 3) pa_nil)))))), ?_⟩
  refine ⟨_, rfl, _, rfl, _, rfl, _, rfl, _, _, rfl, rfl, _, _, rfl, rfl, a, _, rfl, hD, by omega, fun v H1 v0 v1 D1 B1 => ?_⟩
  refine ⟨_, _, rfl, rfl, _, rfl, by omega, by omega, fun D hN => ?_⟩
  refine lc_range (lo := 0) (n := (lo + v).toNat) (fun i H' => (∃ (ys : List V) (ks : List Str), ys.length = i ∧ BlksAt H' D ys ks) ∧ Dr H' a ∧ But a H1 H') ?_ ?_ ?_
  · exact ⟨⟨[], [], rfl, upd_same, rfl, fun (i : Nat) v kd h => by simp at h⟩, D1.new hN, But.new (But.refl _ _) hN⟩
  · rintro i H' hi ⟨⟨ys, ks, yl, hB⟩, D2, B2⟩
    have naD : D ≠ a := by
      intro e
      obtain ⟨o2, h2⟩ := D1.has
      rw [e, h2] at hN
      cases hN
    refine ⟨rfl, ?_⟩
    refine ⟨_, rfl, _, rfl, a, m, rfl, D2, m0, m1, fun p kd rest H3 hp hp3 D3 B3 => ?_⟩
    have hB3 := hB.but B3 naD D2
    have hD3 := hB3.at_
    refine ⟨ys, hD3, small1 (by omega), ⟨ys ++ [.ref p], ks ++ [kd], by rw [List.length_append, yl]; rfl, upd_same, by rw [List.length_append, List.length_append, hB3.len]; rfl, fun j y kd' hj hj' => ?_⟩, D3.put naD.symm, fun b o e nb => ?_⟩
    · rcases get_snoc yl hj with ⟨q1, q2⟩ | ⟨q1, rfl⟩
      · rcases get_snoc (hB3.len.symm.trans yl) hj' with ⟨q3, q4⟩ | ⟨q3, _⟩
        · obtain ⟨q, rest', e, hq⟩ := hB3.el j y kd' q2 q4
          exact ⟨q, rest', e, by rw [upd_ne (ne_of hq hD3 (by intro z; cases z))]; exact hq⟩
        · omega
      · rcases get_snoc (hB3.len.symm.trans yl) hj' with ⟨q3, q4⟩ | ⟨q3, rfl⟩
        · omega
        · exact ⟨p, rest, rfl, by rw [upd_ne (ne_of hp3 hD3 (by intro z; cases z))]; exact hp3⟩
    · rw [upd_ne (ne_of_none e hN)]
      exact B3 _ _ (B2 b o e nb) nb
  · rintro H' ⟨⟨ys, ks, yl, hB⟩, D2, B2⟩
    have e := hB.len
    exact k D ys ks H' (B1.free D1 hN) hB (by omega) (by omega) D2 (B1.trans B2)
abbrev nsLawCounts : List Str := ["draws", "blocks", "found", "block"]
theorem scLawCounts : FnScope nsLawCounts ["draws", "blocks"] (defScope sLawCounts) := ⟨rfl, rfl, rfl, by decide +kernel, rfl, by decide +kernel, by decide +kernel⟩
theorem Counts.snoc {ks : List Str} {ns : List Nat} {i n : Nat} {kd : Str} (h : Counts (ks.take i) ns) (hk : ks[i]? = some kd) (h1 : 1 ≤ n ∧ n ≤ 6) (hb : kd = "break" → n = 1) : Counts (ks.take (i + 1)) (ns ++ [n]) := by
  have tk : ks.take (i + 1) = ks.take i ++ [kd] := by rw [List.take_add_one, hk]; rfl
  have il : i < ks.length := (List.getElem?_eq_some_iff.mp hk).1
  have kl : (ks.take i).length = i := by rw [List.length_take]; omega
  rw [tk]
  refine ⟨by rw [List.length_append, List.length_append, h.len]; rfl, fun x hx => ?_, fun j kd' n' hj hj' e => ?_⟩
  · rw [List.mem_append, List.mem_singleton] at hx
    rcases hx with hx | rfl
    · exact h.pos x hx
    · exact h1
  · rcases get_snoc kl hj with ⟨q1, q2⟩ | ⟨q1, rfl⟩
    · rcases get_snoc (h.len.trans kl) hj' with ⟨q3, q4⟩ | ⟨q3, _⟩
      · exact h.brk j kd' n' q2 q4 e
      · omega
    · rcases get_snoc (h.len.trans kl) hj' with ⟨q3, q4⟩ | ⟨q3, rfl⟩
      · omega
      · exact hb e
theorem ok_law_counts (t : T K mg) : Ok P w K mg base 2 "_law_counts" ["draws", "blocks"] spCounts := by
  refine mkOk t.d_law_counts t.g_law_counts scLawCounts (fun vs H Q E h => ?_) (fun _ _ _ _ _ _ us hl => match us, hl with | [_, _], _ => rfl) fun cdv A outer s H vs Q E hr h => ?_
  · obtain ⟨a, p, bs, ks, rfl, _⟩ := h; rfl
  obtain ⟨a, p, bs, ks, rfl, hD, hB, npa, kl, k⟩ := h
  have hr1 : Room 1 _ := hr.mono (by decide)
  refine ⟨_, pss_cons (ps_set (i := 2) scLawCounts.nd rfl (Or.inl rfl) (pe_lst pa_nil))
    (pss_cons (ps_for PassesOwn.never rfl (pi_list (pv 1)) (pg_name (i := 3) scLawCounts.nd rfl (Or.inl rfl))
      (pss_one (ps_if (pt_cmpR op_eq (pe_ix ix_tup (pv 3) pe_int (fun _ _ => rfl)) pe_str (nomark _))
      (pss_one (ps_expr (pe_bm PySem.F.plainAttrs_list PySem.F.slot_list_append PySem.F.type_list_append mt_append (pv 2) (pa_cons pe_int pa_nil))))
      (pss_one (ps_expr (pe_bm PySem.F.plainAttrs_list PySem.F.slot_list_append PySem.F.type_list_append mt_append (pv 2) (pa_cons (pe_op op_add pe_int (pe_ok (ok_law_take t) hr1 rfl (pa_cons (pv 0) (pa_cons pe_int pa_nil)))) pa_nil)))))))
    (pss_one (ps_ret (pv 2)))), ?_⟩
  refine ⟨(by show 0 ≤ sizeLine; decide), fun D hN => ?_⟩
  have naD : D ≠ a := fun e => hD.ne hN e.symm
  have B0 : BlksAt (upd H D (.lst [])) p bs ks := hB.same (Same.new hN)
  refine ⟨_, rfl, p, rfl, ⟨_, SqL.of B0.at_⟩, ?_⟩
  refine for_list (K := K) (a := p) (xs := bs) (fun i σ' H' => (∃ (ns : List Nat) (o3 : Option V), σ' = [some (.ref a), some (.ref p), some (.ref D), o3] ∧ H' D = some (.lst (ns.map nv)) ∧ Counts (ks.take i) ns) ∧ BlksAt H' p bs ks ∧ Dr H' a ∧ But a H H') ?_ (fun i σ' H' _ p => SqL.of p.2.1.at_) ?_ ?_
  · exact ⟨⟨[], none, rfl, upd_same, rfl, fun n hn => absurd hn List.not_mem_nil, fun (i : Nat) kd n h => by simp at h⟩, B0, hD.new hN, But.new (But.refl _ _) hN⟩
  · rintro i x σ' H' hx ⟨⟨ns, o3, rfl, hns, hC⟩, hB', D2, B2⟩
    have il : i < ks.length := by
      have := (List.getElem?_eq_some_iff.mp hx).1
      rw [hB'.len] at this
      exact this
    have nl : ns.length ≤ 1000 := by
      have := hC.len
      rw [List.length_take] at this
      omega
    have hk : ks[i]? = some ks[i] := List.getElem?_eq_getElem il
    obtain ⟨q, rest, rfl, hq⟩ := hB'.el i x _ hx hk
    have nD : ∀ (o : HO) , H D = none → D ≠ p := fun _ h => (ne_of_none hB.at_ h).symm
    refine ⟨_, rfl, q, _, _, _, rfl, rfl, SqT.of hq, atI_nat (j := 0) rfl, rfl, _, rfl, ?_⟩
    have step : ∀ (n : Nat) (y : V) (H3 : Hp), y = nv n → H3 D = some (.lst (ns.map nv)) → BlksAt H3 p bs ks → Dr H3 a → But a H H3 → 1 ≤ n ∧ n ≤ 6 → (ks[i] = "break" → n = 1) →
        (∃ (ns' : List Nat) (o3 : Option V), [some (V.ref a), some (.ref p), some (.ref D), some (.ref q)] = [some (V.ref a), some (.ref p), some (.ref D), o3] ∧ upd H3 D (.lst (ns.map nv ++ [y])) D = some (.lst (ns'.map nv)) ∧ Counts (ks.take (i + 1)) ns') ∧ BlksAt (upd H3 D (.lst (ns.map nv ++ [y]))) p bs ks ∧ Dr (upd H3 D (.lst (ns.map nv ++ [y]))) a ∧ But a H (upd H3 D (.lst (ns.map nv ++ [y]))) := fun n y H3 ey h1 h2 h3 h4 h5 h6 =>
      ⟨⟨ns ++ [n], _, rfl, by rw [upd_same, List.map_append, ey]; rfl, hC.snoc hk h5 h6⟩, ⟨by rw [upd_ne (nD (.lst []) hN).symm]; exact h2.at_, h2.len, fun j v kd hj hj' => by
        obtain ⟨r, rest', e, hr⟩ := h2.el j v kd hj hj'
        exact ⟨r, rest', e, by rw [upd_ne (ne_of hr h1 (by intro z; cases z))]; exact hr⟩⟩, h3.put naD.symm, h4.new hN⟩
    refine ite2 (fun h1 => ?_) (fun h1 => ?_)
    · have e1 : ks[i] = "break" := by
        simp at h1
        exact h1
      refine ⟨_, rfl, .inl ⟨rfl, _, SqL.of hns⟩, D, _, _, rfl, rfl, hns, (by rw [List.length_map]; exact small1 (by omega)), step 1 _ H' rfl hns hB' D2 B2 ⟨by decide, by decide⟩ (fun _ => rfl)⟩
    · have e1 : ks[i] ≠ "break" := by
        simp at h1
        exact h1
      refine ⟨_, rfl, .inl ⟨rfl, _, SqL.of hns⟩, _, rfl, a, 6, rfl, D2, by decide, fun v H3 v0 v1 D3 B3 => ?_⟩
      have hns3 := B3 _ _ hns naD
      refine ⟨_, _, rfl, rfl, D, _, _, rfl, rfl, hns3, (by rw [List.length_map]; exact small1 (by omega)), ?_⟩
      have ev : V.int (1 + v) = nv (v.toNat + 1) := by
        show V.int (1 + v) = V.int ((v.toNat + 1 : Nat) : Int)
        congr 1
        omega
      exact step (v.toNat + 1) _ H3 ev hns3 (hB'.but B3 npa D2) D3 (B2.trans B3) ⟨by omega, by omega⟩ (fun e => absurd e e1)
  · rintro σ' H' ⟨⟨ns, o3, rfl, hns, hC⟩, hB', D2, B2⟩
    rw [hB.len, List.take_length] at hC
    exact ⟨_, rfl, k D ns H' hN hns hC D2 B2⟩
end
end Sx

set_option Elab.async false
set_option linter.all false
set_option maxRecDepth 100000
set_option maxHeartbeats 1000000
namespace Sx
open PySem PySem.Spec PyProof.Rows L2 SxA
/-! ### whose a line is -/
def own (n : Nat → Nat) (m : Nat) : List (Nat × Nat) := (List.range m).flatMap fun k => (List.range (n k)).map fun j => (k, j)
theorem own_succ (n : Nat → Nat) (m : Nat) : own n (m + 1) = own n m ++ (List.range (n m)).map fun j => (m, j) := by
  unfold own
  rw [List.range_succ, List.flatMap_append]
  simp
theorem own_get (n : Nat → Nat) : ∀ m k j, k < m → j < n k → (own n m)[(own n k).length + j]? = some (k, j)
  | 0, k, j, h, _ => absurd h (Nat.not_lt_zero _)
  | m + 1, k, j, h, hj => by
    rw [own_succ]
    by_cases e : k = m
    · subst e
      rw [List.getElem?_append_right (by omega)]
      simp [hj]
    · have q := own_get n m k j (by omega) hj
      rw [List.getElem?_append_left (List.getElem?_eq_some_iff.mp q).1]
      exact q
theorem own_inv (n : Nat → Nat) : ∀ m i k j, (own n m)[i]? = some (k, j) → k < m ∧ j < n k ∧ i = (own n k).length + j
  | 0, i, k, j, h => by simp [own] at h
  | m + 1, i, k, j, h => by
    rw [own_succ] at h
    by_cases e : i < (own n m).length
    · rw [List.getElem?_append_left e] at h
      obtain ⟨a, b, c⟩ := own_inv n m i k j h
      exact ⟨by omega, b, c⟩
    · rw [List.getElem?_append_right (by omega)] at h
      obtain ⟨h1, h2⟩ := List.getElem?_eq_some_iff.mp h
      rw [List.length_map, List.length_range] at h1
      rw [List.getElem_map, List.getElem_range] at h2
      cases h2
      exact ⟨Nat.lt_succ_self _, h1, by omega⟩
theorem own_mono (n : Nat → Nat) (k : Nat) : (own n (k + 1)).length = (own n k).length + n k := by
  rw [own_succ, List.length_append, List.length_map, List.length_range]
theorem own_le (n : Nat → Nat) {m : Nat} : ∀ {q : Nat}, m ≤ q → (own n m).length ≤ (own n q).length
  | 0, h => by
    have : m = 0 := by omega
    rw [this]
    exact Nat.le_refl _
  | q + 1, h => by
    by_cases z : m = q + 1
    · rw [z]; exact Nat.le_refl _
    · have := own_le n (m := m) (q := q) (by omega)
      rw [own_mono]
      omega
/-- what stands behind a line's owner -/
theorem own_next {n : Nat → Nat} {m i k j : Nat} (h : (own n m)[i]? = some (k, j)) (h1 : i + 1 < (own n m).length) : ∃ k' j', (own n m)[i + 1]? = some (k', j') ∧ (j + 1 < n k → k' = k ∧ j' = j + 1) ∧ (¬ j + 1 < n k → k' ≠ k) := by
  obtain ⟨a, b, c⟩ := own_inv n m i k j h
  obtain ⟨⟨k', j'⟩, e⟩ : ∃ q, (own n m)[i + 1]? = some q := ⟨_, List.getElem?_eq_getElem h1⟩
  refine ⟨k', j', e, fun lt => ?_, fun ge q => ?_⟩
  · have q := own_get n m k (j + 1) a lt
    rw [show (own n k).length + (j + 1) = i + 1 by omega, e] at q
    cases q
    exact ⟨rfl, rfl⟩
  · subst q
    obtain ⟨_, b', c'⟩ := own_inv n m _ _ _ e
    omega
/-! ### where a page may end -/
def mpB (kd : Str) (n d : Nat) : Bool := !decide (kd = "head") && (decide (d = n) || (decide (1 < d) && decide (d + 1 < n)))
def nN (ns : List Nat) (k : Nat) : Nat := ns.getD k 0
def flatB (ks : List Str) (ns : List Nat) (m : Nat) : List Bool := (own (nN ns) m).map fun q => mpB (ks.getD q.1 "") (nN ns q.1) (q.2 + 1)
def partL (ks : List Str) (ns : List Nat) : List Bool := (false :: flatB ks ns ns.length).set (flatB ks ns ns.length).length true
theorem flatB_succ (ks : List Str) (ns : List Nat) (m : Nat) : flatB ks ns (m + 1) = flatB ks ns m ++ (List.range (nN ns m)).map fun j => mpB (ks.getD m "") (nN ns m) (j + 1) := by
  unfold flatB
  rw [own_succ, List.map_append, List.map_map]
  rfl
theorem flatB_len (ks : List Str) (ns : List Nat) (m : Nat) : (flatB ks ns m).length = (own (nN ns) m).length := List.length_map _
theorem partL_end (ks : List Str) (ns : List Nat) : (partL ks ns)[(own (nN ns) ns.length).length]? = some true := by
  unfold partL
  rw [flatB_len, List.getElem?_set_self]
  rw [List.length_cons, flatB_len]
  exact Nat.lt_succ_self _
theorem partL_in {ks : List Str} {ns : List Nat} {i k j : Nat} (h : (own (nN ns) ns.length)[i]? = some (k, j)) (hi : i + 1 < (own (nN ns) ns.length).length) : (partL ks ns)[i + 1]? = some (mpB (ks.getD k "") (nN ns k) (j + 1)) := by
  unfold partL
  rw [flatB_len, List.getElem?_set_ne (by omega), List.getElem?_cons_succ]
  unfold flatB
  rw [List.getElem?_map, h]
  rfl
theorem own_total (ns : List Nat) : (own (nN ns) ns.length).length = ns.sum := by
  have : ∀ m, m ≤ ns.length → (own (nN ns) m).length = (ns.take m).sum := fun m => by
    induction m with
    | zero => intro _; rfl
    | succ m ih =>
      intro h
      have e : ns[m]? = some (ns[m]'(by omega)) := List.getElem?_eq_getElem _
      have hn : nN ns m = ns[m]'(by omega) := by simp [nN, List.getD_eq_getElem?_getD, e]
      rw [own_mono, ih (by omega), hn, List.take_add_one, e]
      simp only [Option.toList, List.sum_append, List.sum_cons, List.sum_nil]
      omega
  have q := this ns.length (Nat.le_refl _)
  rw [List.take_length] at q
  exact q
theorem sum_le (ns : List Nat) (h : ∀ n ∈ ns, 1 ≤ n ∧ n ≤ 6) : ns.sum ≤ 6 * ns.length := by
  induction ns with
  | nil => exact Nat.le_refl _
  | cons n r ih =>
    have := (h n (.head _)).2
    have := ih fun x hx => h x (.tail _ hx)
    rw [List.sum_cons, List.length_cons]
    omega
theorem sum_take_le (ns : List Nat) (m : Nat) : (ns.take m).sum ≤ ns.sum := by
  have e := congrArg List.sum (List.take_append_drop m ns)
  rw [List.sum_append] at e
  omega
def spMayPart : Sp := fun vs H Q _ => ∃ (q : Addr) (kd : Str) (rest : List V) (n d : Nat), vs = [.ref q, nv n, nv d] ∧ H q = some (.tup (.str kd :: rest)) ∧ Q (.bl (mpB kd n d)) H
def spPart : Sp := fun vs H Q _ => ∃ (b l : Addr) (bs : List V) (ks : List Str) (ns : List Nat), vs = [.ref b, .ref l] ∧ BlksAt H b bs ks ∧ H l = some (.lst (ns.map nv)) ∧ Counts ks ns ∧ ks.length ≤ 1000 ∧
  ∀ p H', H p = none → Same H H' → H' p = some (.lst ((partL ks ns).map V.bl)) → Q (.ref p) H'
def spMayEnd : Sp := fun vs H Q _ => ∃ (b l : Addr) (bs : List V) (ks : List Str) (ns : List Nat) (at_ : Nat) (y : Bool), vs = [.ref b, .ref l, nv at_] ∧ BlksAt H b bs ks ∧ H l = some (.lst (ns.map nv)) ∧ Counts ks ns ∧ ks.length ≤ 1000 ∧ (partL ks ns)[at_]? = some y ∧
  ∀ H', Same H H' → Q (.bl y) H'
section
variable {P : Program} {w : World} {K : PySem.W.Frag} {mg : Str → Option Value} {base : Heap}
abbrev nsMayPart : List Str := ["block", "many", "done"]
theorem scMayPart : FnScope nsMayPart ["block", "many", "done"] (defScope sMayPart) := ⟨rfl, rfl, rfl, by decide +kernel, rfl, by decide +kernel, by decide +kernel⟩
theorem ok_may_part (t : T K mg) : Ok P w K mg base 1 "may_part" ["block", "many", "done"] spMayPart := by
  refine mkOk t.d_may_part t.g_may_part scMayPart (fun vs H Q E h => ?_) (fun _ _ _ _ _ _ us hl => match us, hl with | [_, _, _], _ => rfl) fun cdv A outer s H vs Q E hr h => ?_
  · obtain ⟨q, kd, rest, n, d, rfl, _⟩ := h; rfl
  obtain ⟨q, kd, rest, n, d, rfl, hq, k⟩ := h
  refine ⟨_, pss_cons (ps_if (pt_cmpR op_eq (pe_ix ix_tup (pv 0) pe_int (fun _ _ => rfl)) pe_str (nomark _))
      (pss_one (ps_ret pe_bl))
      pss_nil)
    (pss_one (ps_ret (pe_or (pe_cmpR op_eq (pv 2) (pv 1) (nomark _)) (pe_one (pe_chain op_lt op_lt pe_int (pv 2) (pe_op op_sub (pv 1) pe_int)))))), ?_⟩
  unfold mpB at k
  refine ⟨_, rfl, q, _, _, _, rfl, rfl, SqT.of hq, atI_nat (j := 0) rfl, rfl, _, rfl, ?_⟩
  refine ite2 (fun h1 => ?_) (fun h1 => ?_)
  · have e : kd = "head" := by simp at h1; exact h1
    rw [decide_eq_true e] at k
    exact k
  have e : kd ≠ "head" := by simp at h1; exact h1
  rw [decide_eq_false e] at k
  refine ⟨_, rfl, _, rfl, rfl, _, rfl, ?_⟩
  have e2 : decide (nv d = nv n) = decide (d = n) := by
    rw [decide_eq_decide]
    constructor
    · intro z
      have := V.int.inj z
      omega
    · intro z; rw [z]
  refine ite2 (fun h2 => ?_) (fun h2 => ?_)
  · rw [e2] at h2
    rw [h2] at k
    exact k
  · rw [e2, Bool.not_eq_true] at h2
    rw [h2] at k
    refine ⟨_, rfl, _, _, rfl, rfl, _, rfl, ?_⟩
    have e3 : decide ((1 : Int) < (d : Int)) = decide (1 < d) := by rw [decide_eq_decide]; omega
    refine ite2 (fun h3 => ?_) (fun h3 => ?_)
    · rw [e3] at h3
      rw [h3] at k
      refine ⟨_, rfl, _, _, rfl, rfl, _, _, rfl, rfl, ?_⟩
      have e4 : decide ((d : Int) < (n : Int) - 1) = decide (d + 1 < n) := by rw [decide_eq_decide]; omega
      show Q (.bl (decide ((d : Int) < (n : Int) - 1))) H
      rw [e4]
      exact k
    · rw [e3, Bool.not_eq_true] at h3
      rw [h3] at k
      exact k
abbrev nsPartingPlaces : List Str := ["blocks", "lines", "places", "block", "many", "done"]
theorem scPartingPlaces : FnScope nsPartingPlaces ["blocks", "lines"] (defScope sPartingPlaces) := ⟨rfl, rfl, rfl, by decide +kernel, rfl, by decide +kernel, by decide +kernel⟩
theorem ft (l : List Nat) : l.filter (fun _ => true) = l := List.filter_eq_self.mpr fun _ _ => rfl
theorem ok_parting_places (t : T K mg) : Ok P w K mg base 2 "parting_places" ["blocks", "lines"] spPart := by
  refine mkOk t.d_parting_places t.g_parting_places scPartingPlaces (fun vs H Q E h => ?_) (fun _ _ _ _ _ _ us hl => match us, hl with | [_, _], _ => rfl) fun cdv A outer s H vs Q E hr h => ?_
  · obtain ⟨b, l, bs, ks, ns, rfl, _⟩ := h; rfl
  obtain ⟨b, l, bs, ks, ns, rfl, hB, hL, hC, kl, k⟩ := h
  have hr1 : Room 1 _ := hr.mono (by decide)
  refine ⟨_, pss_cons (ps_set (i := 2) scPartingPlaces.nd rfl (Or.inl rfl) (pe_lst (pa_cons pe_bl pa_nil)))
    (pss_cons (ps_for PassesOwn.never rfl (pi_zip (by rfl) t.f_zip (pa_cons (pv 0) (pa_cons (pv 1) pa_nil))) (pg_tup rfl (pgs_cons (pg_name (i := 3) scPartingPlaces.nd rfl (Or.inr rfl)) (pgs_cons (pg_name (i := 4) scPartingPlaces.nd rfl (Or.inr rfl)) pgs_nil)))
      (pss_one (ps_expr (pe_bm PySem.F.plainAttrs_list PySem.F.slot_list_extend PySem.F.type_list_extend mt_extend (pv 2) (pa_cons (pe_lc (own := [("done", 5)]) (g := gName 5) (tt := tYes) rfl scPartingPlaces.nd (pi_range2 rfl t.f_range (pa_cons pe_int (pa_cons (pe_op op_add (pv 4) pe_int) pa_nil))) (blkOk_by (own := [("done", 5)]) (N := nsPartingPlaces) (sc := defScope sPartingPlaces) (by decide +kernel)) (fun _ _ _ _ _ => pg_name (i := 5) scPartingPlaces.nd rfl (Or.inl rfl)) (fun _ _ _ _ _ => pts_nil) (fun _ _ _ _ _ => (pe_ok (ok_may_part t) hr1 rfl (pa_cons (pv 3) (pa_cons (pv 4) (pa_cons (pv 5) pa_nil)))))) pa_nil)))))
    (pss_cons (ps_asg pe_bl (pg_sub (pv 2) (pe_un un_neg pe_int) set_list))
    (pss_one (ps_ret (pv 2))))), ?_⟩
  have hl : bs.length = (ns.map nv).length := by rw [List.length_map, hC.len, hB.len]
  have few : ∀ m, m ≤ ns.length → (flatB ks ns m).length ≤ 6000 := fun m h => by
    rw [flatB_len]
    have e1 := own_total ns
    have e2 := sum_le ns hC.pos
    have e3 := own_le (nN ns) h
    have := hC.len
    omega
  refine ⟨(by show 1 ≤ sizeLine; decide), fun D hN => ?_⟩
  refine ⟨_, rfl, _, rfl, b, l, bs, ns.map nv, rfl, SqL.of (Same.new hN _ _ hB.at_), SqL.of (Same.new hN _ _ hL), ?_⟩
  refine RZ.for_zipL (K := K) (a := b) (b := l) (xs := bs) (ys := ns.map nv) hl (fun i σ' H' => (∃ o3 o4 : Option V, σ' = [some (.ref b), some (.ref l), some (.ref D), o3, o4, none]) ∧ H' D = some (.lst ((false :: flatB ks ns i).map V.bl)) ∧ Same H H') ⟨⟨_, _, rfl⟩, upd_same, Same.new hN⟩ (fun i σ' H' p => ⟨SqL.of (p.2.2 _ _ hB.at_), SqL.of (p.2.2 _ _ hL)⟩) ?_ ?_
  · rintro i x y T σ' H' hx hy ⟨⟨o3, o4, rfl⟩, hD, s1⟩ hT
    have il : i < ns.length := by
      have := (List.getElem?_eq_some_iff.mp hy).1
      rw [List.length_map] at this
      exact this
    have hn : ns[i]? = some (ns[i]'il) := List.getElem?_eq_getElem il
    have ilk : i < ks.length := by rw [← hC.len]; exact il
    have hk : ks[i]? = some ks[i] := List.getElem?_eq_getElem ilk
    obtain ⟨q, rest, rfl, hq⟩ := hB.el i x _ hx hk
    have ey : y = nv ns[i] := by
      rw [List.getElem?_map, hn] at hy
      exact (Option.some.inj hy).symm
    subst ey
    have nDT : D ≠ T := ne_of_none hD hT
    have s2 : Same H (upd H' T (.tup [.ref q, nv ns[i]])) := Same.put s1 (Sx.Same.none s1 _ hT)
    have np := hC.pos _ (List.getElem_mem il)
    refine ⟨T, _, rfl, SqT.of upd_same, rfl, _, _, rfl, _, _, rfl, rfl, ?_⟩
    refine ⟨_, rfl, .inl ⟨rfl, _, SqL.of (by rw [upd_ne nDT]; exact hD)⟩, ?_⟩
    refine ⟨_, rfl, _, _, rfl, rfl, _, _, rfl, ⟨by omega, by omega, by omega, by omega⟩, fun C hCn => ?_⟩
    have nDC : D ≠ C := ne_of_none (show upd H' T (.tup [.ref q, nv ns[i]]) D = some _ by rw [upd_ne nDT]; exact hD) hCn
    refine lc_rangeF (lo := 1) (n := ((ns[i] : Int) + 1 - 1).toNat) (i0 := 5) (f := fun _ => true) (F := fun j => .bl (mpB ks[i] ns[i] (j + 1))) hCn (Nat.le_trans (show ((ns[i] : Int) + 1 - 1).toNat ≤ 6 by omega) (by decide)) (fun _ => rfl) (fun j H1 Q1 hj sm q1 => q1) (fun j H1 Q1 hj sm q1 => ?_) (fun H2 sm hC2 => ?_)
    · refine ⟨_, rfl, _, rfl, _, rfl, q, ks[i], rest, ns[i], j + 1, ?_, sm _ _ (s2 _ _ hq), q1⟩
      have : (1 : Int) + (j : Int) = ((j + 1 : Nat) : Int) := by omega
      show [V.ref q, nv ns[i], V.int (1 + (j : Int))] = _
      rw [this]
      rfl
    · refine ⟨D, C, _, _, rfl, rfl, sm _ _ (by rw [upd_ne nDT]; exact hD), hC2, ?_, ⟨⟨_, _, rfl⟩, ?_, ?_⟩⟩
      · rw [List.length_map, List.length_map, List.length_cons]
        have e1 := few i (by omega)
        have e2 : ((List.range ((ns[i] : Int) + 1 - 1).toNat).filter (fun _ => true)).length ≤ 6 := by
          rw [ft, List.length_range]
          omega
        exact Nat.le_trans (show _ ≤ 100000 by omega) (by decide)
      · rw [upd_same, flatB_succ, ft]
        have e1 : ((ns[i] : Int) + 1 - 1).toNat = nN ns i := by
          unfold nN
          rw [List.getD_eq_getElem?_getD, hn]
          show _ = ns[i]
          omega
        have e2 : ks.getD i "" = ks[i] := by
          rw [List.getD_eq_getElem?_getD, hk]
          rfl
        have e3 : nN ns i = ns[i] := by
          unfold nN
          rw [List.getD_eq_getElem?_getD, hn]
          rfl
        rw [e1, e2, ← List.cons_append, List.map_append, List.map_map, e3]
        rfl
      · exact Same.put (fun b o e => sm b o (s2 b o e)) hN
  · rintro σ' H' ⟨⟨o3, o4, rfl⟩, hD, s1⟩
    rw [hl, List.length_map] at hD
    have e1 : ixN ((false :: flatB ks ns ns.length).map V.bl).length (-1) = some (flatB ks ns ns.length).length := by
      rw [List.length_map, List.length_cons]
      unfold ixN
      rw [if_neg (by decide), if_pos (by omega)]
      congr 1
      omega
    refine ⟨_, rfl, _, rfl, D, _, _, _, rfl, rfl, hD, e1, ?_⟩
    refine ⟨_, rfl, k D _ hN (Same.put s1 hN) ?_⟩
    rw [upd_same]
    unfold partL
    rw [List.map_set]
end
end Sx

set_option Elab.async false
set_option linter.all false
set_option maxRecDepth 100000
set_option maxHeartbeats 1000000
namespace Sx
open PySem PySem.Spec PyProof.Rows L2 SxA
structure OwnAt (H : Hp) (p : Addr) (vs : List V) (os : List (Nat × Nat)) : Prop where
  at_ : H p = some (.lst vs)
  len : vs.length = os.length
  el : ∀ (i : Nat) v (q : Nat × Nat), vs[i]? = some v → os[i]? = some q → ∃ r, v = .ref r ∧ H r = some (.tup [nv q.1, nv q.2])
theorem OwnAt.get {H : Hp} {p : Addr} {vs : List V} {os : List (Nat × Nat)} (h : OwnAt H p vs os) {i : Nat} {q : Nat × Nat} (e : os[i]? = some q) : ∃ r, vs[i]? = some (.ref r) ∧ H r = some (.tup [nv q.1, nv q.2]) := by
  have il := (List.getElem?_eq_some_iff.mp e).1
  rw [← h.len] at il
  have e2 : vs[i]? = some vs[i] := List.getElem?_eq_getElem il
  obtain ⟨r, e3, hr⟩ := h.el i _ q e2 e
  exact ⟨r, by rw [e2, e3], hr⟩
def spOwners : Sp := fun vs H Q _ => ∃ (l : Addr) (ns : List Nat), vs = [.ref l] ∧ H l = some (.lst (ns.map nv)) ∧ ns.length ≤ 1000 ∧ (∀ n ∈ ns, 1 ≤ n ∧ n ≤ 6) ∧ ∀ p vs H', Same H H' → OwnAt H' p vs (own (nN ns) ns.length) → Q (.ref p) H'
def spMay : Sp := fun vs H Q _ => ∃ (b l : Addr) (bs : List V) (ks : List Str) (ns : List Nat) (at_ : Nat) (y : Bool), vs = [.ref b, .ref l, nv at_] ∧ BlksAt H b bs ks ∧ H l = some (.lst (ns.map nv)) ∧ Counts ks ns ∧ ks.length ≤ 1000 ∧ 1 ≤ at_ ∧ at_ ≤ ns.sum ∧ (partL ks ns)[at_]? = some y ∧
  ∀ H', Same H H' → Q (.bl y) H'
def spMayEnd2 : Sp := spMayEnd
section
variable {P : Program} {w : World} {K : PySem.W.Frag} {mg : Str → Option Value} {base : Heap}
abbrev nsMayEnd : List Str := ["blocks", "lines", "at", "found"]
theorem scMayEnd : FnScope nsMayEnd ["blocks", "lines", "at"] (defScope sMayEnd) := ⟨rfl, rfl, rfl, by decide +kernel, rfl, by decide +kernel, by decide +kernel⟩
theorem ok_may_end (t : T K mg) : Ok P w K mg base 3 "may_end" ["blocks", "lines", "at"] spMayEnd := by
  refine mkOk t.d_may_end t.g_may_end scMayEnd (fun vs H Q E h => ?_) (fun _ _ _ _ _ _ us hl => match us, hl with | [_, _, _], _ => rfl) fun cdv A outer s H vs Q E hr h => ?_
  · obtain ⟨b, l, bs, ks, ns, n, y, rfl, _⟩ := h; rfl
  obtain ⟨b, l, bs, ks, ns, n, y, rfl, hB, hL, hC, kl, hy, k⟩ := h
  have hr2 : Room 2 _ := hr.mono (by decide)
  refine ⟨_, pss_cons (ps_set (i := 3) scMayEnd.nd rfl (Or.inl rfl) (pe_ok (ok_parting_places t) hr2 rfl (pa_cons (pv 0) (pa_cons (pv 1) pa_nil))))
    (pss_one (ps_ret (pe_and (pe_chain op_le op_lt pe_int (pv 2) (pe_callB call_len_seq rfl t.f_len boot_len (pa_cons (pv 3) pa_nil))) (pe_one (pe_ix ix_list (pv 3) (pv 2) (fun _ _ => rfl)))))), ?_⟩
  refine ⟨_, rfl, _, rfl, b, l, bs, ks, ns, rfl, hB, hL, hC, kl, fun p H' hp s1 hP => ?_⟩
  have hlt : n < (partL ks ns).length := (List.getElem?_eq_some_iff.mp hy).1
  have d1 : decide ((0 : Int) ≤ (n : Int)) = true := decide_eq_true (by omega)
  have d2 : decide ((n : Int) < ((((partL ks ns).map V.bl).length : Nat) : Int)) = true := decide_eq_true (by rw [List.length_map]; omega)
  refine ⟨_, rfl, _, _, rfl, rfl, _, rfl, ?_⟩
  rw [if_pos d1]
  refine ⟨_, rfl, p, _, rfl, .inl (SqL.of hP), _, _, rfl, rfl, _, rfl, ?_⟩
  rw [if_pos d2]
  exact ⟨_, rfl, _, rfl, p, _, _, .bl y, rfl, rfl, SqL.of hP, atI_nat (by rw [List.getElem?_map, hy]; rfl), k H' s1⟩
abbrev nsLawOwners : List Str := ["counts", "found", "k", "j"]
theorem scLawOwners : FnScope nsLawOwners ["counts"] (defScope sLawOwners) := ⟨rfl, rfl, rfl, by decide +kernel, rfl, by decide +kernel, by decide +kernel⟩
theorem ok_law_owners (t : T K mg) : Ok P w K mg base 1 "_law_owners" ["counts"] spOwners := by
  refine mkOk t.d_law_owners t.g_law_owners scLawOwners (fun vs H Q E h => ?_) (fun _ _ _ _ _ _ us hl => match us, hl with | [_], _ => rfl) fun cdv A outer s H vs Q E hr h => ?_
  · obtain ⟨l, ns, rfl, _⟩ := h; rfl
  obtain ⟨l, ns, rfl, hL, nl, np, k⟩ := h
  refine ⟨_, pss_cons (ps_set (i := 1) scLawOwners.nd rfl (Or.inl rfl) (pe_lst pa_nil))
    (pss_cons (ps_for PassesOwn.never rfl (pi_range1 rfl t.f_range (pa_cons (pe_callB call_len_seq rfl t.f_len boot_len (pa_cons (pv 0) pa_nil)) pa_nil)) (pg_name (i := 2) scLawOwners.nd rfl (Or.inr rfl))
      (pss_one (ps_set (i := 1) scLawOwners.nd rfl (Or.inl rfl) (pe_op op_cat (pv 1) (pe_lc (own := [("j", 3)]) (g := gName 3) (tt := tYes) rfl scLawOwners.nd (pi_range1 rfl t.f_range (pa_cons (pe_ix ix_list (pv 0) (pv 2) (fun _ _ => rfl)) pa_nil)) (blkOk_by (own := [("j", 3)]) (N := nsLawOwners) (sc := defScope sLawOwners) (by decide +kernel)) (fun _ _ _ _ _ => pg_name (i := 3) scLawOwners.nd rfl (Or.inl rfl)) (fun _ _ _ _ _ => pts_nil) (fun _ _ _ _ _ => (pe_tup (pa_cons (pv 2) (pa_cons (pv 3) pa_nil)))))))))
    (pss_one (ps_ret (pv 1)))), ?_⟩
  refine ⟨(by show 0 ≤ sizeLine; decide), fun D hN => ?_⟩
  have total : (own (nN ns) ns.length).length ≤ 6000 := by
    have e1 := own_total ns
    have e2 := sum_le ns np
    omega
  refine ⟨_, rfl, l, _, rfl, .inl (SqL.of (Same.new hN _ _ hL)), _, rfl, by rw [List.length_map]; omega, by rw [List.length_map]; omega, ?_⟩
  rw [List.length_map]
  refine for_range (lo := 0) (n := ((ns.length : Nat) : Int).toNat) (fun i σ' H' => (∃ (p : Addr) (vs : List V) (o2 : Option V), σ' = [some (.ref l), some (.ref p), o2, none] ∧ OwnAt H' p vs (own (nN ns) i)) ∧ Same H H') ⟨⟨D, [], none, rfl, upd_same, rfl, fun (i : Nat) v q h => by simp at h⟩, Same.new hN⟩ ?_ ?_
  · rintro i σ' H' hi ⟨⟨p, vs, o2, rfl, hO⟩, s1⟩
    have il : i < ns.length := by omega
    have hn : ns[i]? = some ns[i] := List.getElem?_eq_getElem il
    have e0 : (0 : Int) + (i : Int) = ((i : Nat) : Int) := by omega
    have eN : nN ns i = ns[i] := by
      unfold nN
      rw [List.getD_eq_getElem?_getD, hn]
      rfl
    have np1 := np _ (List.getElem_mem il)
    rw [e0]
    refine ⟨_, rfl, _, rfl, _, rfl, l, _, _, nv ns[i], rfl, rfl, SqL.of (s1 _ _ hL), atI_nat (by rw [List.getElem?_map, hn]; rfl), _, rfl, by omega, by omega, fun C hCn => ?_⟩
    refine lc_range (lo := 0) (n := ((ns[i] : Nat) : Int).toNat) (fun j H2 => (∃ ys : List V, H2 C = some (.lst ys) ∧ ys.length = j ∧ ∀ (a : Nat) y, ys[a]? = some y → ∃ r, y = .ref r ∧ H2 r = some (.tup [nv i, nv a])) ∧ Same H' H2) ⟨⟨[], upd_same, rfl, fun (a : Nat) y h => by simp at h⟩, Same.new hCn⟩ ?_ ?_
    · rintro j H2 hj ⟨⟨ys, hY, yl, hE⟩, s2⟩
      refine ⟨rfl, ?_⟩
      have e1 : (0 : Int) + (j : Int) = ((j : Nat) : Int) := by omega
      rw [e1]
      refine ⟨_, rfl, _, rfl, (by show 2 ≤ sizeLine; decide), fun r hr => ?_⟩
      have nCr : C ≠ r := ne_of_none hY hr
      refine ⟨ys, by rw [upd_ne nCr]; exact hY, small1 (by omega), ⟨ys ++ [.ref r], upd_same, by rw [List.length_append, yl]; rfl, fun a y ha => ?_⟩, Same.put (Same.put s2 (Sx.Same.none s2 _ hr)) hCn⟩
      rcases get_snoc yl ha with ⟨q1, q2⟩ | ⟨q1, rfl⟩
      · obtain ⟨r', e, hr'⟩ := hE a y q2
        refine ⟨r', e, ?_⟩
        rw [upd_ne (ne_of hr' hY (by intro z; cases z)), upd_ne (ne_of_none hr' hr)]
        exact hr'
      · subst q1
        exact ⟨r, rfl, by rw [upd_ne nCr.symm, upd_same]; rfl⟩
    · rintro H2 ⟨⟨ys, hY, yl, hE⟩, s2⟩
      have hp2 := s2 _ _ hO.at_
      have o1 : (own (nN ns) i).length ≤ 6000 := by
        have := own_le (nN ns) (show i ≤ ns.length by omega)
        omega
      refine ⟨p, C, _, _, rfl, rfl, hp2, hY, ?_, fun p2 hp2' => ?_⟩
      · have := hO.len
        exact Nat.le_trans (show _ ≤ 100000 by omega) (by decide)
      · refine ⟨⟨p2, _, _, rfl, upd_same, ?_, fun a v q ha hb => ?_⟩, Same.put (fun b o e => s2 b o (s1 b o e)) ?_⟩
        · rw [List.length_append, own_succ, List.length_append, hO.len, yl, List.length_map, List.length_range, eN]
          omega
        · rw [own_succ] at hb
          by_cases ai : a < vs.length
          · rw [List.getElem?_append_left ai] at ha
            rw [List.getElem?_append_left (by rw [← hO.len]; exact ai)] at hb
            obtain ⟨r, e, hr⟩ := hO.el a v q ha hb
            exact ⟨r, e, by rw [upd_ne (ne_of_none (s2 _ _ hr) hp2')]; exact s2 _ _ hr⟩
          · rw [List.getElem?_append_right (by omega)] at ha
            rw [List.getElem?_append_right (by rw [← hO.len]; omega), ← hO.len] at hb
            obtain ⟨r, e, hr⟩ := hE _ v ha
            obtain ⟨h1, h2⟩ := List.getElem?_eq_some_iff.mp hb
            rw [List.getElem_map, List.getElem_range] at h2
            subst h2
            exact ⟨r, e, by rw [upd_ne (ne_of_none hr hp2')]; exact hr⟩
        · exact Sx.Same.none (fun b o e => s2 b o (s1 b o e)) _ hp2'
  · rintro σ' H' ⟨⟨p, vs, o2, rfl, hO⟩, s1⟩
    exact ⟨_, rfl, k p vs H' s1 hO⟩
end
end Sx

set_option Elab.async false
set_option linter.all false
set_option maxRecDepth 100000
set_option maxHeartbeats 1000000
namespace Sx
open PySem PySem.Spec PyProof.Rows L2 SxA
theorem nv_eq (a b : Nat) : decide (nv a = nv b) = decide (a = b) := by
  rw [decide_eq_decide]
  constructor
  · intro z
    have := V.int.inj z
    omega
  · intro z; rw [z]
section
variable {P : Program} {w : World} {K : PySem.W.Frag} {mg : Str → Option Value} {base : Heap}
abbrev nsLawMay : List Str := ["blocks", "counts", "at", "owners", "before", "kind"]
theorem scLawMay : FnScope nsLawMay ["blocks", "counts", "at"] (defScope sLawMay) := ⟨rfl, rfl, rfl, by decide +kernel, rfl, by decide +kernel, by decide +kernel⟩
theorem ok_law_may (t : T K mg) : Ok P w K mg base 2 "_law_may" ["blocks", "counts", "at"] spMay := by
  refine mkOk t.d_law_may t.g_law_may scLawMay (fun vs H Q E h => ?_) (fun _ _ _ _ _ _ us hl => match us, hl with | [_, _, _], _ => rfl) fun cdv A outer s H vs Q E hr h => ?_
  · obtain ⟨b, l, bs, ks, ns, n, y, rfl, _⟩ := h; rfl
  obtain ⟨b, l, bs, ks, ns, n, y, rfl, hB, hL, hC, kl, n1, n2, hy, k⟩ := h
  have hr1 : Room 1 _ := hr.mono (by decide)
  refine ⟨_, pss_cons (ps_set (i := 3) scLawMay.nd rfl (Or.inl rfl) (pe_ok (ok_law_owners t) hr1 rfl (pa_cons (pv 1) pa_nil)))
    (pss_cons (ps_set (i := 4) scLawMay.nd rfl (Or.inl rfl) (pe_ix ix_list (pv 3) (pe_op op_sub (pv 2) pe_int) (fun _ _ => rfl)))
    (pss_cons (ps_set (i := 5) scLawMay.nd rfl (Or.inl rfl) (pe_ix ix_tup (pe_ix ix_list (pv 0) (pe_ix ix_tup (pv 4) pe_int (fun _ _ => rfl)) (fun _ _ => rfl)) pe_int (fun _ _ => rfl)))
    (pss_cons (ps_if (PW.pt (pw_or (pt_cmpR op_eq (pv 2) (pe_callB call_len_seq rfl t.f_len boot_len (pa_cons (pv 3) pa_nil)) (nomark _)) (pw_or1 (pt_cmpR op_eq (pv 5) pe_str (nomark _)))))
      (pss_one (ps_ret pe_bl))
      pss_nil)
    (pss_cons (ps_if (pt_cmpR op_eq (pv 5) pe_str (nomark _))
      (pss_one (ps_ret pe_bl))
      pss_nil)
    (pss_cons (ps_if (pt_cmpR op_ne (pe_ix ix_tup (pe_ix ix_list (pv 3) (pv 2) (fun _ _ => rfl)) pe_int (fun _ _ => rfl)) (pe_ix ix_tup (pv 4) pe_int (fun _ _ => rfl)) (nomark _))
      (pss_one (ps_ret pe_bl))
      pss_nil)
    (pss_one (ps_ret (pe_and (pe_cmpR op_ne (pe_ix ix_tup (pe_ix ix_list (pv 3) (pv 2) (fun _ _ => rfl)) pe_int (fun _ _ => rfl)) pe_int (nomark _)) (pe_one (pe_cmpR op_ne (pe_ix ix_tup (pe_ix ix_list (pv 3) (pv 2) (fun _ _ => rfl)) pe_int (fun _ _ => rfl)) (pe_op op_sub (pe_ix ix_list (pv 1) (pe_ix ix_tup (pv 4) pe_int (fun _ _ => rfl)) (fun _ _ => rfl)) pe_int) (nomark _))))))))))), ?_⟩
  have tot := own_total ns
  refine ⟨_, rfl, l, ns, rfl, hL, by have := hC.len; omega, hC.pos, fun p ov H1 s1 hO => ?_⟩
  obtain ⟨⟨kk, j⟩, e1⟩ : ∃ q, (own (nN ns) ns.length)[n - 1]? = some q := ⟨_, List.getElem?_eq_getElem (by omega)⟩
  obtain ⟨k1, j1, i1⟩ := own_inv _ _ _ _ _ e1
  obtain ⟨r, er, hr'⟩ := hO.get e1
  have hB1 := hB.same s1
  have en : (n : Int) - 1 = ((n - 1 : Nat) : Int) := by omega
  have hk : ks[kk]? = some (ks[kk]'(by rw [← hC.len]; exact k1)) := List.getElem?_eq_getElem _
  have hnk : ns[kk]? = some (nN ns kk) := by
    unfold nN
    rw [List.getD_eq_getElem?_getD, List.getElem?_eq_getElem k1]
    rfl
  have hbv : bs[kk]? = some (bs[kk]'(by rw [hB.len, ← hC.len]; exact k1)) := List.getElem?_eq_getElem _
  obtain ⟨q, rest, e2, hq⟩ := hB1.el kk _ _ hbv hk
  rw [e2] at hbv
  have ekd : ks.getD kk "" = ks[kk]'(by rw [← hC.len]; exact k1) := by
    rw [List.getD_eq_getElem?_getD, hk]
    rfl
  have hbrk := hC.brk kk _ _ hk hnk
  revert hbrk
  generalize ks[kk]'(by rw [← hC.len]; exact k1) = kd at hk ekd hq
  intro hbrk
  refine ⟨_, rfl, _, rfl, _, _, rfl, rfl, p, _, _, .ref r, rfl, rfl, SqL.of hO.at_, by rw [en]; exact atI_nat er, ?_⟩
  refine ⟨_, rfl, _, rfl, r, _, _, nv kk, rfl, rfl, SqT.of hr', atI_nat (j := 0) rfl, b, _, _, .ref q, rfl, rfl, SqL.of hB1.at_, atI_nat hbv, q, _, _, .str kd, rfl, rfl, SqT.of hq, atI_nat (j := 0) rfl, ?_⟩
  refine ⟨_, rfl, _, rfl, p, _, rfl, .inl (SqL.of hO.at_), rfl, _, rfl, ?_⟩
  have elen : decide (nv n = V.int (ov.length : Nat)) = decide (n = ns.sum) := by
    rw [hO.len, tot]
    exact nv_eq _ _
  -- what is due
  have due_in : n ≠ ns.sum → y = mpB kd (nN ns kk) (j + 1) := fun h => by
    have q := partL_in e1 (ks := ks) (by omega)
    rw [show n - 1 + 1 = n by omega, hy, ekd] at q
    exact Option.some.inj q
  refine ite2 (fun h1 => ?_) (fun h1 => ?_)
  · refine iteT ?_
    have e : n = ns.sum := by
      have := elen
      exact of_decide_eq_true (this ▸ h1)
    have q := partL_end ks ns
    rw [tot, ← e, hy] at q
    rw [Option.some.inj q] at k
    exact k H1 s1
  have hne : n ≠ ns.sum := fun e => h1 (by
    have := decide_eq_true e
    rw [← elen] at this
    exact this)
  have yy := due_in hne
  refine ⟨_, rfl, rfl, _, rfl, ?_⟩
  refine ite2 (fun h2 => ?_) (fun h2 => ?_)
  · have e : kd = "break" := by simp at h2; exact h2
    have en1 := hbrk e
    have : y = true := by
      rw [yy, e, en1]
      have : j = 0 := by omega
      rw [this]
      decide +kernel
    rw [this] at k
    exact k H1 s1
  refine ⟨_, rfl, rfl, _, rfl, ?_⟩
  refine ite2 (fun h3 => ?_) (fun h3 => ?_)
  · have e : kd = "head" := by simp at h3; exact h3
    have : y = false := by
      rw [yy]
      unfold mpB
      rw [decide_eq_true e]
      rfl
    rw [this] at k
    exact k H1 s1
  have nh : kd ≠ "head" := by simp at h3; exact h3
  have yy2 : y = (decide (j + 1 = nN ns kk) || (decide (1 < j + 1) && decide (j + 1 + 1 < nN ns kk))) := by
    rw [yy]
    unfold mpB
    rw [decide_eq_false nh]
    rfl
  obtain ⟨k', j', e3, c1, c2⟩ := own_next e1 (by omega)
  rw [show n - 1 + 1 = n by omega] at e3
  obtain ⟨r2, er2, hr2⟩ := hO.get e3
  refine ⟨_, rfl, _, rfl, p, _, _, .ref r2, rfl, rfl, SqL.of hO.at_, atI_nat er2, r2, _, _, nv k', rfl, rfl, SqT.of hr2, atI_nat (j := 0) rfl, ?_⟩
  refine ⟨_, rfl, r, _, _, nv kk, rfl, rfl, SqT.of hr', atI_nat (j := 0) rfl, rfl, _, rfl, ?_⟩
  rw [nv_eq]
  by_cases lt : j + 1 < nN ns kk
  · obtain ⟨rfl, rfl⟩ := c1 lt
    rw [decide_eq_true (show k' = k' from rfl)]
    refine iteF ?_
    refine ⟨_, rfl, _, rfl, p, _, _, .ref r2, rfl, rfl, SqL.of hO.at_, atI_nat er2, r2, _, _, nv (j + 1), rfl, rfl, SqT.of hr2, atI_nat (j := 1) rfl, rfl, _, rfl, ?_⟩
    have e5 : decide (nv (j + 1) = V.int 1) = decide (j + 1 = 1) := nv_eq (j + 1) 1
    have ef : decide (j + 1 = nN ns k') = false := decide_eq_false (by omega)
    rw [ef, Bool.false_or] at yy2
    rw [e5]
    by_cases j0 : j + 1 = 1
    · rw [decide_eq_true j0]
      refine iteF ?_
      rw [decide_eq_false (by omega), Bool.false_and] at yy2
      rw [yy2] at k
      exact k H1 s1
    · rw [decide_eq_false j0]
      refine iteT ?_
      refine ⟨_, rfl, _, rfl, p, _, _, .ref r2, rfl, rfl, SqL.of hO.at_, atI_nat er2, r2, _, _, nv (j + 1), rfl, rfl, SqT.of hr2, atI_nat (j := 1) rfl, ?_⟩
      refine ⟨_, rfl, _, rfl, r, _, _, nv k', rfl, rfl, SqT.of hr', atI_nat (j := 0) rfl, l, _, _, nv (nN ns k'), rfl, rfl, SqL.of (s1 _ _ hL), atI_nat (by rw [List.getElem?_map, hnk]; rfl), _, _, rfl, rfl, rfl, ?_⟩
      have e6 : decide (nv (j + 1) = V.int (((nN ns k' : Nat) : Int) - 1)) = decide (j + 1 + 1 = nN ns k') := by
        rw [decide_eq_decide]
        constructor
        · intro z
          have := V.int.inj z
          omega
        · intro z
          show V.int _ = V.int _
          congr 1
          omega
      show Q (.bl (!decide (nv (j + 1) = V.int (((nN ns k' : Nat) : Int) - 1)))) H1
      rw [e6]
      have e7 : (!decide (j + 1 + 1 = nN ns k')) = y := by
        rw [yy2, decide_eq_true (show 1 < j + 1 by omega), Bool.true_and, ← decide_not, decide_eq_decide]
        omega
      rw [e7]
      exact k H1 s1
  · rw [decide_eq_false (c2 lt)]
    refine iteT ?_
    rw [decide_eq_true (show j + 1 = nN ns kk by omega), Bool.true_or] at yy2
    rw [yy2] at k
    exact k H1 s1
def spLaw (K : PySem.W.Frag) : Sp := fun vs H Q _ => ∃ (a : Addr) (ns : List Int), vs = [.ref a] ∧ SqL K H a (ns.map V.int) ∧ ns.length ≤ 63 ∧ ∀ H', Q (.bl true) H'
abbrev nsLaw : List Str := ["script", "draws", "blocks", "counts", "at"]
theorem scLaw : FnScope nsLaw ["script"] (defScope sLaw) := ⟨rfl, rfl, rfl, by decide +kernel, rfl, by decide +kernel, by decide +kernel⟩
theorem sum_nv (ns : List Nat) : (ns.map fun n : Nat => (n : Int)).sum = ((ns.sum : Nat) : Int) := by
  induction ns with
  | nil => rfl
  | cons n r ih => rw [List.map_cons, List.sum_cons, List.sum_cons, ih]; omega
theorem ok_law (t : T K mg) {fd : FuncData} (F : FunD K "law" "law" (defArgs sLaw) (defBody sLaw) (defScope sLaw) [] [] (He.ga K "law") fd) : FnOk P w K mg base CX0 5 (He.ga K "law") fd ["script"] (spLaw K) := by
  refine mkFn F scLaw (fun vs H Q E h => ?_) fun cdv A outer s H vs Q E hr h => ?_
  · obtain ⟨a, ns, rfl, _⟩ := h; rfl
  obtain ⟨sc, zs, rfl, hS, hlen, k⟩ := h
  have hr1 : Room 1 _ := hr.mono (by decide)
  have hr2 : Room 2 _ := hr.mono (by decide)
  have hr3 : Room 3 _ := hr.mono (by decide)
  have hr4 : Room 4 _ := hr.mono (by decide)
  refine ⟨_, pss_cons (ps_set (i := 1) scLaw.nd rfl (Or.inl rfl) (pe_ok (ok_law_draws t) hr1 rfl (pa_cons (pv 0) pa_nil)))
    (pss_cons (ps_set (i := 2) scLaw.nd rfl (Or.inl rfl) (pe_ok (ok_law_blocks t) hr4 rfl (pa_cons (pv 1) (pa_cons pe_int (pa_cons pe_int (pa_cons pe_int pa_nil))))))
    (pss_cons (ps_set (i := 3) scLaw.nd rfl (Or.inl rfl) (pe_ok (ok_law_counts t) hr2 rfl (pa_cons (pv 1) (pa_cons (pv 2) pa_nil))))
    (pss_cons (ps_for PassesOwn.never rfl (pi_range2 rfl t.f_range (pa_cons pe_int (pa_cons (pe_op op_add (pe_callB (cr_sum rfl) rfl t.f_sum (by decide +kernel) (pa_cons (pv 3) pa_nil)) pe_int) pa_nil))) (pg_name (i := 4) scLaw.nd rfl (Or.inl rfl))
      (pss_one (ps_if (pt_not (pt_val (pe_ok (ok_law_same t) hr1 rfl (pa_cons (pe_ok (ok_may_end t) hr3 rfl (pa_cons (pe_callTy call_list_of rfl t.f_list (by decide +kernel) (pa_cons (pv 2) pa_nil)) (pa_cons (pe_callTy call_list_of rfl t.f_list (by decide +kernel) (pa_cons (pv 3) pa_nil)) (pa_cons (pv 4) pa_nil)))) (pa_cons (pe_ok (ok_law_may t) hr2 rfl (pa_cons (pv 2) (pa_cons (pv 3) (pa_cons (pv 4) pa_nil)))) pa_nil)))))
      (pss_one (ps_ret pe_bl))
      pss_nil)))
    (pss_one (ps_ret pe_bl))))), ?_⟩
  refine ⟨_, rfl, sc, zs, rfl, hS, hlen, fun a H1 ha s1 D1 => ?_⟩
  refine ⟨_, rfl, a, 1, 6, 3, rfl, D1, by decide, by decide, by decide, by decide, by decide, fun b bs ks H2 hb0 hB2 _ kl D2 B2 => ?_⟩
  have nba : b ≠ a := fun e => D1.ne hb0 e.symm
  refine ⟨_, rfl, _, rfl, a, b, bs, ks, rfl, D2, hB2, nba, by omega, fun l ns H3 hl0 hL3 hC D3 B3 => ?_⟩
  have hB3 := hB2.but B3 nba D2
  have tot := own_total ns
  have sle := sum_le ns hC.pos
  have cl := hC.len
  have eL : (ns.map nv) = (ns.map fun n : Nat => (n : Int)).map V.int := by rw [List.map_map]; rfl
  refine ⟨_, rfl, l, _, rfl, SqL.of (hL3.trans (by rw [eL])), _, _, rfl, rfl, _, _, rfl, ⟨by decide, by decide, ?_, ?_⟩, ?_⟩
  · rw [sum_nv]; omega
  · rw [sum_nv]; omega
  rw [sum_nv]
  refine for_range (lo := 1) (n := (((ns.sum : Nat) : Int) + 1 - 1).toNat) (fun i σ' H' => (∃ o4 : Option V, σ' = [some (.ref sc), some (.ref a), some (.ref b), some (.ref l), o4]) ∧ Same H3 H') ⟨⟨_, rfl⟩, Same.refl _⟩ ?_ ?_
  · rintro i σ' H' hi ⟨⟨o4, rfl⟩, s3⟩
    have e0 : (1 : Int) + (i : Int) = ((i + 1 : Nat) : Int) := by omega
    rw [e0]
    obtain ⟨y, hy⟩ : ∃ y, (partL ks ns)[i + 1]? = some y := by
      refine ⟨_, List.getElem?_eq_getElem ?_⟩
      unfold partL
      rw [List.length_set, List.length_cons, flatB_len, tot]
      omega
    have hB4 := hB3.same s3
    have hL4 := s3 _ _ hL3
    refine ⟨_, rfl, b, bs, rfl, .inl (SqL.of hB4.at_), fun b' hb' => ?_⟩
    refine ⟨_, rfl, l, ns.map nv, rfl, .inl (SqL.of (Same.new hb' _ _ hL4)), fun l' hl' => ?_⟩
    refine ⟨_, rfl, b', l', bs, ks, ns, i + 1, y, rfl, ⟨?_, hB4.len, fun j v kd q1 q2 => ?_⟩, upd_same, hC, by omega, hy, fun H5 s5 => ?_⟩
    · rw [upd_ne (ne_of_none upd_same hl'), upd_same]
    · obtain ⟨q, rest, e, hq⟩ := hB4.el j v kd q1 q2
      exact ⟨q, rest, e, Same.put (Same.new hb') (Sx.Same.none (Same.new hb') _ hl') _ _ hq⟩
    · have s35 : Same H' H5 := fun c o e => s5 _ _ (Same.put (Same.new hb') (Sx.Same.none (Same.new hb') _ hl') _ _ e)
      refine ⟨_, rfl, _, rfl, _, rfl, b, l, bs, ks, ns, i + 1, y, rfl, hB4.same s35, s35 _ _ hL4, hC, by omega, by omega, by omega, hy, fun H6 s6 => ?_⟩
      refine ⟨y, y, rfl, _, rfl, ?_⟩
      rw [decide_eq_true rfl]
      exact iteF ⟨⟨_, rfl⟩, fun c o e => s6 _ _ (s35 _ _ (s3 _ _ e))⟩
  · rintro σ' H' ⟨⟨o4, rfl⟩, s3⟩
    exact k H'
end
end Sx

set_option Elab.async false
set_option linter.all false
set_option maxRecDepth 100000
set_option maxHeartbeats 0
namespace Sx
open PySem PySem.Spec PyProof.Rows L2 SxA
theorem facts {P : Program} {w : World} {K : PySem.W.Frag} {h : Heap} {mg : Str → Option Value} {f : Addr} (X : K.In h) (G : h.Ns mainGlobals mg) (hfa : mg ("law" : Str) = some (.ref f)) (c : He.SaysD fa fn K) :
    ∃ fd : FuncData, (∀ (s : Shared) (v : Value), BindsTo s fd ⟨[v], []⟩ [("script", v)]) ∧ ∀ base : Heap, K.In base → base.Ns mainGlobals mg → FnOk P w K mg base CX0 5 f fd ["script"] (spLaw K) := by
  have t : T K mg := ⟨c, h, X, G⟩
  obtain ⟨fd, F⟩ := t.d_law
  have e := hfa.symm.trans t.g_law
  cases e
  have b := FunD.bindsA (ps := ["script"]) F fun _ _ _ _ _ _ us hl => match us, hl with | [_], _ => rfl
  exact ⟨fd, fun s v => b s [v] rfl, fun base _ _ => ok_law t F⟩
end Sx
open PySem PySem.W PySem.Calls PyProof.Rows
set_option maxRecDepth 100000 in
set_option maxHeartbeats 0 in
theorem PySem.Challenge.cw_sixdot_k31_where_pages_may_end_holds : PySem.Challenge.rw_sixdot_k31_where_pages_may_end.Holds := by
  w_on; o_law
  refine HandSHeadRun.head_any (r := OpenLaw.row PySem.Challenge.rw_sixdot_k31_where_pages_may_end) (q := view (OpenLaw.row PySem.Challenge.rw_sixdot_k31_where_pages_may_end).prog [14]) (H := Sx.hk) (ob := Sx.ob) (M := 4000) (loose := Sx.loose) (d := HandSHeadRun.topDef (OpenLaw.row PySem.Challenge.rw_sixdot_k31_where_pages_may_end).prog 14) (kwd := []) Sx.ob_eq
    (by kernel_rfl) (fun s => by kernel_rfl) Sx.run (by kernel_rfl) (by kernel_rfl) (by kernel_rfl) (by rfl) (by first | assumption | decide +kernel) (by decide +kernel) ⟨rfl, rfl, rfl, rfl, rfl, by decide +kernel⟩ ?hw ?hc
  case hw => w_witness2
  case hc =>
    refine L2.walk_ofE (l := PySem.Challenge.rw_sixdot_k31_where_pages_may_end) (n := 63) (k := 5) (x := "script") (CX := L2.CX0) rfl (by decide) (by kernel_rfl) ⟨rfl, by decide, by decide⟩ ?F (fun _ _ _ _ z => z)
    intro w mg fa h Y G hmg0
    obtain ⟨K, KX, c⟩ := Y
    have hmg : mg ("law" : PySem.Str) = some (.ref fa) := by
      have e : (HandSHeadRun.topDef (OpenLaw.row PySem.Challenge.rw_sixdot_k31_where_pages_may_end).prog 14).name = ("law" : PySem.Str) := by kernel_rfl
      rw [← e]
      exact hmg0
    obtain ⟨fd, hb, hF⟩ := Sx.facts (P := (PySem.Challenge.rw_sixdot_k31_where_pages_may_end).prog) (w := w) KX G hmg c
    exact ⟨K, fd, Sx.spLaw K, KX, hb, fun H a ns hl _ hS => ⟨a, ns, rfl, hS, hl, fun _ => rfl⟩, hF⟩
