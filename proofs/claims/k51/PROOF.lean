import PyProof.Rows.All
import Wide.All
import OpenK.AllK
import Wide.FinOn
import PyProof.Rows.SetFrom
import PyProof.StrWalks
import KE.KRevIter
import HandS.ForMost
import HandS.Rev
import HandS.RevTup
import HandS.Style
import HandS.Flow
import HandS.WideBits
import HandS.Codes
import HandS.IsInst
import HandS.Head0
import HandS.Head1
import HandS.Head2
import HandS.HeadEnd
import HandS.HeadHook1
import HandS.HeadHook2
import HandS.Defaults
import HandS.MakeKwOnly
import KE.KStateDown
import HandS.ForDict
import HandS.More
import HandS.Zip
import HandS.RevRange
import PyProof.Draws
import KE.KExcSuper
import HandS.Exc
import HandS.ExcInit
import HandS.ExcField
import HandS.ExcOwn
import HandS.FStr
import HandS.Text
import PyProof.JoinWalk
import HandS.StrMore
import HandS.Call
import HandS.Conv
import HandS.Walk
import KE.SortData
import PySem.Challenge.RW_sixdot_k51_missing_sheets_of_a_heap
set_option Elab.async false
set_option linter.all false
set_option maxRecDepth 100000
set_option maxHeartbeats 4000000
/-! rules that the layer lacks: len(set(text)), text * int, list(reversed(list)) -/
namespace SxA
open PySem PySem.Spec PyProof.Rows L2

/-! ### the different signs of a text, in the order in which they come -/
def stepD (acc : List Nat) (c : Nat) : List Nat := if c ∈ acc then acc else acc ++ [c]
def firsts (l : List Nat) : List Nat := l.foldl stepD []
theorem firsts_snoc (l : List Nat) (c : Nat) : firsts (l ++ [c]) = stepD (firsts l) c := by
  unfold firsts; rw [List.foldl_append]; rfl
theorem mem_step (acc : List Nat) (c k : Nat) : k ∈ stepD acc c ↔ k ∈ acc ∨ k = c := by
  unfold stepD
  by_cases h : c ∈ acc
  · rw [if_pos h]
    exact ⟨Or.inl, fun q => q.elim id fun e => by rw [e]; exact h⟩
  · rw [if_neg h, List.mem_append, List.mem_singleton]
theorem mem_fold : ∀ (l acc : List Nat) (k : Nat), k ∈ l.foldl stepD acc ↔ k ∈ acc ∨ k ∈ l
  | [], acc, k => by simp
  | c :: l, acc, k => by
    rw [List.foldl_cons, mem_fold l, mem_step, List.mem_cons]
    constructor
    · rintro ((h | h) | h)
      · exact .inl h
      · exact .inr (.inl h)
      · exact .inr (.inr h)
    · rintro (h | h | h)
      · exact .inl (.inl h)
      · exact .inl (.inr h)
      · exact .inr h
theorem mem_firsts (l : List Nat) (k : Nat) : k ∈ firsts l ↔ k ∈ l := by
  unfold firsts; rw [mem_fold]; simp
theorem firsts_take {l : List Nat} {i c : Nat} (h : l[i]? = some c) : firsts (l.take (i + 1)) = stepD (firsts (l.take i)) c := by
  rw [List.take_add_one, h]; exact firsts_snoc _ _
theorem firsts_count : ∀ (l : List Nat) (i : Nat), i ≤ l.length → (firsts (l.take i)).length ≤ i ∧ ((firsts (l.take i)).length = i ↔ (l.take i).Nodup)
  | l, 0, _ => by simp [firsts]
  | l, i + 1, hi => by
    have hc : l[i]? = some l[i] := List.getElem?_eq_getElem hi
    obtain ⟨a, b⟩ := firsts_count l i (by omega)
    rw [firsts_take hc]
    have et : l.take (i + 1) = l.take i ++ [l[i]] := by rw [List.take_add_one, hc]; rfl
    unfold stepD
    by_cases hm : l[i] ∈ firsts (l.take i)
    · rw [if_pos hm]
      refine ⟨by omega, fun q => by omega, fun nd => ?_⟩
      rw [et, List.nodup_append] at nd
      exact absurd rfl (nd.2.2 _ ((mem_firsts _ _).mp hm) _ (List.mem_singleton.mpr rfl))
    · rw [if_neg hm, List.length_append, List.length_singleton]
      refine ⟨by omega, ?_⟩
      rw [et, List.nodup_append]
      constructor
      · intro q
        refine ⟨b.mp (by omega), by simp, fun x hx y hy e => hm ?_⟩
        rw [List.mem_singleton] at hy
        rw [← hy, ← e]
        exact (mem_firsts _ _).mpr hx
      · intro q
        have := b.mpr q.1
        omega
/-- len(set(text)) -/
def kinds (z : Str) : Nat := (firsts z.cps.toList).length
theorem kinds_eq (z : Str) : kinds z = z.length ↔ z.cps.toList.Nodup := by
  have h := firsts_count z.cps.toList z.cps.toList.length (Nat.le_refl _)
  rw [List.take_length] at h
  have e : z.length = z.cps.toList.length := by simp [Str.length]
  unfold kinds
  rw [e]
  exact h.2
theorem kinds_le (z : Str) : kinds z ≤ z.length := by
  have h := firsts_count z.cps.toList z.cps.toList.length (Nat.le_refl _)
  rw [List.take_length] at h
  have e : z.length = z.cps.toList.length := by simp [Str.length]
  unfold kinds
  rw [e]
  exact h.1

/-! ### set(text) on the machine -/
abbrev sg (c : Nat) : Str := ⟨#[c]⟩
theorem sg_inj {a b : Nat} (h : sg a = sg b) : a = b := by
  have e : (#[a] : Array Nat) = #[b] := congrArg Str.cps h
  simpa using e
def hasD (l : List Nat) (k : Str) : Bool := l.any fun c => decide (k = sg c)
theorem hasD_sg (l : List Nat) (c : Nat) : hasD l (sg c) = decide (c ∈ l) := by
  unfold hasD
  by_cases h : c ∈ l
  · rw [decide_eq_true h]
    exact List.any_eq_true.mpr ⟨c, h, decide_eq_true rfl⟩
  · rw [decide_eq_false h]
    refine Bool.eq_false_iff.mpr fun q => ?_
    obtain ⟨d, hd, e⟩ := List.any_eq_true.mp q
    rw [sg_inj (of_decide_eq_true e)] at h
    exact h hd
theorem hasD_step (l : List Nat) (c : Nat) (k : Str) : hasD (stepD l c) k = (hasD l k || decide (k = sg c)) := by
  unfold stepD
  by_cases h : c ∈ l
  · rw [if_pos h]
    by_cases e : k = sg c
    · rw [e, hasD_sg, decide_eq_true h]
      rfl
    · rw [decide_eq_false e, Bool.or_false]
  · rw [if_neg h]
    unfold hasD
    rw [List.any_append]
    simp
theorem len_step (l : List Nat) (c : Nat) : (stepD l c).length = if hasD l (sg c) = true then l.length else l.length + 1 := by
  rw [hasD_sg]
  unfold stepD
  by_cases h : c ∈ l
  · rw [if_pos h, if_pos (decide_eq_true h)]
  · rw [if_neg h, if_neg (by rw [decide_eq_false h]; exact Bool.false_ne_true), List.length_append, List.length_singleton]
section
variable {prog : Program} {w : World} {A : Around} {E : Value → Shared → Prop}
/-- the set at S holds the signs l -/
def SetS (prog : Program) (w : World) (h : Heap) (S : Addr) (l : List Nat) : Prop := h.SetOf (strKind prog w) S (hasD l) l.length
theorem SetS.keep {h h' : Heap} {S : Addr} {l : List Nat} (p : SetS prog w h S l) (k : ∀ o, h.get? S = some o → h'.get? S = some o) : SetS prog w h' S l := by
  obtain ⟨o, es, ep, t, ho, r⟩ := p
  exact ⟨o, es, ep, t, k o ho, r⟩
theorem loopS {R : Result → Shared → Prop} {I : Addr} {fp wr : List Addr} {G : Array GenState → Array GenState → Prop} {x : Str} {St : Nat → Shared → Prop}
    (W : WalksS prog w A.in1 I fp wr G x.cps.size (SignAt x) St) (S : Addr) (away : S ∉ fp) (small : x.cps.size + 1 < scanBound) : ∀ (k i : Nat) (s : Shared), x.cps.size - i = k → i ≤ x.cps.size → St i s →
      SetS prog w s.heap S (firsts (x.cps.toList.take i)) → (∀ s', Moved (S :: wr) G s s' → SetS prog w s'.heap S (firsts x.cps.toList) → R (.ok (.ret .none)) s') →
      codeAny (model prog w) A (.builtin "set.update.loop" ⟨[.ref S, .ref I], []⟩) R s := by
  have awr : S ∉ wr := fun q => away (W.sub _ q)
  have more : ∀ b ∈ wr, b ∈ S :: wr := fun b hb => .tail _ hb
  intro k
  induction k with
  | zero =>
    intro i s hk hi st hS done
    obtain rfl : i = x.cps.size := by omega
    refine codeAny_builtin F.entry_set_update_loop ?_
    rw [Around.under_plainId F.plain_set_update_loop _]
    show wpAny _ A.in1 (pyNext (.ref I) >>= _) _ _ s
    refine wpAny_bind (W.done s _ _ st fun s' mv => ?_)
    show wpAny _ A.in1 (ret Value.none) _ _ s'
    have e : x.cps.toList.take x.cps.size = x.cps.toList := List.take_of_length_le (by simp)
    rw [e] at hS
    exact wpAny_pure (done s' (mv.mono more) (hS.keep fun o q => mv.heap S o awr q))
  | succ k ih =>
    intro i s hk hi st hS done
    have lt : i < x.cps.size := by omega
    refine codeAny_builtin F.entry_set_update_loop ?_
    rw [Around.under_plainId F.plain_set_update_loop _]
    show wpAny _ A.in1 (pyNext (.ref I) >>= _) _ _ s
    refine wpAny_bind (W.item i s _ _ lt st fun v s' hv st' mv => ?_)
    obtain ⟨c, u, hc, rfl⟩ := hv
    have hS' := hS.keep (h' := s'.heap) fun o q => mv.heap S o awr q
    show wpAny _ A.in1 (holding [Value.str (sg c) u] (setAdd S (.str (sg c) u)) >>= _) _ _ s'
    refine wpAny_bind (wpAny_holding ?_)
    unfold setAdd
    refine wpAny_holding ?_
    refine wpAny_bind ((strKind prog w).pyHash (k := sg c) (strKind_is _ _ _ _) ?_)
    have cnt := (firsts_count x.cps.toList i (by simp; omega)).1
    refine wpAny_setAddHashed_of (knd := strKind prog w) (s := { s' with toks := s'.toks + 1 }) (strKind_is _ _ _ _) rfl hS' (by omega) fun h' sb hS2 => ?_
    have hc2 : x.cps.toList[i]? = some c := by rw [Array.getElem?_toList]; exact hc
    have hS3 : SetS prog w h' S (firsts (x.cps.toList.take (i + 1))) := by
      rw [firsts_take hc2]
      exact SetOf_congr hS2 (fun k => (hasD_step _ c k).symm) (len_step _ c).symm
    refine wpAny_pure ⟨plainId_quiet F.plain_set_update_loop _, ih (i + 1) _ (by omega) lt (W.frame _ s' _ _ st' (Nat.le_succ _) fun b hb o e => ?_) hS3 fun s'' mv' hS'' => done s'' (Moved.trans W.gtrans ((mv.mono more).then_heap (Nat.le_succ _) fun b o hb e => ?_) mv') hS''⟩
    · rw [sb.2 b fun q : b = S => away (by rw [← q]; exact hb)]; exact e
    · rw [sb.2 b fun q : b = S => hb (by rw [q]; exact .head _)]; exact e
variable {s : Shared}
theorem sub_str_set : isSubtype (.type "str") (.type "set") = pure false := by rw [isSubtype_type]; kernel_rfl
theorem sub_str_frozenset : isSubtype (.type "str") (.type "frozenset") = pure false := by rw [isSubtype_type]; kernel_rfl
theorem call_set_text {x : Str} {tx : Tok} {Q : Value → Shared → Prop} (hh : A.handled = none) (small : x.cps.size + 1 < scanBound)
    (h : ∀ (h' : Heap) (tk : Nat), SetS prog w h' s.heap.objs.size (firsts x.cps.toList) → (∀ b o, b < s.heap.objs.size → s.heap.get? b = some o → h'.get? b = some o) → Q (.ref s.heap.objs.size) { s with heap := h', toks := tk }) :
    wpAny (model prog w) A (call (.type "set") [.str x tx]) Q E s := by
  obtain ⟨c, tl, hmro⟩ := F.called_set.mro
  have hmade := F.called_set.made
  have hsub := F.called_set.sub
  refine wpAny_call (codeAny_of_tree ?_)
  show wpAny _ _ (callAny (.type "set") _) _ _ _
  refine wpAny_pure ⟨Code.quiet_builtin _ (by decide +kernel), codeAny_builtin F.entry_type_call ?_⟩
  rw [Around.under_plain (weight_type_call_type "set" [.str x tx] []) rfl]
  have h1 := F.called_set.notType
  have h2 := F.called_set.canCreate
  have hct := PySem.F.typeCall_set_1 (.str x tx)
  repeat (any_goals (first | assumption | wp_step))
  refine codeAny_mono (code_set_new_1 (.str x tx) (E := E) (Q₁ := fun v s₁ => ∃ led : Bool, v = .ref s.heap.objs.size ∧ s₁ = { s with heap := s.heap.push { cls := .type "set", dict := none, data := .set #[] 0 (.fresh 0 0 led) } }) fun led => ⟨led, rfl, rfl⟩) fun r s₁ hr => ?_
  cases r with
  | error e => exact hr
  | ok fl =>
    cases fl with
    | ret v =>
      obtain ⟨led, rfl, rfl⟩ := hr
      have hS : (s.heap.push { cls := .type "set", dict := none, data := .set #[] 0 (.fresh 0 0 led) }).get? s.heap.objs.size = some { cls := .type "set", dict := none, data := .set #[] 0 (.fresh 0 0 led) } := Heap.get?_push_size _ rfl
      have hT : Shared.TypeIs { s with heap := s.heap.push { cls := .type "set", dict := none, data := .set #[] 0 (.fresh 0 0 led) } } (.ref s.heap.objs.size) "set" := ⟨_, hS, rfl⟩
      have hli := F.called_set.init.lookup
      have hbi := F.called_set.init.bind (.ref s.heap.objs.size)
      repeat (any_goals (first | assumption | wp_step))
      refine codeAny_mono (codeAny_call_builtin (R := wants (fun r s₂ => r = .none ∧ ∃ h' tk, s₂ = { s with heap := h', toks := tk } ∧ SetS prog w h' s.heap.objs.size (firsts x.cps.toList) ∧
          (∀ b o, b < s.heap.objs.size → s.heap.get? b = some o → h'.get? b = some o)) E) F.called_set.init.plain F.entry_set_init (check_set_init_1 hT ?_)) fun r₂ s₂ hr₂ => ?_
      · have hsls := sub_str_set
        have hslf := sub_str_frozenset
        have hne : (Value.type "str" == Value.type "dict") = false := by decide
        unfold Builtin.«set.__init__» noKeywords Builtin.Frozenset.updateFrom
        generalize hPI : pyIter = PI
        wp_walk
        subst hPI
        refine wpAny_pyIter_str fun o St W st => ?_
        refine wpAny_bind (wpAny_runValue ?_)
        have hh3 : A.in1.in1.in1.handled = none := by simp [hh]
        have away : s.heap.objs.size ∉ [(s.heap.push { cls := .type "set", dict := none, data := .set #[] 0 (.fresh 0 0 led) }).objs.size] := by
          rw [Heap.size_push, List.mem_singleton]
          exact Nat.ne_of_lt (Nat.lt_succ_self _)
        refine loopS ((W _ hh3).toS) s.heap.objs.size away small (x.cps.size - 0) 0 _ (by omega) (Nat.zero_le _) st ?hS0 ?hR
        case hS0 =>
          exact SetOf_congr ((PyProof.Rows.setObjOf_fresh (knd := strKind prog w) led).setOf (Heap.get?_push_of_some _ hS) (by unfold scanBound; omega)) (fun _ => rfl) rfl
        case hR =>
          intro s' mv hS'
          obtain ⟨h', g', d', tk', os'⟩ := s'
          have eg : g' = s.gens := mv.gens
          have ed : d' = s.drawn := mv.drawn
          have eo : os' = s.os := mv.os
          subst eg; subst ed; subst eo
          show wpAny _ _ _ _ _ _
          refine wpAny_pure ?_
          show wpAny _ _ (ret Value.none) _ _ _
          refine wpAny_pure ⟨rfl, h', tk', rfl, hS', fun b o hb e => ?_⟩
          have n1 : b ≠ s.heap.objs.size := Nat.ne_of_lt hb
          have n2 : b ≠ (s.heap.push { cls := .type "set", dict := none, data := .set #[] 0 (.fresh 0 0 led) }).objs.size := by
            rw [Heap.size_push]; exact Nat.ne_of_lt (Nat.lt_succ_of_lt hb)
          exact mv.heap b o (by simp only [List.mem_cons, List.mem_singleton, List.not_mem_nil, or_false, not_or]; exact ⟨n1, n2⟩) (Heap.get?_push_of_some _ (Heap.get?_push_of_some _ e))
      · cases r₂ with
        | error e => exact hr₂
        | ok fl₂ =>
          cases fl₂ with
          | ret r =>
            obtain ⟨rfl, h', tk, rfl, hS', hk'⟩ := hr₂
            repeat (any_goals (first | assumption | wp_step))
            exact h _ _ hS' hk'
          | _ => exact hr₂.elim
    | _ => exact hr.elim
end
/-! ### the rules -/
/-- len(set(text)) -/
def tKinds (ta : TE) : TE := fun σ H Q => ta σ H fun v H1 => ∃ z : Str, v = .str z ∧ z.length ≤ 4000 ∧ Q (.int (kinds z : Nat)) H1
theorem pe_kinds {X : Cx} {a : Expr} {ta : TE} {p p2 q pos : Pos} (hg : Gl X "len") (hm : X.mg "len" = none) (hg2 : Gl X "set") (hm2 : X.mg "set" = none) (ha : PE X a ta) (hc : X.calm = true := by rfl)
    (na : starEach [a] X.env = (false, eval a X.env) :: starEach [] X.env := by rfl) : PE X (.Call (.Name "len" p) [.Call (.Name "set" p2) [a] [] q] [] pos) (tKinds ta) := by
  constructor
  intro pins s σ H Q I h
  refine Call_ (ld_blt I hg hm boot_len (PyProof.Rows.callWith_builtin1 (PyProof.Rows.args_cons (Call_ (ld_blt I hg2 hm2 boot_set ?_)) rfl) rfl rfl))
  refine PyProof.Rows.callWith_type1 (PyProof.Rows.args_cons (thn (ha.run pins s σ H _ I h) fun v s1 ⟨y, H1, I1, r1, q1⟩ => PyProof.Rows.args_nil ?_) na) na rfl
  obtain ⟨z, rfl, hl, q1⟩ := q1
  obtain ⟨t, rfl⟩ := r1
  have hs : z.cps.size = z.length := rfl
  refine call_set_text (I1.ok.hd hc) (by rw [hs]; unfold scanBound; omega) fun h' tk hS hk => PyProof.Rows.args_nil ?_
  have kl := kinds_le z
  obtain ⟨o, es, ep, t2, ho, hex, hd, _, _, _, hf, hn⟩ := hS
  have hn2 : es.size = kinds z := hn
  have I2 : Inv X pins σ H1 { s1 with heap := h', toks := tk } := I1.kept fun b o e => hk b o (Heap.lt_size e) e
  exact call_len_set ho hex hd hf (by rw [hn2]; omega) ⟨.int (kinds z : Nat), H1, I2.tok _, ⟨_, by rw [hn2]⟩, q1⟩
/-- text * n -/
def rMulS : R2 := fun x y H Q => ∃ (z : Str) (n : Int), x = .str z ∧ y = .int n ∧ MulOk z n ∧ Q (.str (Txt.mul z n)) H
theorem op_mulS {X : Cx} : OpR X (binaryOp .Mult) rMulS := by
  intro pins s σ H x y v u Q I rx ry h
  obtain ⟨z, n, rfl, rfl, hz, q⟩ := h
  obtain ⟨t, rfl⟩ := rx
  obtain ⟨t', rfl⟩ := ry
  exact SB.mul hz fun t2 tk => ⟨.str (Txt.mul z n), H, I.tok _, ⟨_, rfl⟩, q⟩
end SxA

set_option Elab.async false
set_option linter.all false
set_option maxRecDepth 100000
set_option maxHeartbeats 4000000
namespace SxA
open PySem PySem.Spec PyProof.Rows L2
section
variable {prog : Program} {w : World} {A : Around} {E : Value → Shared → Prop} {s : Shared}
/-- list(it), it what reversed(a list) gave -/
theorem call_list_rev {it l : Addr} {items : Array Value} {Q : Value → Shared → Prop} (hh : A.handled = none) (hit : s.heap.IsRevIter it l ((items.size : Int) - 1)) (hl : s.heap.IsList l items) (hne : l ≠ it) (hn : items.size ≤ sizeLine)
    (hQ : ∀ (h' : Heap) (tk : Nat) (acc : Array Value) (c : Nat), (∀ b o, b ≠ it → s.heap.get? b = some o → h'.get? b = some o) → h'.get? s.heap.objs.size = some { cls := .type "list", dict := none, data := .seq acc c, slots := #[] } →
      ItemsOf (fun i v => items[items.size - 1 - i]? = some v) acc items.size → Q (.ref s.heap.objs.size) { s with heap := h', toks := tk }) :
    wpAny (model prog w) A (call (.type "list") [.ref it]) Q E s := by
  obtain ⟨oi, hoi, _⟩ := id hit
  obtain ⟨ol, hol, _⟩ := id hl
  have ni : s.heap.objs.size ≠ it := Nat.ne_of_gt (Heap.lt_size hoi)
  have nl : s.heap.objs.size ≠ l := Nat.ne_of_gt (Heap.lt_size hol)
  have away : s.heap.objs.size ∉ [it, l] := by
    simp only [List.mem_cons, List.not_mem_nil, or_false, not_or]
    exact ⟨ni, nl⟩
  refine callType_codes (Q₁ := fun v s₁ => v = .ref s.heap.objs.size ∧ s₁ = { s with heap := s.heap.push { cls := .type "list", data := .seq #[] } }) F.called_list (F.typeCall_list_1 _) F.entry_list_init (code_list_new _ ⟨rfl, rfl⟩) fun v s₁ h₁ => ?_
  obtain ⟨rfl, rfl⟩ := h₁
  have hS : (s.heap.push { cls := .type "list", data := .seq #[] }).get? s.heap.objs.size = some { cls := .type "list", data := .seq #[] } := Heap.get?_push_size _ rfl
  refine ⟨⟨_, hS, rfl⟩, F.args_list_init_2 _ _, ?_⟩
  show wpAny _ _ (do let old ← Builtin.List.listItems (.ref s.heap.objs.size); Builtin.List.listUpdate (.ref s.heap.objs.size) (fun _ => #[]); letGo old.toList.reverse; Builtin.List.listExtendWith (.ref s.heap.objs.size) (.ref it) .none) _ _ _
  refine wpAny_bind ?_
  unfold Builtin.List.listItems
  refine wpAny_bind (wpAny_seqItems hS rfl (wpAny_pure ?_))
  show wpAny _ _ (updateSeq s.heap.objs.size (fun _ => #[]) >>= fun _ => letGo (#[] : Array Value).toList.reverse >>= fun _ => Builtin.List.listExtendWith (.ref s.heap.objs.size) (.ref it) .none) _ _ _
  refine wpAny_bind (wpAny_updateSeq hS rfl ?_)
  have hS₂ := Heap.get?_update_self (Obj.mapSeq (fun _ => (#[] : Array Value))) hS rfl
  have oth : ∀ b o, b ≠ s.heap.objs.size → s.heap.get? b = some o → ((s.heap.push { cls := .type "list", data := .seq #[] }).update s.heap.objs.size (Obj.mapSeq (fun _ => (#[] : Array Value)))).get? b = some o :=
    fun b o hb e => (Heap.get?_update_other _ _ (Ne.symm hb)).trans (Heap.get?_push_of_some _ e)
  refine wpAny_bind (wpAny_letGo ?_)
  generalize hgh : (s.heap.push { cls := .type "list", data := .seq #[] }).update s.heap.objs.size (Obj.mapSeq (fun _ => (#[] : Array Value))) = g at hS₂ oth
  have hit1 : g.IsRevIter it l ((items.size : Int) - 1) := hit.at fun o e => oth _ _ ni.symm e
  have hl1 : g.IsList l items := hl.at fun o e => oth _ _ nl.symm e
  have hT : ({ s with heap := g } : Shared).TypeIs (.ref it) "list_reverseiterator" := Heap.IsRevIter.typeIs (s := { s with heap := g }) hit1
  have h1 : Builtin.List.listSameRef (.ref s.heap.objs.size) (.ref it) = false := by simp [Builtin.List.listSameRef, ni]
  have hh2 : A.in1.in1.handled = none := by simp [hh]
  have W := (Walks.listRev (prog := prog) (w := w) (A := A.in1.in1) hh2 it l hne items).toS
  unfold Builtin.List.listExtendWith
  refine wpAny_bind (wpAny_typeOf hT ?_)
  rw [if_neg (by rw [h1]; decide)]
  refine wpAny_bind (wpAny_pyIter_revIter (s := { s with heap := g }) hit1 (wpAny_bind (wpAny_holding ?_)))
  unfold Builtin.List.listLengthHint
  refine wpAny_bind (wpAny_specialOf hT RT.nolen_lri ?_)
  show wpAny _ _ (specialOf (Value.ref it) (Str.ofString "__length_hint__") >>= _) _ _ _
  refine wpAny_bind (wpAny_specialOf hT RT.hint_lri ?_)
  generalize hid : ("list_reverseiterator.__length_hint__" : String) = nm
  wp_delta
  rw [show splitId nm = some ("list_reverseiterator", "__length_hint__") from by subst hid; decide +kernel]
  subst hid
  refine wpAny_bind (wpAny_isInstance (b := true) hT (by rw [isSubtype_type]; kernel_rfl) (wpAny_pure ?_))
  rw [if_neg (by decide)]
  have e0 : ((items.size : Nat) : Int) - 1 - ((0 : Nat) : Int) = (items.size : Int) - 1 := by omega
  refine wpAny_pure ⟨plainId_quiet F.plain_extend_loop _, codeAny_extend_loopS W hn _ away _ items.size 0 _ _ _ rfl (Nat.zero_le _) ⟨Nat.zero_le _, by rw [e0]; exact hit1, hl1⟩ hS₂ (ItemsOf.nil _) fun s' acc' c' mv hS' hacc => ?_⟩
  rw [Moved.eq_with mv]
  refine ⟨rfl, hQ s'.heap s'.toks acc' c' (fun b o hb e => mv.heap b o (fun hmem => ?_) ?_) hS' hacc⟩
  · rcases List.mem_cons.mp hmem with e' | hmem
    · exact absurd (Heap.lt_size e) (by rw [e']; exact Nat.lt_irrefl _)
    · exact hb (List.mem_singleton.mp hmem)
  · exact oth b o (Nat.ne_of_lt (Heap.lt_size e)) e
end
/-- list(reversed(x)), x a list -/
def tListRev (K : PySem.W.Frag) (te : TE) : TE := fun σ H Q => te σ H fun v H1 => ∃ (a : Addr) (xs : List V), v = .ref a ∧ SqL K H1 a xs ∧ ∀ q, H1 q = none → Q (.ref q) (upd H1 q (.lst xs.reverse))
theorem pe_listRev {X : Cx} {e : Expr} {te : TE} {p p2 pos pos2 : Pos} (hg : Gl X "list") (hm : X.mg "list" = none) (hg2 : Gl X "reversed") (hm2 : X.mg "reversed" = none) (he : PE X e te) (hc : X.calm = true := by rfl)
    (hs : starEach [e] X.env = (false, eval e X.env) :: starEach [] X.env := by rfl)
    (hs2 : starEach [.Call (.Name "reversed" p2) [e] [] pos2] X.env = (false, eval (.Call (.Name "reversed" p2) [e] [] pos2) X.env) :: starEach [] X.env := by rfl) :
    PE X (.Call (.Name "list" p) [.Call (.Name "reversed" p2) [e] [] pos2] [] pos) (tListRev X.K te) := by
  constructor
  intro pins s σ H Q I h
  refine Call_ (ld_blt I hg hm boot_list (PyProof.Rows.callWith_type1 (args_cons (Call_ (ld_blt I hg2 hm2 PyProof.Rows.boot_reversed (PyProof.Rows.callWith_type1 (args_cons (thn (he.run pins s σ H _ I h) fun u s1 ⟨v, H1, I1, r1, q1⟩ => args_nil ?_) hs) hs rfl))) hs2) hs2 rfl))
  obtain ⟨a, xs, rfl, hq, q⟩ := q1
  obtain rfl : u = Value.ref a := r1
  obtain ⟨its, rv, pl, hz⟩ := I1.list hq
  refine call_reversed_list pl.isList (args_nil ?_)
  have hl := pl.isList
  obtain ⟨ol, hol, _⟩ := id hl
  have hne : a ≠ s1.heap.objs.size := Nat.ne_of_lt (Heap.lt_size hol)
  have hn : its.toArray.size ≤ sizeLine := by rw [List.size_toArray, ← rv.length]; exact hz
  have sz : (s1.heap.push (revObj a ((its.toArray.size : Int) - 1))).objs.size = s1.heap.objs.size + 1 := Heap.size_push _ _
  refine call_list_rev (s := { s1 with heap := s1.heap.push (revObj a ((its.toArray.size : Int) - 1)) }) (I1.ok.hd hc) ⟨_, Heap.get?_push_size _ rfl, rfl, rfl⟩ (hl.push _) hne hn fun h' tk acc c hk hS hi => ?_
  have e1 : acc.toList.toArray = acc := by simp
  refine ⟨.ref (s1.heap.push (revObj a ((its.toArray.size : Int) - 1))).objs.size, upd H1 _ (.lst xs.reverse), I1.laid (t' := tk) (fun b o e => hk b o (Nat.ne_of_lt (Heap.lt_size e)) (Heap.get?_push_of_some _ e)) (by rw [sz]; exact Nat.le_succ _)
    (show ObjOk X.prog X.w _ h' _ (.lst xs.reverse) from ⟨by rw [List.length_reverse]; exact hz, acc.toList, c, RT.vals_rev rv hi, by rw [e1]; exact hS⟩), rfl, q _ (I1.hok.fresh (by rw [sz]; exact Nat.le_succ _))⟩
end SxA

set_option Elab.async false
set_option linter.all false
set_option maxRecDepth 100000
set_option maxHeartbeats 1000000
namespace Sx
open PySem PySem.Spec PyProof.Rows L2 SxA
/-- a def of the top -/
abbrev Fd (K : PySem.W.Frag) (x : Str) (st : Stmt) : Prop := ∃ fd, FunD K x x (defArgs st) (defBody st) (defScope st) [] [] (He.ga K x) fd
section
variable {P : Program} {w : World} {K : PySem.W.Frag} {mg : Str → Option Value} {base : Heap}
def Ok (P : Program) (w : World) (K : PySem.W.Frag) (mg : Str → Option Value) (base : Heap) (k : Nat) (x : Str) (ps : List Str) (sp : Sp) : Prop :=
  ∃ fd, FnOk P w K mg base CX0 k (He.ga K x) fd ps sp ∧ Binds K fd ps [] ∧ PySem.W.keepIn K (.ref (He.ga K x)) = true ∧ mg x = some (.ref (He.ga K x))
theorem mkOk {x : Str} {st : Stmt} {N ps : List Str} {k : Nat} {sp : Sp} (d : Fd K x st) (hx : mg x = some (.ref (He.ga K x))) (S : FnScope N ps (defScope st)) (len : ∀ vs H Q E, sp vs H Q E → vs.length = ps.length)
    (bnd : ∀ (kV doc pm : Value) (an : Option Addr) (cdv ct : Value) (us : List Value), us.length = ps.length → bindArgs (PySem.W.fnOf x x (defArgs st) (defBody st) (defScope st) .none kV doc pm an cdv ct) ⟨us, []⟩ = pure (ps.zip us))
    (body : ∀ (cdv : Value) (A : Around) (outer : List Env) (s : Shared) (H0 : Hp) (vs : List V) (Q : VK) (E : XK), Room k (A.deeper (envOfC x (defScope st) s.heap.objs.size (He.ga K x) cdv)) → sp vs H0 Q E →
      ∃ t, PSs (cxOf CX0 P w K mg base N x (defScope st) (He.ga K x) cdv A outer s H0 E).nox (defBody st) t ∧ t { nx := fun _ H' => Q .non H', rt := Q } (start N vs) H0) : Ok P w K mg base (k + 1) x ps sp := by
  obtain ⟨fd, F⟩ := d
  refine ⟨fd, F.ok S len fun cdv A outer s H vs Q E hr h => ?_, F.bindsN bnd, F.kp, hx⟩
  obtain ⟨t, h1, h2⟩ := body cdv A outer s H vs Q E hr h
  exact ⟨t, h1.nox, h2⟩
theorem pe_ok {X : Cx} {k : Nat} {x : Str} {ps : List Str} {sp : Sp} {p pos : Pos} {e : Expr} {es : List Expr} {t : TA} (o : Ok X.prog X.w X.K X.mg X.base k x ps sp) (hr : Room k X.A) (hg : Gl X x) (ha : PA X (e :: es) t)
    (hdb : (x == ("__debug__" : Str)) = false := by decide) (hs : starEach (e :: es) X.env = (false, eval e X.env) :: starEach es X.env := by rfl) (hpl : ((backTo pos (starEach es X.env)).any (·.1)) = false := by rfl) :
    PE X (.Call (.Name x p) (e :: es) [] pos) (tCall sp [] E0 t) := by
  obtain ⟨fd, F, b, kp, hm⟩ := o
  exact pe_call F hr hg hm kp b .nil pass0 ha hdb hs hpl
def But (a : Addr) (H H' : Hp) : Prop := ∀ b o, H b = some o → b ≠ a → H' b = some o
theorem But.of {a : Addr} {H H' : Hp} (s : Same H H') : But a H H' := fun b o e _ => s b o e
theorem Same.new {H : Hp} {p : Addr} {o : HO} (h : H p = none) : Same H (upd H p o) := fun b o e => by
  rw [upd_ne (ne_of_none e h)]
  exact e
theorem Same.put {H0 H : Hp} {p : Addr} {o : HO} (s : Same H0 H) (h : H0 p = none) : Same H0 (upd H p o) := fun b o e => by
  rw [upd_ne (ne_of_none e h)]
  exact s b o e
theorem lc_text {z : Str} {ys : List V} {te : TE} {i0 : Nat} {vs : List Nat} {σ : L2.St} {H1 : Hp} {D : Addr} {Qd : Hp → Prop} (hD : H1 D = none) (hl : ys.length = z.cps.toList.length) (hz : ys.length ≤ sizeLine)
    (hw : ∀ c : Nat, wipe ((wipe σ vs).set i0 (some (.str (sg c)))) vs = wipe σ vs)
    (he : ∀ (i c : Nat) (y : V) (H : Hp) (Q : VK), z.cps.toList[i]? = some c → ys[i]? = some y → Same H1 H → (∀ H', Same H H' → Q y H') → te ((wipe σ vs).set i0 (some (.str (sg c)))) H Q)
    (hd : ∀ H, Same H1 H → H D = some (.lst ys) → Qd H) :
    ∃ W : Nat → Nat → Hp → Prop, (∃ m, W 0 m (upd H1 D (.lst []))) ∧ ∀ i m H, W i m H → ((Its z).stop i H ∧ Qd H) ∨ ((Its z).go i H ∧ ∃ Nx : Hp → Prop, (∀ H', Nx H' → ∃ m', m' < m ∧ W (i + 1) m' H') ∧
      ∀ x H', (Its z).yld i H x H' → (gName i0) x (wipe σ vs) H' fun σ2 H2 => wipe σ2 vs = wipe σ vs ∧ tYes σ2 H2 fun b H3 => if b = true then te σ2 H3 fun y H4 => ∃ acc, H4 D = some (.lst acc) ∧ acc.length < sizeLine ∧ Nx (upd H4 D (.lst (acc ++ [y]))) else Nx H3) := by
  have hsz : z.cps.size = ys.length := by rw [hl]; simp
  refine ⟨fun i m H => m = ys.length - i ∧ i ≤ ys.length ∧ Same H1 H ∧ H D = some (.lst (ys.take i)), ⟨ys.length, rfl, Nat.zero_le _, Same.new hD, upd_same⟩, ?_⟩
  rintro i m H ⟨rfl, hi, sm, hH⟩
  by_cases lt : i < ys.length
  · refine .inr ⟨by show i < z.cps.size; omega, fun H' => Same H1 H' ∧ H' D = some (.lst (ys.take (i + 1))), fun H' q => ⟨ys.length - (i + 1), by omega, rfl, lt, q.1, q.2⟩, ?_⟩
    rintro x H' ⟨rfl, c, hc, rfl⟩
    have hc2 : z.cps.toList[i]? = some c := by rw [Array.getElem?_toList]; exact hc
    have hy : ys[i]? = some ys[i] := List.getElem?_eq_getElem lt
    refine ⟨hw c, ?_⟩
    show te _ _ _
    refine he i c _ _ _ hc2 hy sm fun H4 s4 => ⟨ys.take i, s4 _ _ hH, ?_, ?_, ?_⟩
    · rw [List.length_take]; omega
    · exact Same.put (sm.trans s4) hD
    · rw [upd_same, List.take_add_one, hy]; rfl
  · have e : i = ys.length := by omega
    subst e
    refine .inl ⟨by show z.cps.size ≤ ys.length; omega, hd H sm ?_⟩
    rw [hH, List.take_length]
theorem lc_known {a : Addr} {xs ys : List V} {te : TE} {i0 : Nat} {vs : List Nat} {σ : L2.St} {H1 : Hp} {D : Addr} {Qd : Hp → Prop} (hD : H1 D = none) (hq : SqL K H1 a xs) (hl : ys.length = xs.length) (hz : ys.length ≤ sizeLine)
    (hw : ∀ v : V, wipe ((wipe σ vs).set i0 (some v)) vs = wipe σ vs)
    (he : ∀ (i : Nat) (x y : V) (H : Hp) (Q : VK), xs[i]? = some x → ys[i]? = some y → Same H1 H → (∀ H', Same H H' → Q y H') → te ((wipe σ vs).set i0 (some x)) H Q)
    (hd : ∀ H, Same H1 H → H D = some (.lst ys) → Qd H) :
    ∃ W : Nat → Nat → Hp → Prop, (∃ m, W 0 m (upd H1 D (.lst []))) ∧ ∀ i m H, W i m H → ((Itl K a).stop i H ∧ Qd H) ∨ ((Itl K a).go i H ∧ ∃ Nx : Hp → Prop, (∀ H', Nx H' → ∃ m', m' < m ∧ W (i + 1) m' H') ∧
      ∀ x H', (Itl K a).yld i H x H' → (gName i0) x (wipe σ vs) H' fun σ2 H2 => wipe σ2 vs = wipe σ vs ∧ tYes σ2 H2 fun b H3 => if b = true then te σ2 H3 fun y H4 => ∃ acc, H4 D = some (.lst acc) ∧ acc.length < sizeLine ∧ Nx (upd H4 D (.lst (acc ++ [y]))) else Nx H3) := by
  refine lc_list (K := K) (a := a) (xs := xs) (g := gName i0) (tt := tYes) (te := te) (fun i H => Same H1 H ∧ H D = some (.lst (ys.take i))) ⟨Same.new hD, upd_same⟩ (fun i H _ p => p.1.seq hq) ?_ ?_
  · rintro i x H hx ⟨sm, hH⟩
    have lt : i < ys.length := by rw [hl]; exact (List.getElem?_eq_some_iff.mp hx).1
    have hy : ys[i]? = some ys[i] := List.getElem?_eq_getElem lt
    refine ⟨hw x, ?_⟩
    show te _ _ _
    refine he i x _ _ _ hx hy sm fun H4 s4 => ⟨ys.take i, s4 _ _ hH, ?_, Same.put (sm.trans s4) hD, ?_⟩
    · rw [List.length_take]; omega
    · rw [upd_same, List.take_add_one, hy]; rfl
  · rintro H ⟨sm, hH⟩
    rw [← hl, List.take_length] at hH
    exact hd H sm hH
abbrev sl (z : Str) : List Nat := z.cps.toList
theorem sl_len (z : Str) : z.length = (sl z).length := by simp [Str.length]
theorem lt1 (a b : Nat) : decide ((⟨#[a]⟩ : Str).cps.toList < (⟨#[b]⟩ : Str).cps.toList) = decide (a < b) := by
  rw [decide_eq_decide]
  show [a] < [b] ↔ a < b
  rw [List.cons_lt_cons_iff]
  constructor
  · rintro (h | ⟨_, h⟩)
    · exact h
    · exact absurd h (List.not_lt_nil _)
  · exact Or.inl
theorem eq_sg (c e : Nat) : decide (V.str (sg c) = V.str (sg e)) = decide (c = e) := by
  rw [decide_eq_decide]
  exact ⟨fun h => sg_inj (V.str.inj h), fun h => by rw [h]⟩
theorem mkFn {x : Str} {st : Stmt} {N ps : List Str} {k : Nat} {sp : Sp} {fd : FuncData} (F : FunD K x x (defArgs st) (defBody st) (defScope st) [] [] (He.ga K x) fd) (S : FnScope N ps (defScope st)) (len : ∀ vs H Q E, sp vs H Q E → vs.length = ps.length)
    (body : ∀ (cdv : Value) (A : Around) (outer : List Env) (s : Shared) (H0 : Hp) (vs : List V) (Q : VK) (E : XK), Room k (A.deeper (envOfC x (defScope st) s.heap.objs.size (He.ga K x) cdv)) → sp vs H0 Q E →
      ∃ t, PSs (cxOf CX0 P w K mg base N x (defScope st) (He.ga K x) cdv A outer s H0 E).nox (defBody st) t ∧ t { nx := fun _ H' => Q .non H', rt := Q } (start N vs) H0) : FnOk P w K mg base CX0 (k + 1) (He.ga K x) fd ps sp := by
  refine F.ok S len fun cdv A outer s H vs Q E hr h => ?_
  obtain ⟨t, h1, h2⟩ := body cdv A outer s H vs Q E hr h
  exact ⟨t, h1.nox, h2⟩
theorem pgi {X : Cx} {x : Str} {i : Int} {k : Tok} {pos : Pos} (hg : Gl X x) (hm : X.mg x = some (.int i k)) (hd : (x == ("__debug__" : Str)) = false := by decide) : PE X (.Name x pos) (tC (.int i)) := pe_glob (v := .int i) hg hm ⟨_, rfl⟩ hd
theorem pgs {X : Cx} {x z : Str} {k : Tok} {pos : Pos} (hg : Gl X x) (hm : X.mg x = some (.str z k)) (hd : (x == ("__debug__" : Str)) = false := by decide) : PE X (.Name x pos) (tC (.str z)) := pe_glob (v := .str z) hg hm ⟨_, rfl⟩ hd
theorem op_notInK {X : Cx} {K : PySem.W.Frag} (h : X.K = K) : OpR X (compareOp .NotIn) (rIn K true) := by
  subst h
  exact op_notIn_seq
theorem small4 {n : Nat} (h : n ≤ 4000) : n ≤ sizeLine := Nat.le_trans h (by decide)
theorem sqD {D : Addr} {H : Hp} {ys : List V} (h : H D = some (.lst ys)) : SqL K H D ys := SqL.of h
theorem big6 {n : Nat} (h : n ≤ 1000000) : n ≤ sizeLine := Nat.le_trans h (by decide)
def off (a : Addr) (H : Hp) : Hp := fun b => if b = a then none else H b
def fresh (H H' : Hp) : Hp := fun b => match H b with
  | none => H' b
  | some _ => none
theorem off_ne {a b : Addr} {H : Hp} (h : b ≠ a) : off a H b = H b := if_neg h
theorem off_some {a b : Addr} {H : Hp} {o : HO} (h : off a H b = some o) : b ≠ a ∧ H b = some o := by
  unfold off at h
  by_cases e : b = a
  · rw [if_pos e] at h; cases h
  · rw [if_neg e] at h; exact ⟨e, h⟩
theorem fresh_of {H H' : Hp} {b : Addr} (h : H b = none) : fresh H H' b = H' b := by
  unfold fresh; rw [h]
theorem fresh_some {H H' : Hp} {b : Addr} {o : HO} (h : fresh H H' b = some o) : H b = none ∧ H' b = some o := by
  unfold fresh at h
  cases e : H b with
  | none => rw [e] at h; exact ⟨rfl, h⟩
  | some u => rw [e] at h; cases h
theorem off_le {a : Addr} {H : Hp} : Same (off a H) H := fun b o h => (off_some h).2
theorem off_up {a : Addr} {H H' : Hp} (s : Same H H') : Same (off a H) (off a H') := fun b o h => by
  obtain ⟨h1, h2⟩ := off_some h
  rw [off_ne h1]
  exact s _ _ h2
theorem off_but {a : Addr} {H H' : Hp} (s : But a H H') : Same (off a H) (off a H') := fun b o h => by
  obtain ⟨h1, h2⟩ := off_some h
  rw [off_ne h1]
  exact s _ _ h2 h1
theorem off_put (a : Addr) (H : Hp) (o : HO) : off a (upd H a o) = off a H := by
  funext b
  unfold off
  by_cases e : b = a
  · rw [if_pos e, if_pos e]
  · rw [if_neg e, if_neg e, upd_ne e]
theorem off_in {a : Addr} {H0 H : Hp} (s : Same H0 H) (h : H0 a = none) : Same H0 (off a H) := fun b o e => by
  rw [off_ne (ne_of_none e h)]
  exact s _ _ e
theorem fresh_le {H H' : Hp} : Same (fresh H H') H' := fun b o h => (fresh_some h).2
theorem fresh_off {a : Addr} {H H' : Hp} {u : HO} (h : H a = some u) : Same (fresh H H') (off a H') := fun b o e => by
  obtain ⟨h1, h2⟩ := fresh_some e
  rw [off_ne fun q => by rw [q, h] at h1; cases h1]
  exact h2
theorem fresh_up {H H1 H' H2 : Hp} (s : ∀ b, H1 b = none → H b = none) (s2 : Same H' H2) : Same (fresh H1 H') (fresh H H2) := fun b o e => by
  obtain ⟨h1, h2⟩ := fresh_some e
  rw [fresh_of (s b h1)]
  exact s2 _ _ h2
theorem Same.none {H H' : Hp} (s : Same H H') : ∀ b, H' b = Option.none → H b = Option.none := fun b h => s.free h
theorem put_new (f : Str) (v : V) : ∀ fs : List (Str × V), (∀ q ∈ fs, q.1 ≠ f) → putF f v fs = fs ++ [(f, v)]
  | [], _ => rfl
  | (g, x) :: r, h => by
    show (if g = f then (g, v) :: r else (g, x) :: putF f v r) = _
    rw [if_neg (h (g, x) (.head _)), put_new f v r fun q hq => h q (.tail _ hq)]
    rfl
theorem len_put (f : Str) (v : V) : ∀ fs : List (Str × V), (putF f v fs).length ≤ fs.length + 1
  | [] => Nat.le_refl _
  | (g, x) :: r => by
    show (if g = f then (g, v) :: r else (g, x) :: putF f v r).length ≤ _
    by_cases h : g = f
    · rw [if_pos h]; exact Nat.le_succ _
    · rw [if_neg h]; exact Nat.succ_le_succ (len_put f v r)
theorem len_put_lt {f : Str} {v : V} {fs : List (Str × V)} {n : Nat} (h : fs.length ≤ n) : (putF f v fs).length ≤ n + 1 := Nat.le_trans (len_put f v fs) (Nat.succ_le_succ h)
theorem lc_rel {a : Addr} {xs : List V} {te : TE} {i0 : Nat} {vs : List Nat} {σ : L2.St} {H1 : Hp} {D : Addr} {Qd : Hp → Prop} (Rel : Nat → V → Hp → Prop) (hm : ∀ i v H H', Rel i v H → Same H H' → Rel i v H') (hD : H1 D = none) (hq : SqL K H1 a xs) (hz : xs.length ≤ sizeLine)
    (hw : ∀ v : V, wipe ((wipe σ vs).set i0 (some v)) vs = wipe σ vs)
    (he : ∀ (i : Nat) (x : V) (H : Hp) (Q : VK) (acc : List V), xs[i]? = some x → Same H1 H → H D = some (.lst acc) → (∀ y H', Same H H' → Rel i y (fresh H H') → Q y H') → te ((wipe σ vs).set i0 (some x)) H Q)
    (hd : ∀ H ys, Same H1 H → H D = some (.lst ys) → ys.length = xs.length → (∀ i y, ys[i]? = some y → Rel i y (fresh H1 (off D H))) → Qd H) :
    ∃ W : Nat → Nat → Hp → Prop, (∃ m, W 0 m (upd H1 D (.lst []))) ∧ ∀ i m H, W i m H → ((Itl K a).stop i H ∧ Qd H) ∨ ((Itl K a).go i H ∧ ∃ Nx : Hp → Prop, (∀ H', Nx H' → ∃ m', m' < m ∧ W (i + 1) m' H') ∧
      ∀ x H', (Itl K a).yld i H x H' → (gName i0) x (wipe σ vs) H' fun σ2 H2 => wipe σ2 vs = wipe σ vs ∧ tYes σ2 H2 fun b H3 => if b = true then te σ2 H3 fun y H4 => ∃ acc, H4 D = some (.lst acc) ∧ acc.length < sizeLine ∧ Nx (upd H4 D (.lst (acc ++ [y]))) else Nx H3) := by
  refine lc_list (K := K) (a := a) (xs := xs) (g := gName i0) (tt := tYes) (te := te) (fun i H => Same H1 H ∧ ∃ ys, H D = some (.lst ys) ∧ ys.length = i ∧ ∀ j y, ys[j]? = some y → Rel j y (fresh H1 (off D H)))
    ⟨Same.new hD, [], upd_same, rfl, fun j y h => by simp at h⟩ (fun i H _ p => p.1.seq hq) ?_ ?_
  · rintro i x H hx ⟨sm, ys, hH, hl, hr⟩
    have lt : i < xs.length := (List.getElem?_eq_some_iff.mp hx).1
    refine ⟨hw x, ?_⟩
    show te _ _ _
    refine he i x _ _ ys hx sm hH fun y H4 s4 r4 => ⟨ys, s4 _ _ hH, by omega, Same.put (sm.trans s4) hD, ys ++ [y], upd_same, by rw [List.length_append, hl]; rfl, fun j v hj => ?_⟩
    rw [off_put]
    by_cases hji : j < ys.length
    · rw [List.getElem?_append_left hji] at hj
      exact hm _ _ _ _ (hr j v hj) (fresh_up (fun b h => h) (off_up s4))
    · rw [List.getElem?_append_right (by omega)] at hj
      have hj0 : j - ys.length = 0 := by
        have := (List.getElem?_eq_some_iff.mp hj).1
        rw [List.length_singleton] at this
        omega
      rw [hj0] at hj
      obtain rfl : y = v := Option.some.inj hj
      have e : j = i := by omega
      rw [e]
      refine hm _ _ _ _ r4 fun b o e => ?_
      obtain ⟨h1, h2⟩ := fresh_some e
      have hb : b ≠ D := fun q => by rw [q, hH] at h1; cases h1
      rw [fresh_of (Sx.Same.none sm b h1), off_ne hb]
      exact h2
  · rintro H ⟨sm, ys, hH, hl, hr⟩
    exact hd H ys sm hH hl hr
def pInts (cs : List Int) : PyData := .list (cs.map PyData.int)
theorem eqvAll_ints : ∀ xs ys : List Int, PyData.eqvAll (xs.map PyData.int) (ys.map PyData.int) = decide (xs = ys)
  | [], [] => rfl
  | [], y :: ys => by simp [PyData.eqvAll]
  | x :: xs, [] => by simp [PyData.eqvAll]
  | x :: xs, y :: ys => by
    rw [List.map_cons, List.map_cons, PyData.eqvAll, eqvAll_ints xs ys, PyData.eqv]
    by_cases h : x = y
    · subst h; simp
    · simp [h]
theorem eqv_ints (xs ys : List Int) : PyData.eqv (pInts xs) (pInts ys) = decide (xs = ys) := by
  unfold pInts
  rw [PyData.eqv]
  exact eqvAll_ints xs ys
theorem lay_ints : ∀ xs : List Int, PyData.canLayAll0 (xs.map PyData.int) = true
  | [] => rfl
  | x :: xs => by
    rw [List.map_cons, PyData.canLayAll0, lay_ints xs]
    rfl
theorem dep_ints : ∀ xs : List Int, PyData.depthAll (xs.map PyData.int) ≤ 1
  | [] => Nat.zero_le _
  | x :: xs => by
    rw [List.map_cons, PyData.depthAll]
    exact Nat.max_le.mpr ⟨by rw [PyData.depth]; decide, dep_ints xs⟩
theorem shaped_ints (xs : List Int) : SeqAt.shaped (pInts xs) = true := by
  unfold SeqAt.shaped pInts
  rw [PyData.canLay0, lay_ints, PyData.depth]
  have := dep_ints xs
  simp
  omega
theorem dpAll_ints (K : PySem.W.Frag) (H : Hp) : ∀ xs : List Int, DpAll K H (xs.map V.int) (xs.map PyData.int)
  | [] => .nil
  | x :: xs => .cons (.int x) (dpAll_ints K H xs)
theorem dp_ints {K : PySem.W.Frag} {H : Hp} {a : Addr} {xs : List Int} (h : SqL K H a (xs.map V.int)) : Dp K H (.ref a) (pInts xs) := .lst h (dpAll_ints K H xs)
theorem hu64 {A : Around} {k : Nat} (hr : Room k A) : A.units + 64 < cLine := by
  have := hr.un
  omega
theorem lc_zip {a b : Addr} {xs ys zs : List V} {te : TE} {i0 j0 : Nat} {vs : List Nat} {σ : L2.St} {H1 : Hp} {D : Addr} {Qd : Hp → Prop} (hD : H1 D = none) (hx : SqL K H1 a xs) (hy : SqL K H1 b ys) (hl : ys.length = xs.length) (hz : zs.length = xs.length) (hb : zs.length ≤ sizeLine)
    (hw : ∀ u v : V, wipe (((wipe σ vs).set i0 (some u)).set j0 (some v)) vs = wipe σ vs)
    (he : ∀ (i : Nat) (x y z : V) (H : Hp) (Q : VK), xs[i]? = some x → ys[i]? = some y → zs[i]? = some z → Same H1 H → (∀ H', Same H H' → Q z H') → te (((wipe σ vs).set i0 (some x)).set j0 (some y)) H Q)
    (hd : ∀ H, Same H1 H → H D = some (.lst zs) → Qd H) :
    ∃ W : Nat → Nat → Hp → Prop, (∃ m, W 0 m (upd H1 D (.lst []))) ∧ ∀ i m H, W i m H → ((Itz K a b).stop i H ∧ Qd H) ∨ ((Itz K a b).go i H ∧ ∃ Nx : Hp → Prop, (∀ H', Nx H' → ∃ m', m' < m ∧ W (i + 1) m' H') ∧
      ∀ x H', (Itz K a b).yld i H x H' → (gTup K 2 (gCons (gName i0) (gCons (gName j0) gNil))) x (wipe σ vs) H' fun σ2 H2 => wipe σ2 vs = wipe σ vs ∧ tYes σ2 H2 fun b H3 => if b = true then te σ2 H3 fun y H4 => ∃ acc, H4 D = some (.lst acc) ∧ acc.length < sizeLine ∧ Nx (upd H4 D (.lst (acc ++ [y]))) else Nx H3) := by
  refine ⟨fun i m H => m = zs.length - i ∧ i ≤ zs.length ∧ Same H1 H ∧ H D = some (.lst (zs.take i)), ⟨zs.length, rfl, Nat.zero_le _, Same.new hD, upd_same⟩, ?_⟩
  rintro i m H ⟨rfl, hi, sm, hH⟩
  by_cases lt : i < zs.length
  · have ex : xs[i]? = some (xs[i]'(by omega)) := List.getElem?_eq_getElem _
    have ey : ys[i]? = some (ys[i]'(by omega)) := List.getElem?_eq_getElem _
    have ez : zs[i]? = some zs[i] := List.getElem?_eq_getElem lt
    refine .inr ⟨⟨xs, ys, _, _, sm.seq hx, sm.seq hy, ex, ey⟩, fun H' => Same H1 H' ∧ H' D = some (.lst (zs.take (i + 1))), fun H' q => ⟨zs.length - (i + 1), by omega, rfl, lt, q.1, q.2⟩, ?_⟩
    rintro v H' ⟨T, x, y, rfl, hT, rfl, h1, h2⟩
    have hx2 := h1 _ (sm.seq hx)
    have hy2 := h2 _ (sm.seq hy)
    refine ⟨T, [x, y], rfl, SqT.of upd_same, rfl, x, _, rfl, y, _, rfl, rfl, hw x y, ?_⟩
    show te _ _ _
    have nDT : D ≠ T := ne_of_none hH hT
    refine he i x y _ _ _ hx2 hy2 ez (sm.trans (Same.new hT)) fun H4 s4 => ⟨zs.take i, s4 _ _ (by rw [upd_ne nDT]; exact hH), ?_, ?_, ?_⟩
    · rw [List.length_take]; omega
    · exact Same.put ((sm.trans (Same.new hT)).trans s4) hD
    · rw [upd_same, List.take_add_one, ez]; rfl
  · have e : i = zs.length := by omega
    subst e
    refine .inl ⟨⟨xs, ys, sm.seq hx, sm.seq hy, .inl (by omega)⟩, hd H sm ?_⟩
    rw [hH, List.take_length]
theorem lc_rangeF {lo : Int} {n : Nat} {f : Nat → Bool} {F : Nat → V} {tt : TT} {te : TE} {i0 : Nat} {vs : List Nat} {σ : L2.St} {H1 : Hp} {D : Addr} {Qd : Hp → Prop} (hD : H1 D = none) (hn : n ≤ sizeLine)
    (hw : ∀ u : V, wipe ((wipe σ vs).set i0 (some u)) vs = wipe σ vs)
    (ht : ∀ (i : Nat) (H : Hp) (Q : Bool → Hp → Prop), i < n → Same H1 H → Q (f i) H → tt ((wipe σ vs).set i0 (some (.int (lo + (i : Nat))))) H Q)
    (he : ∀ (i : Nat) (H : Hp) (Q : VK), i < n → Same H1 H → Q (F i) H → te ((wipe σ vs).set i0 (some (.int (lo + (i : Nat))))) H Q)
    (hd : ∀ H, Same H1 H → H D = some (.lst (((List.range n).filter f).map F)) → Qd H) :
    ∃ W : Nat → Nat → Hp → Prop, (∃ m, W 0 m (upd H1 D (.lst []))) ∧ ∀ i m H, W i m H → ((Itr lo n).stop i H ∧ Qd H) ∨ ((Itr lo n).go i H ∧ ∃ Nx : Hp → Prop, (∀ H', Nx H' → ∃ m', m' < m ∧ W (i + 1) m' H') ∧
      ∀ x H', (Itr lo n).yld i H x H' → (gName i0) x (wipe σ vs) H' fun σ2 H2 => wipe σ2 vs = wipe σ vs ∧ tt σ2 H2 fun b H3 => if b = true then te σ2 H3 fun y H4 => ∃ acc, H4 D = some (.lst acc) ∧ acc.length < sizeLine ∧ Nx (upd H4 D (.lst (acc ++ [y]))) else Nx H3) := by
  have step : ∀ i, ((List.range (i + 1)).filter f).map F = ((List.range i).filter f).map F ++ (if f i = true then [F i] else []) := fun i => by
    rw [List.range_succ, List.filter_append, List.map_append]
    by_cases h : f i = true
    · rw [if_pos h]; simp [List.filter_cons, h]
    · rw [if_neg h]; simp [List.filter_cons, h]
  have small : ∀ i, i < n → (((List.range i).filter f).map F).length < sizeLine := fun i h => by
    rw [List.length_map]
    have := List.length_filter_le f (List.range i)
    rw [List.length_range] at this
    omega
  refine lc_range (g := gName i0) (tt := tt) (te := te) (fun i H => Same H1 H ∧ H D = some (.lst (((List.range i).filter f).map F))) ⟨Same.new hD, upd_same⟩ ?_ (fun H q => hd H q.1 q.2)
  rintro i H hi ⟨sm, hH⟩
  refine ⟨hw _, ht i H _ hi sm ?_⟩
  by_cases h : f i = true
  · rw [if_pos h]
    refine he i H _ hi sm ⟨_, hH, small i hi, Same.put sm hD, ?_⟩
    rw [upd_same, step, if_pos h]
  · rw [if_neg h]
    exact ⟨sm, by rw [hH, step, if_neg h, List.append_nil]⟩
theorem eq_int (a b : Int) : decide (V.int a = V.int b) = decide (a = b) := by
  rw [decide_eq_decide]
  exact ⟨V.int.inj, congrArg V.int⟩
theorem eq_str (a b : Str) : decide (V.str a = V.str b) = decide (a = b) := by
  rw [decide_eq_decide]
  exact ⟨V.str.inj, congrArg V.str⟩
theorem lc_rangeS {lo : Int} {n : Nat} {f : Nat → Bool} {F : Nat → V} {tt : TT} {te : TE} {i0 : Nat} {vs : List Nat} {σ : L2.St} {H1 : Hp} {D : Addr} {Qd : Hp → Prop} (hD : H1 D = none) (hn : n ≤ sizeLine)
    (hw : ∀ u : V, wipe ((wipe σ vs).set i0 (some u)) vs = wipe σ vs)
    (ht : ∀ (i : Nat) (H : Hp) (Q : Bool → Hp → Prop), i < n → Same H1 H → (∀ H', Same H H' → Q (f i) H') → tt ((wipe σ vs).set i0 (some (.int (lo + (i : Nat))))) H Q)
    (he : ∀ (i : Nat) (H : Hp) (Q : VK), i < n → Same H1 H → Q (F i) H → te ((wipe σ vs).set i0 (some (.int (lo + (i : Nat))))) H Q)
    (hd : ∀ H, Same H1 H → H D = some (.lst (((List.range n).filter f).map F)) → Qd H) :
    ∃ W : Nat → Nat → Hp → Prop, (∃ m, W 0 m (upd H1 D (.lst []))) ∧ ∀ i m H, W i m H → ((Itr lo n).stop i H ∧ Qd H) ∨ ((Itr lo n).go i H ∧ ∃ Nx : Hp → Prop, (∀ H', Nx H' → ∃ m', m' < m ∧ W (i + 1) m' H') ∧
      ∀ x H', (Itr lo n).yld i H x H' → (gName i0) x (wipe σ vs) H' fun σ2 H2 => wipe σ2 vs = wipe σ vs ∧ tt σ2 H2 fun b H3 => if b = true then te σ2 H3 fun y H4 => ∃ acc, H4 D = some (.lst acc) ∧ acc.length < sizeLine ∧ Nx (upd H4 D (.lst (acc ++ [y]))) else Nx H3) := by
  have step : ∀ i, ((List.range (i + 1)).filter f).map F = ((List.range i).filter f).map F ++ (if f i = true then [F i] else []) := fun i => by
    rw [List.range_succ, List.filter_append, List.map_append]
    by_cases h : f i = true
    · rw [if_pos h]; simp [List.filter_cons, h]
    · rw [if_neg h]; simp [List.filter_cons, h]
  have small : ∀ i, i < n → (((List.range i).filter f).map F).length < sizeLine := fun i h => by
    rw [List.length_map]
    have := List.length_filter_le f (List.range i)
    rw [List.length_range] at this
    omega
  refine lc_range (g := gName i0) (tt := tt) (te := te) (fun i H => Same H1 H ∧ H D = some (.lst (((List.range i).filter f).map F))) ⟨Same.new hD, upd_same⟩ ?_ (fun H q => hd H q.1 q.2)
  rintro i H hi ⟨sm, hH⟩
  refine ⟨hw _, ht i H _ hi sm fun H' s' => ?_⟩
  have hH' := s' _ _ hH
  have sm' := sm.trans s'
  by_cases h : f i = true
  · rw [if_pos h]
    refine he i H' _ hi sm' ⟨_, hH', small i hi, Same.put sm' hD, ?_⟩
    rw [upd_same, step, if_pos h]
  · rw [if_neg h]
    exact ⟨sm', by rw [hH', step, if_neg h, List.append_nil]⟩
theorem pe_fldK {X : Cx} {K : PySem.W.Frag} {e : Expr} {f : Str} {pos : Pos} {ta : TE} (h : X.K = K) (ha : PE X e ta) (hb : attributeBase e f X.env (eval e X.env) = eval e X.env := by rfl) : PE X (.Attribute e f pos) (tFld K ta f) := by
  subst h
  exact pe_fld ha hb
def tTru (K : PySem.W.Frag) (ta : TE) : TT := fun σ H Q => ta σ H fun x H' => ∃ k, TruV K x H' k ∧ Q k H'
theorem pt_truthK {X : Cx} {K : PySem.W.Frag} {a : Expr} {ta : TE} (h : X.K = K) (ha : PE X a ta) (he : ∀ whole, isTrue a X.env whole = (do let v ← whole; standAt a.pos; holding [v] (truthy v)) := by intro _; rfl) :
    PT X a (tTru K ta) := by
  subst h
  exact pt_truth ha he
theorem op_inK {X : Cx} {K : PySem.W.Frag} (h : X.K = K) : OpR X (compareOp .In) (rIn K false) := by
  subst h
  exact op_in_seq
theorem But.refl (a : Addr) (H : Hp) : But a H H := fun _ _ e _ => e
theorem But.trans {a : Addr} {H H1 H2 : Hp} (x : But a H H1) (y : But a H1 H2) : But a H H2 := fun b o e hb => y b o (x b o e hb) hb
theorem But.put (a : Addr) (H : Hp) (o : HO) : But a H (upd H a o) := fun b u e hb => by rw [upd_ne hb]; exact e
theorem ix_tupK {X : Cx} {K : PySem.W.Frag} (h : X.K = K) : IxR X (rIxT K) := by
  subst h
  exact ix_tup
theorem ix_listK {X : Cx} {K : PySem.W.Frag} (h : X.K = K) : IxR X (rIxL K) := by
  subst h
  exact ix_list
theorem But.none {a b : Addr} {H H' : Hp} {o : HO} (s : But a H H') (h : H' a = some o) (hb : H' b = Option.none) : H b = Option.none := by
  cases e : H b with
  | none => rfl
  | some u =>
    have n : b ≠ a := fun q => by rw [q, h] at hb; cases hb
    rw [s b u e n] at hb
    cases hb
theorem sl_app (a b : Str) : sl (a ++ b) = sl a ++ sl b := by
  show (a.cps ++ b.cps).toList = _
  simp
theorem sl_sg (c : Nat) : sl (sg c) = [c] := rfl
theorem sl_mt : sl (Str.ofString "") = [] := by decide +kernel
theorem len_app (a b : Str) : (a ++ b).length = a.length + b.length := by
  rw [sl_len, sl_len, sl_len, sl_app, List.length_append]
theorem sl_ext {a b : Str} (h : sl a = sl b) : a = b := by
  obtain ⟨a⟩ := a
  obtain ⟨b⟩ := b
  have : a = b := by
    apply Array.ext'
    exact h
  rw [this]
theorem join_sg : ∀ zs : List Nat, sl (Txt.join (Str.ofString "") (zs.map sg)) = zs := by
  intro zs
  have e : Txt.join (Str.ofString "") (zs.map sg) = Str.join (Str.ofString "") (zs.map sg) := eq_of_beq (join_plain_closes _ _)
  rw [e]
  have e0 : Str.ofString "" = ⟨#[]⟩ := by decide +kernel
  rw [e0]
  induction zs with
  | nil => rfl
  | cons c r ih =>
    cases r with
    | nil => rfl
    | cons d r =>
      have e2 : Str.join ⟨#[]⟩ ((c :: d :: r).map sg) = sg c ++ ⟨#[]⟩ ++ Str.join ⟨#[]⟩ ((d :: r).map sg) := rfl
      rw [e2, sl_app, ih (eq_of_beq (join_plain_closes _ _)), sl_app]
      rfl
theorem lc_signs {z : Str} {tt : TT} {te : TE} {i0 : Nat} {vs : List Nat} {σ : L2.St} {H1 : Hp} {D : Addr} {Qd : Hp → Prop} (Pv : Nat → Hp → Prop) (h0 : Pv 0 (upd H1 D (.lst [])))
    (hs : ∀ (i c : Nat) (H : Hp), (sl z)[i]? = some c → Pv i H → wipe ((wipe σ vs).set i0 (some (.str (sg c)))) vs = wipe σ vs ∧ tt ((wipe σ vs).set i0 (some (.str (sg c)))) H fun b H3 => if b = true then te ((wipe σ vs).set i0 (some (.str (sg c)))) H3 fun y H4 => ∃ acc, H4 D = some (.lst acc) ∧ acc.length < sizeLine ∧ Pv (i + 1) (upd H4 D (.lst (acc ++ [y]))) else Pv (i + 1) H3)
    (hd : ∀ H, Pv (sl z).length H → Qd H) :
    ∃ W : Nat → Nat → Hp → Prop, (∃ m, W 0 m (upd H1 D (.lst []))) ∧ ∀ i m H, W i m H → ((Its z).stop i H ∧ Qd H) ∨ ((Its z).go i H ∧ ∃ Nx : Hp → Prop, (∀ H', Nx H' → ∃ m', m' < m ∧ W (i + 1) m' H') ∧
      ∀ x H', (Its z).yld i H x H' → (gName i0) x (wipe σ vs) H' fun σ2 H2 => wipe σ2 vs = wipe σ vs ∧ tt σ2 H2 fun b H3 => if b = true then te σ2 H3 fun y H4 => ∃ acc, H4 D = some (.lst acc) ∧ acc.length < sizeLine ∧ Nx (upd H4 D (.lst (acc ++ [y]))) else Nx H3) := by
  have hsz : z.cps.size = (sl z).length := by simp
  refine ⟨fun i m H => m = (sl z).length - i ∧ i ≤ (sl z).length ∧ Pv i H, ⟨(sl z).length, rfl, Nat.zero_le _, h0⟩, ?_⟩
  rintro i m H ⟨rfl, hi, p⟩
  by_cases lt : i < (sl z).length
  · refine .inr ⟨by show i < z.cps.size; omega, Pv (i + 1), fun H' q => ⟨(sl z).length - (i + 1), by omega, rfl, lt, q⟩, ?_⟩
    rintro x H' ⟨rfl, c, hc, rfl⟩
    exact hs i c _ (by rw [Array.getElem?_toList]; exact hc) p
  · have e : i = (sl z).length := by omega
    subst e
    exact .inl ⟨by show z.cps.size ≤ (sl z).length; omega, hd H p⟩
theorem for_signs {z : Str} {g : TG} {tb : TS} {D : Ends} {σ : L2.St} {H : Hp} (Pv : Nat → L2.St → Hp → Prop) (h0 : Pv 0 σ H)
    (hs : ∀ (i c : Nat) (σ : L2.St) (H : Hp), (sl z)[i]? = some c → Pv i σ H → g (.str (sg c)) σ H fun σ2 H2 => tb { D with nx := Pv (i + 1), ct := Pv (i + 1), bk := D.nx } σ2 H2) (hd : ∀ σ H, Pv (sl z).length σ H → D.nx σ H) :
    ∃ W : Nat → Nat → L2.St → Hp → Prop, (∃ m, W 0 m σ H) ∧ ∀ i m σ H, W i m σ H → ((Its z).stop i H ∧ D.nx σ H) ∨ ((Its z).go i H ∧ ∃ N : L2.St → Hp → Prop, (∀ σ' H', N σ' H' → ∃ m', m' < m ∧ W (i + 1) m' σ' H') ∧
      ∀ v H', (Its z).yld i H v H' → g v σ H' fun σ2 H2 => tb { D with nx := N, ct := N, bk := D.nx } σ2 H2) := by
  have hsz : z.cps.size = (sl z).length := by simp
  refine ⟨fun i m σ H => m = (sl z).length - i ∧ i ≤ (sl z).length ∧ Pv i σ H, ⟨(sl z).length, rfl, Nat.zero_le _, h0⟩, ?_⟩
  rintro i m σ H ⟨rfl, hi, p⟩
  by_cases lt : i < (sl z).length
  · refine .inr ⟨by show i < z.cps.size; omega, Pv (i + 1), fun σ' H' q => ⟨(sl z).length - (i + 1), by omega, rfl, lt, q⟩, ?_⟩
    rintro x H' ⟨rfl, c, hc, rfl⟩
    exact hs i c σ _ (by rw [Array.getElem?_toList]; exact hc) p
  · have e : i = (sl z).length := by omega
    subst e
    exact .inl ⟨by show z.cps.size ≤ (sl z).length; omega, hd σ H p⟩
theorem RZat {l : List Nat} {u : Int} (h : u.toNat < l.length) (h0 : 0 ≤ u) : atI l u = some l[u.toNat] := by
  have h2 := atI_nat (xs := l) (j := u.toNat) (List.getElem?_eq_getElem h)
  have e : ((u.toNat : Nat) : Int) = u := by omega
  rw [e] at h2
  exact h2
theorem map_snoc {α β : Type} (f : α → β) (l : List α) (x : α) : (l ++ [x]).map f = l.map f ++ [f x] := by simp
end
end Sx

set_option Elab.async false
set_option linter.all false
set_option maxRecDepth 100000
set_option maxHeartbeats 1000000
namespace Sx
open PySem PySem.Spec PyProof.Rows L2 SxA
/-! ### classes: methods that do not raise, and what is made -/
section
variable {P : Program} {w : World} {K : PySem.W.Frag} {mg : Str → Option Value} {base : Heap}
def Met (P : Program) (w : World) (K : PySem.W.Frag) (mg : Str → Option Value) (base : Heap) (k : Nat) (C m : Str) (ps : List Str) (sp : Sp) : Prop :=
  ∃ fd, FnOk P w K mg base CX0 k (He.ma K (He.ga K C) m) fd ps sp ∧ Binds K fd ps []
theorem mkMet {C m qual : Str} {st : Stmt} {N ps : List Str} {k : Nat} {sp : Sp} (d : ∃ fd, FunD K m qual (defArgs st) (defBody st) (defScope st) [] [] (He.ma K (He.ga K C) m) fd) (S : FnScope N ps (defScope st)) (len : ∀ vs H Q E, sp vs H Q E → vs.length = ps.length)
    (bnd : ∀ (kV doc pm : Value) (an : Option Addr) (cdv ct : Value) (us : List Value), us.length = ps.length → bindArgs (PySem.W.fnOf m qual (defArgs st) (defBody st) (defScope st) .none kV doc pm an cdv ct) ⟨us, []⟩ = pure (ps.zip us))
    (body : ∀ (cdv : Value) (A : Around) (outer : List Env) (s : Shared) (H0 : Hp) (vs : List V) (Q : VK) (E : XK), Room k (A.deeper (envOfC qual (defScope st) s.heap.objs.size (He.ma K (He.ga K C) m) cdv)) → sp vs H0 Q E →
      ∃ t, PSs (cxOf CX0 P w K mg base N qual (defScope st) (He.ma K (He.ga K C) m) cdv A outer s H0 E).nox (defBody st) t ∧ t { nx := fun _ H' => Q .non H', rt := Q } (start N vs) H0) : Met P w K mg base (k + 1) C m ps sp := by
  obtain ⟨fd, F⟩ := d
  refine ⟨fd, F.ok S len fun cdv A outer s H vs Q E hr h => ?_, F.bindsN bnd⟩
  obtain ⟨t, h1, h2⟩ := body cdv A outer s H vs Q E hr h
  exact ⟨t, h1.nox, h2⟩
theorem pe_met {X : Cx} {k : Nat} {C m : Str} {ps : List Str} {sp : Sp} {apos pos : Pos} {o e : Expr} {es : List Expr} {ta : TE} {t : TA} {pl : Sem Bool} (M : Met X.prog X.w X.K X.mg X.base k C m ps sp) (c : Cls X.K (He.ga X.K C)) (hm : Meth X.K (He.ga X.K C) m (He.ma X.K (He.ga X.K C) m))
    (hr : Room k X.A) (he : PE X o ta) (ha : PA X (e :: es) t)
    (hst : starEach (e :: es) X.env = (false, eval e X.env) :: starEach es X.env := by rfl) (hpl : (backTo pos (starEach es X.env)).any (·.1) = false := by rfl)
    (ht : eval (.Call (.Attribute o m apos) (e :: es) [] pos) X.env = (do
      let ov ← eval o X.env
      standAt apos.atName
      let (f, first) ← holding [ov] (getMethod ov m pl)
      callWith pos f first (backTo pos (starEach (e :: es) X.env)) (backToKw pos (keywordEach [] X.env))) := by rfl) :
    PE X (.Call (.Attribute o m apos) (e :: es) [] pos) (tMeth (He.ga X.K C) m sp [] E0 ta t) := by
  obtain ⟨fd, F, b⟩ := M
  exact pe_meth he c hm F hr b .nil pass0 ha hst hpl ht
theorem pe_met0 {X : Cx} {k : Nat} {C m : Str} {ps : List Str} {sp : Sp} {apos pos : Pos} {o : Expr} {ta : TE} {pl : Sem Bool} (M : Met X.prog X.w X.K X.mg X.base k C m ps sp) (c : Cls X.K (He.ga X.K C)) (hm : Meth X.K (He.ga X.K C) m (He.ma X.K (He.ga X.K C) m))
    (hr : Room k X.A) (he : PE X o ta)
    (ht : eval (.Call (.Attribute o m apos) [] [] pos) X.env = (do
      let ov ← eval o X.env
      standAt apos.atName
      let (f, first) ← holding [ov] (getMethod ov m pl)
      callWith pos f first (backTo pos (starEach [] X.env)) (backToKw pos (keywordEach [] X.env))) := by rfl) :
    PE X (.Call (.Attribute o m apos) [] [] pos) (tMeth (He.ga X.K C) m sp [] E0 ta tNil) := by
  obtain ⟨fd, F, b⟩ := M
  exact pe_meth0 he c hm F hr b .nil pass0 ht
theorem pe_metK {X : Cx} {K : PySem.W.Frag} {k : Nat} {C m : Str} {ps : List Str} {sp : Sp} {apos pos : Pos} {o e : Expr} {es : List Expr} {ta : TE} {t : TA} {pl : Sem Bool} (h : X.K = K) (M : Met X.prog X.w K X.mg X.base k C m ps sp) (c : Cls K (He.ga K C)) (hm : Meth K (He.ga K C) m (He.ma K (He.ga K C) m))
    (hr : Room k X.A) (he : PE X o ta) (ha : PA X (e :: es) t)
    (hst : starEach (e :: es) X.env = (false, eval e X.env) :: starEach es X.env := by rfl) (hpl : (backTo pos (starEach es X.env)).any (·.1) = false := by rfl)
    (ht : eval (.Call (.Attribute o m apos) (e :: es) [] pos) X.env = (do
      let ov ← eval o X.env
      standAt apos.atName
      let (f, first) ← holding [ov] (getMethod ov m pl)
      callWith pos f first (backTo pos (starEach (e :: es) X.env)) (backToKw pos (keywordEach [] X.env))) := by rfl) :
    PE X (.Call (.Attribute o m apos) (e :: es) [] pos) (tMeth (He.ga K C) m sp [] E0 ta t) := by
  subst h
  exact pe_met M c hm hr he ha hst hpl ht
theorem pe_met0K {X : Cx} {K : PySem.W.Frag} {k : Nat} {C m : Str} {ps : List Str} {sp : Sp} {apos pos : Pos} {o : Expr} {ta : TE} {pl : Sem Bool} (h : X.K = K) (M : Met X.prog X.w K X.mg X.base k C m ps sp) (c : Cls K (He.ga K C)) (hm : Meth K (He.ga K C) m (He.ma K (He.ga K C) m))
    (hr : Room k X.A) (he : PE X o ta)
    (ht : eval (.Call (.Attribute o m apos) [] [] pos) X.env = (do
      let ov ← eval o X.env
      standAt apos.atName
      let (f, first) ← holding [ov] (getMethod ov m pl)
      callWith pos f first (backTo pos (starEach [] X.env)) (backToKw pos (keywordEach [] X.env))) := by rfl) :
    PE X (.Call (.Attribute o m apos) [] [] pos) (tMeth (He.ga K C) m sp [] E0 ta tNil) := by
  subst h
  exact pe_met0 M c hm hr he ht
theorem pe_mk {X : Cx} {k : Nat} {C : Str} {ps : List Str} {sp : Sp} {p pos : Pos} {e : Expr} {es : List Expr} {t : TA} (M : Met X.prog X.w X.K X.mg X.base k C "__init__" ps sp) (m : Mk X.K (He.ga X.K C) (He.ma X.K (He.ga X.K C) "__init__")) (hm : X.mg C = some (.ref (He.ga X.K C)))
    (hr : Room (k + 1) X.A) (hg : Gl X C) (ha : PA X (e :: es) t)
    (hdb : (C == ("__debug__" : Str)) = false := by decide) (he : starEach (e :: es) X.env = (false, eval e X.env) :: starEach es X.env := by rfl) (hpl : (backTo pos (starEach es X.env)).any (·.1) = false := by rfl) :
    PE X (.Call (.Name C p) (e :: es) [] pos) (tMake (He.ga X.K C) sp [] E0 t) := by
  obtain ⟨fd, F, b⟩ := M
  exact pe_make m F hr hg hm b .nil pass0 ha hdb he hpl
end
end Sx

set_option Elab.async false
set_option linter.all false
set_option maxRecDepth 100000
set_option maxHeartbeats 4000000
/-! rules that the layer lacks: enumerate over a text; two except clauses of which the first one has a name; super().__init__ of an own exception -/
namespace SxK
open PySem PySem.Spec PyProof.Rows L2
abbrev sgn (c : Nat) : Str := ⟨#[c]⟩
/-! ### for i, c in enumerate(text) -/
def Ise (z : Str) : It :=
  ⟨fun i _ => i < z.cps.size, fun i H v H' => ∃ T c, v = .ref T ∧ H T = none ∧ H' = upd H T (.tup [.int (i : Nat), .str (sgn c)]) ∧ z.cps[i]? = some c, fun i _ => z.cps.size ≤ i⟩
theorem drawsT {P : Program} {w : World} {A : Around} (hh : A.handled = none) (it : Addr) (z : Str) (t : Tok) : Draws P w A it [it] z.cps.size (SignAt z) (fun i h => h.IsStrIter it (strIterType z) z t i) := by
  unfold strIterType
  cases z.cps.all (· < 128)
  · exact Draws.strWide hh it z t
  · exact Draws.strAscii hh it z t
theorem turn_enumT {P : Program} {w : World} {K : PySem.W.Frag} {elts : List Expr} {kk : Nat} {tpos : Pos} (z : Str) (t : Tok) (e it : Addr) :
    Turn P w K (.Tuple elts kk tpos) (Ise z) [e, it] e (fun i h => (∃ old, IsEnum h e it ((i : Nat) : Int) old) ∧ h.IsStrIter it (strIterType z) z t i ∧ e ≠ it ∧ i ≤ z.cps.size) where
  mem := List.mem_cons_self
  obj := fun i h st b hb => by
    obtain ⟨⟨old, he⟩, ⟨o, ho, hcl, hdt⟩, _, _⟩ := st
    rcases List.mem_cons.mp hb with q | q
    · subst q; exact ⟨_, he, fun v n => nomatch n⟩
    · rw [List.mem_singleton.mp q]; exact ⟨o, ho, fun v n => by rw [hdt] at n; cases n⟩
  keep := fun i h h' st k => by
    obtain ⟨⟨old, he⟩, ⟨o, ho, r⟩, hne, hle⟩ := st
    exact ⟨⟨old, k e List.mem_cons_self _ he⟩, ⟨o, k it (List.mem_cons_of_mem _ List.mem_cons_self) o ho, r⟩, hne, hle⟩
  item := by
    intro X hP hw hK hc i pins s σ H E I hf st hg
    subst hP hw hK
    obtain ⟨⟨old, he⟩, hit, hne, hle⟩ := st
    have el : e < s.heap.objs.size := Heap.lt_size he
    have il : it < s.heap.objs.size := by
      obtain ⟨_, q, _⟩ := id hit
      exact Heap.lt_size q
    have D : Draws X.prog X.w X.A.in1 it [it] z.cps.size (SignAt z) (fun i h => h.IsStrIter it (strIterType z) z t i) := drawsT (A := X.A.in1) (show X.A.in1.handled = none from I.ok.hd hc) it z t
    refine wpAny_pyNext_enum_itemD D he hit hg hne (fun q => hne (List.mem_singleton.mp q)) fun x h' tk hx ho hit' hT hsz hk => ?_
    obtain ⟨c, u, hcz, rfl⟩ := hx
    refine ⟨_, rfl, wpAny_letOwnedTupleGo_enum (s := { s with heap := h', toks := tk + 1 }) ho fun h2 he2 sb => ?_⟩
    have hT2 : h2.get? s.heap.objs.size = some { cls := .type "tuple", data := .seq #[.int i tk, .str ⟨#[c]⟩ u] } := (sb.2 _ (Nat.ne_of_gt el)).trans hT
    have nw : ObjOk X.prog X.w (upd H s.heap.objs.size (.tup [.int (i : Nat), .str (sgn c)])) h2 s.heap.objs.size (.tup [.int (i : Nat), .str (sgn c)]) :=
      ⟨(by show 2 ≤ sizeLine; decide), [.int i tk, .str ⟨#[c]⟩ u], .cons ⟨_, rfl⟩ (.cons ⟨_, rfl⟩ .nil), ⟨_, hT2, rfl, _, rfl⟩⟩
    have I1 : Inv X pins σ (upd H s.heap.objs.size (.tup [.int (i : Nat), .str (sgn c)])) { s with heap := h2, toks := tk + 1 } :=
      I.turnedNew (ch := [e, it]) (fun b ob hb q => by
        have b1 : b ≠ e := fun n => hb (by rw [n]; exact List.mem_cons_self)
        have b2 : b ≠ it := fun n => hb (by rw [n]; exact List.mem_cons_of_mem _ List.mem_cons_self)
        exact (sb.2 b b1).trans (hk b ob b1 b2 q)) hf (Nat.le_refl _) nw
    have e1 : ((i + 1 : Nat) : Int) = (i : Int) + 1 := by omega
    refine ⟨.ref s.heap.objs.size, _, I1, rfl, ⟨_, c, rfl, I.hok.fresh (Nat.le_refl _), rfl, hcz⟩, ⟨⟨_, by rw [e1]; exact he2⟩, ?_, hne, Nat.succ_le_of_lt hg⟩, fun b hb => ?_⟩
    · obtain ⟨o, ho2, r⟩ := hit'
      exact ⟨o, (sb.2 it (Ne.symm hne)).trans ho2, r⟩
    · have lt : b < s.heap.objs.size := by
        rcases List.mem_cons.mp hb with q | q
        · rw [q]; exact el
        · rw [List.mem_singleton.mp q]; exact il
      rw [upd_ne (Nat.ne_of_lt lt)]
      exact (hf b hb).1
  done := by
    intro X hP hw hK hc i pins s σ H E I hf st hg
    subst hP hw hK
    obtain ⟨⟨old, he⟩, hit, hne, hle⟩ := st
    have D : Draws X.prog X.w X.A.in1 it [it] z.cps.size (SignAt z) (fun i h => h.IsStrIter it (strIterType z) z t i) := drawsT (A := X.A.in1) (show X.A.in1.handled = none from I.ok.hd hc) it z t
    obtain ⟨f0, f1, f2, f3, f4, f5⟩ := hf it (List.mem_cons_of_mem _ List.mem_cons_self)
    have ei : i = z.cps.size := Nat.le_antisymm hle hg
    subst ei
    exact wpAny_pyNext_enum_endD D he hit fun h' eb => ⟨rfl, I.turned (t' := s.toks) (fun b o hb q => eb b o hb q) f0 f1 f3 f4 f5⟩
  self := fun A i s Q E st h => by
    obtain ⟨⟨_, he⟩, _⟩ := st
    exact wpAny_pyIter_enum he h
def iEnumT (ta : TA) : TI := fun σ H R => ta σ H fun vs H1 => ∃ z : Str, vs = [.str z] ∧ R (Ise z) H1
theorem pi_enumT {X : Cx} {e : Expr} {ta : TA} {p pos tpos : Pos} {elts : List Expr} {kk : Nat} (hg : Gl X "enumerate") (hm : X.mg "enumerate" = none) (ha : PA X [e] ta) (hs : starEach [e] X.env = [(false, eval e X.env)] := by rfl) :
    PI X (.Tuple elts kk tpos) (.Call (.Name "enumerate" p) [e] [] pos) (iEnumT ta) := by
  refine ⟨fun pins s σ H R I h => ?_⟩
  refine Call_ (ld_blt I hg hm boot_enumerate (PyProof.Rows.callWith_type1 (thn (ha.run pos pins s σ H _ I h) fun us s1 ⟨vs, H1, I1, r1, z, ez, q⟩ => ?_) hs rfl))
  subst ez
  cases r1 with
  | cons r rr =>
    cases rr
    obtain ⟨t, rfl⟩ := r
    have gt : ∀ b, b ∈ [s1.heap.objs.size + 1, s1.heap.objs.size] → s1.heap.objs.size ≤ b := fun b hb => by
      rcases List.mem_cons.mp hb with n | n
      · rw [n]; exact Nat.le_add_right _ _
      · rw [List.mem_singleton.mp n]; exact Nat.le_refl _
    refine call_enumerate_str fun h' he hit hsz hk => wpAny_pyIter_enum he ?_
    exact ⟨s1.heap.objs.size + 1, [s1.heap.objs.size + 1, s1.heap.objs.size], _, _, H1, rfl, I1.kept (t' := s1.toks) hk, turn_enumT z t (s1.heap.objs.size + 1) s1.heap.objs.size,
      ⟨⟨.none, he⟩, hit, Nat.succ_ne_self _, Nat.zero_le _⟩, fun b hb => I1.fpOk (gt b hb) (I1.hok.fresh (gt b hb)), q⟩
theorem for_enumT {z : Str} {g : TG} {tb : TS} {D : Ends} {σ : L2.St} {H : Hp} (Pv : Nat → L2.St → Hp → Prop) (h0 : Pv 0 σ H)
    (hs : ∀ (i c : Nat) (T : Addr) (σ : L2.St) (H : Hp), z.cps.toList[i]? = some c → Pv i σ H → H T = none → g (.ref T) σ (upd H T (.tup [.int (i : Nat), .str (sgn c)])) fun σ2 H2 => tb { D with nx := Pv (i + 1), ct := Pv (i + 1), bk := D.nx } σ2 H2)
    (hd : ∀ σ H, Pv z.cps.toList.length σ H → D.nx σ H) :
    ∃ W : Nat → Nat → L2.St → Hp → Prop, (∃ m, W 0 m σ H) ∧ ∀ i m σ H, W i m σ H → ((Ise z).stop i H ∧ D.nx σ H) ∨ ((Ise z).go i H ∧ ∃ N : L2.St → Hp → Prop, (∀ σ' H', N σ' H' → ∃ m', m' < m ∧ W (i + 1) m' σ' H') ∧
      ∀ v H', (Ise z).yld i H v H' → g v σ H' fun σ2 H2 => tb { D with nx := N, ct := N, bk := D.nx } σ2 H2) := by
  have hsz : z.cps.size = z.cps.toList.length := by simp
  refine ⟨fun i m σ H => m = z.cps.toList.length - i ∧ i ≤ z.cps.toList.length ∧ Pv i σ H, ⟨z.cps.toList.length, rfl, Nat.zero_le _, h0⟩, ?_⟩
  rintro i m σ H ⟨rfl, hi, p⟩
  by_cases lt : i < z.cps.toList.length
  · refine .inr ⟨by show i < z.cps.size; omega, Pv (i + 1), fun σ' H' q => ⟨z.cps.toList.length - (i + 1), by omega, rfl, lt, q⟩, ?_⟩
    rintro v H' ⟨T, c, rfl, hT, rfl, hc⟩
    exact hs i c T σ _ (by rw [Array.getElem?_toList]; exact hc) p hT
  · have e : i = z.cps.toList.length := by omega
    subst e
    exact .inl ⟨by show z.cps.size ≤ z.cps.toList.length; omega, hd σ H p⟩
end SxK

set_option Elab.async false
set_option linter.all false
set_option maxRecDepth 100000
set_option maxHeartbeats 4000000
namespace SxK
open PySem PySem.Spec PyProof.Rows L2
/-! ### try with clauses of which the first one, with a name, takes every exception that is due -/
/-- the ends behind a suite whose name in slot i goes -/
def dropAt (i : Nat) (D : Ends) : Ends := { nx := fun σ' H' => D.nx (σ'.set i none) H', rt := D.rt, bk := fun σ' H' => D.bk (σ'.set i none) H', ct := fun σ' H' => D.ct (σ'.set i none) H' }
def wFirst (K : PySem.W.Frag) (c : Value) (i : Nat) (ts : Addr → Value → Option Addr → TS) (D : Ends) : WX := fun cls d σ H =>
  PySem.W.exmOne K cls c = some true ∧ ∀ a, H a = none → ts a cls d (dropAt i D) (σ.set i (some (.ref a))) H
section
variable {X : Cx} {x n : Str} {c : Value} {i : Nat} {body suite : List Stmt} {b₀ : Stmt} {np pos pos' : Pos} {more : List ExceptHandler} {tb : WX → TS} {ts : Addr → Value → Option Addr → TS}
theorem ps_try_first (st : X.stack = X.env :: X.outer) (fr : X.env.frame = some X.env.locals) (nd : X.N.Nodup) (ni : X.N[i]? = some n) (nl : X.env.kindOf n = some .local) (nc : Names X x c)
    (tryB : ∀ (W : WX) (pn : List (Addr × Obj)) (xe : Value → Shared → Prop), Takes (X.tr pn xe) W → PassesOwn (model X.prog X.w) X.A X.env xe → PSs (X.tr pn xe) body (tb W))
    (suiteB : ∀ (a : Addr) (oe : Obj) (cls : Value) (d : Option Addr) (pn : List (Addr × Obj)), Zc cls d oe → (∃ vs, oe.data = .fields vs) → PSs (X.suite a ((a, oe) :: pn)) (b₀ :: suite) (ts a cls d)) :
    PS X (.Try body (.ExceptHandler (some (.Name x np)) (some n) (b₀ :: suite) pos' :: more) [] [] pos) (fun D σ H => tb (wFirst X.K c i ts D) D σ H) := by
  refine ⟨fun pins s σ H D I h => ?_⟩
  have okX := I.ok
  have afr : X.A.frames = some (X.env :: X.outer) := by rw [okX.frames, st]
  refine wpAny_Try_except (wpAny_mono ((tryB (wFirst X.K c i ts D) (X.pn ++ pins) _ (fun u s2 y => ?_) PassesOwn.looking).run [] s σ H D (I.toTry _) h) (fun f s1 q => ?_) (fun e s1 q => q))
  · obtain ⟨a, B, sJ, pins2, τ, G, cls, d, rfl, J0, inB, upS, air, free, osJ, gnJ, mt, wish⟩ := y
    have J : Inv X pins τ G sJ := J0.ofTry okX
    have air2 : Sky B (X.env :: X.outer) a (Zc cls d) X.env.locals s2.heap := by rw [← st]; exact air
    show wpAny (model X.prog X.w) X.A (noteFrame (.ref a) X.env) _ _ _
    refine Sky.land Zc.steady afr fr air2 fun hL flL upL => ?_
    have JL : Inv X pins τ G { s2 with heap := hL } := J.landed inB flL.1 (upS.trans upL) osJ gnJ
    obtain ⟨oL, vL, eL, zL, dL⟩ := flL.there
    have off : a ∉ frs (X.env :: X.outer) := fun hm => by
      obtain ⟨_, o', e', hnf⟩ := flL.2.2.1.mem hm
      rw [eL] at e'
      cases e'
      exact hnf _ dL
    have aL : a ≠ X.env.locals := fun z => off (List.mem_filterMap.mpr ⟨X.env, List.mem_cons_self, by rw [fr, z]⟩)
    have aF : a ∉ X.fs := fun hm => by
      obtain ⟨e, he, q⟩ := List.mem_filterMap.mp hm
      exact off (List.mem_filterMap.mpr ⟨e, List.mem_cons_of_mem _ he, q⟩)
    have SL := JL.suite eL dL free aL aF
    refine wpAny_handleBy_cons (codeAny_handlers_test ?_) (fun q => by cases q)
    have tyL : PySem.W.Looks (model X.prog X.w) hL (typeOf (.ref a)) cls := fun A Q E s k q => wpAny_typeOf_ref (k _ _ eL) (by rw [zL.1]; exact q)
    have mtL := PySem.W.exm_one (M := model X.prog X.w) JL.kIn tyL mt
    have named : ∀ {Q : Value → Shared → Prop} {E : Value → Shared → Prop}, Q c { s2 with heap := hL } → wpAny (model X.prog X.w) (X.A.mark (some (.ref a))) (eval (.Name x np) X.env) Q E { s2 with heap := hL } := fun {Q E} q => by
      rcases nc with ⟨g1, g2, m1 | ⟨m1, m2, m3⟩⟩
      · exact ld_glob (X := X.suite a ((a, oL) :: (X.pn ++ pins))) SL g1 m1 q g2
      · exact ld_blt (X := X.suite a ((a, oL) :: (X.pn ++ pins))) SL g1 m1 m2 q m3 g2
    refine named (mtL.here (codeAny_handlers_suite_as (HandSPX.lands_againZ flL fun hR flR upR => ?_)))
    have JR : Inv X pins τ G { s2 with heap := hR } := J.landed inB flR.1 ((upS.trans upL).trans upR) osJ gnJ
    obtain ⟨oR, vR, eR, zR, dR⟩ := flR.there
    refine store_ok (X := X.suite a ((a, oR) :: (X.pn ++ pins))) (v := .ref a) (JR.suite eR dR free aL aF) nd ni (.inl nl) rfl (fun s5 S5 => ?_) (.inr nl)
    refine wpAny_mono ((suiteB a oR cls d (X.pn ++ pins) zR ⟨_, dR⟩).run [] s5 _ G _ S5 (wish a free)) (fun f s6 q => ?_) (fun _ _ z => z.elim)
    have goes : ∀ {ρ : L2.St} {F : Hp} {Q : Shared → Prop}, Inv (X.suite a ((a, oR) :: (X.pn ++ pins))) [] ρ F s6 → (∀ s7, Inv X pins (ρ.set i none) F s7 → Q s7) →
        wpAny (model X.prog X.w) X.A (do bindName X.env n .none; unbindBehindTheSuite X.env n pos') (fun _ s7 => Q s7) X.xe s6 := fun {ρ F Q} Sx hq => gone_ok (Sx.unsuite okX) nd ni nl hq
    cases f with
    | ret u =>
      obtain ⟨v, ρ, F, Sx, rv, q⟩ := q
      exact goes Sx fun s7 J7 => ⟨_, _, _, J7, rv, q⟩
    | next =>
      obtain ⟨ρ, F, Sx, q⟩ := q
      exact goes Sx fun s7 J7 => ⟨_, _, J7, q⟩
    | brk =>
      obtain ⟨ρ, F, Sx, q⟩ := q
      exact goes Sx fun s7 J7 => ⟨_, _, J7, q⟩
    | cont =>
      obtain ⟨ρ, F, Sx, q⟩ := q
      exact goes Sx fun s7 J7 => ⟨_, _, J7, q⟩
  · cases f with
    | ret u =>
      obtain ⟨v, τ, G, J, rv, q⟩ := q
      exact ⟨v, τ, G, J.ofTry okX, rv, q⟩
    | next =>
      obtain ⟨τ, G, J, q⟩ := q
      exact wpAny_execs_nil ⟨τ, G, J.ofTry okX, q⟩
    | brk =>
      obtain ⟨τ, G, J, q⟩ := q
      exact ⟨τ, G, J.ofTry okX, q⟩
    | cont =>
      obtain ⟨τ, G, J, q⟩ := q
      exact ⟨τ, G, J.ofTry okX, q⟩
end
end SxK

set_option Elab.async false
set_option linter.all false
set_option maxRecDepth 100000
set_option maxHeartbeats 4000000
namespace SxK
open PySem PySem.Spec PyProof.Rows L2 PySem.Calls
/-! ### an __init__ whose first statement is super().__init__(e), the base's one ValueError's -/
structure SupC (P : Program) (K : PySem.W.Frag) (mg : Str → Option Value) (C fI cc cda : Addr) (nm q : Str) (params : Arguments) (body : List Stmt) (scope : Scope) (fd : FuncData) : Prop where
  ex : OexC K C
  fn : ∃ oc od kV doc pm an ct osl, fd = PySem.W.ksFn nm q params body scope .none kV doc pm an (.ref cda) ct cc ∧ K.lookup fI = some ⟨oc, od, .func fd, osl⟩
  cod : PySem.W.codeIn K (.ref cda) q = true
  file : ∃ cl cd vs sl tf file, K.lookup cda = some ⟨cl, cd, .fields vs, sl⟩ ∧ vs[2]? = some (.str file tf) ∧ ((P.main.file : Str) == file) = true
  cell : ∃ cl cd sl, K.lookup cc = some ⟨cl, cd, .cell (some (.ref C)), sl⟩
  opq : PySem.W.nsIn K cStatics "thirdparty.any" = some none
  ini : PySem.W.ks_superIn K C C "__init__" = some (some (.builtin "ValueError.__init__"))
  sub : PySem.W.mroIn K C (.ref C) = some true
  isB : PySem.W.subIn K (.ref C) (.type "ValueError") = some true
  sup : mg "super" = none
  top : (P.main.scope.names.lookup ("super" : Str)).isSome = false
  iC : PySem.W.findIn K (.ref C) "__init__" = some (some (.ref fI))
  tI : PySem.W.typeIn K (.ref fI) = some (.type "function")
section
variable {X : Cx} {pins : List (Addr × Obj)} {σ : L2.St} {H : Hp} {s : Shared} {a C u : Addr} {us : List Value} {Q : Value → Shared → Prop} {E : Value → Shared → Prop}
/-- the bound ValueError.__init__ is called: nothing of it is told -/
theorem mw_call (T : OexC X.K C) (I : Inv X pins σ H s) (e : H a = some (exo a C none)) (hu : s.heap.get? u = some (PySem.W.kxs_mw "ValueError.__init__" a)) (hl : us.length ≤ sizeLine) (h : ∀ s', Inv X pins σ H s' → Q .none s') :
    wpAny (model X.prog X.w) X.A (call (.ref u) us) Q E s := by
  obtain ⟨nm, q, N, bs, bm, sn, sub, ab, col, dd, k0, k1, k2, k3, k5, hC, hbm⟩ := T.cls
  obtain ⟨t1, ho⟩ := exo_at I.hok e
  obtain ⟨hp, g, d, t, os⟩ := s
  have FB := F.excBase_ValueError
  have mt : (Value.type "method-wrapper" == Value.type "method" || Value.type "method-wrapper" == Value.type "builtin_function_or_method" || Value.type "method-wrapper" == Value.type "method-wrapper") = true := by decide
  refine wpAny_call (codeAny_of_tree ?_); show wpAny _ X.A.in1 (callAny (.ref u) ⟨us, []⟩) _ _ _
  simp only [callAny]; refine wpAny_bind (wpAny_load hu ?_)
  simp only [PySem.W.kxs_mw, mt, if_true]
  refine PySem.W.KFB.if_so (by decide) (wpAny_bind (PySem.W.check_bound_init FB.toExcCallFacts (I.kIn _ _ hC) ho rfl (wpAny_bind (wpAny_pure (wpAny_pure ?_)))))
  refine ⟨plainId_quiet FB.init.plain _, codeAny_builtin FB.initEntry (PySem.W.exc_init_tree (cls := .ref C) (t0 := t1) (dv := none) (c2 := .none) (c3 := .none) (b4 := .bool false) ho hl fun h' k hx _ => ?_)⟩
  have J := I.write (t' := t) (x := a) (e := a) (o := exo a C none) (by rw [e]; exact True.intro) (.inl rfl) k ⟨_, hx⟩ (exo_ok hx)
  have eu : upd H a (exo a C none) = H := funext fun b => by
    by_cases hb : b = a
    · rw [hb, upd_same, e]
    · exact upd_ne hb
  rw [eu] at J
  exact h _ J
end
end SxK

set_option Elab.async false
set_option linter.all false
set_option maxRecDepth 100000
set_option maxHeartbeats 4000000
namespace SxK
open PySem PySem.Spec PyProof.Rows L2 PySem.Calls
/-- the context of such an __init__ -/
def cxSup (CX : CXT) (P : Program) (w : World) (K : PySem.W.Frag) (mg : Str → Option Value) (base : Heap) (N : List Str) (q : Str) (scope : Scope) (f cda cc : Addr) (A : Around) (outer : List Env) (s : Shared) (H : Hp) (E : XK) : Cx :=
  { prog := P, w := w, K := K, mg := mg, base := base, A := A.deeper (PySem.W.ksEnv q scope s.heap.objs.size f (.ref cda) cc), N := N, s_0 := s, H_0 := H, env := PySem.W.ksEnv q scope s.heap.objs.size f (.ref cda) cc, outer := outer,
    stack := PySem.W.ksEnv q scope s.heap.objs.size f (.ref cda) cc :: outer, ex := [], calm := true, fn := fun x => !(x == ("__class__" : Str)), pn := [],
    xe := fun e s' => wpAny (model P w) (A.deeper (PySem.W.ksEnv q scope s.heap.objs.size f (.ref cda) cc)) (leaving (PySem.W.ksEnv q scope s.heap.objs.size f (.ref cda) cc) e) (fun _ s'' => CX outer H s E e s'') (fun e' s'' => CX outer H s E e' s'') s' }
structure ScSup (scope : Scope) (ps : List Str) : Prop where
  kind : scope.kind = .function
  co : scope.isCoroutine = false
  gen : scope.isGenerator = false
  nd : ps.Nodup
  par : ∀ x ∈ ps, scope.names.lookup x = some .local
  nocell : ∀ y ∈ scope.names, y.2 ≠ .cell
  fre : ∀ y ∈ scope.names, y.2 = .free → y.1 = ("__class__" : Str)
  ks : scope.names.lookup ("super" : Str) = some .globalImplicit
  kc : scope.names.lookup ("__class__" : Str) = some .free
section
variable {CX : CXT} {P : Program} {w : World} {K : PySem.W.Frag} {mg : Str → Option Value} {base : Heap} {N ps : List Str} {q nm : Str} {scope : Scope} {C fI cda cc a : Addr} {A : Around} {outer : List Env} {s0 s : Shared} {H0 H : Hp} {E : XK}
  {params : Arguments} {body body2 : List Stmt} {fd : FuncData} {σ : L2.St} {p0 p1 p2 p3 p4 : Pos} {arg : Expr} {t : TA} {G : Hp → Prop} {m : Str → Option Value} {ar : Arg} {pl : Sem Bool}
theorem sup_first (S : SupC P K mg C fI cc cda nm q params body scope fd) (Z : ScSup scope ps) (hp : (params.posonlyargs ++ params.args).head? = some ar) (hpa : ar.arg ∈ ps)
    (I : Inv (cxSup CX P w K mg base N q scope fI cda cc A outer s0 H0 E) [] σ H s) (hns : s.heap.Ns s0.heap.objs.size m) (hv : m ar.arg = some (.ref a)) (e : H a = some (exo a C none))
    (ha : PA (cxSup CX P w K mg base N q scope fI cda cc A outer s0 H0 E) [arg] t)
    (hq : t σ H fun vs H1 => vs.length ≤ 1000 ∧ H1 a = some (exo a C none) ∧ G H1)
    (hs : starEach [arg] (PySem.W.ksEnv q scope s0.heap.objs.size fI (.ref cda) cc) = (false, eval arg (PySem.W.ksEnv q scope s0.heap.objs.size fI (.ref cda) cc)) :: starEach [] (PySem.W.ksEnv q scope s0.heap.objs.size fI (.ref cda) cc) := by rfl)
    (hi : interactive (PySem.W.ksEnv q scope s0.heap.objs.size fI (.ref cda) cc) = false := by rfl)
    (hsw : swapsWith (.Call (.Attribute (.Call (.Name "super" p0) [] [] p1) "__init__" p2) [arg] [] p3) none p4.line (PySem.W.ksEnv q scope s0.heap.objs.size fI (.ref cda) cc) = pure false := by rfl)
    (hev : eval (.Call (.Attribute (.Call (.Name "super" p0) [] [] p1) "__init__" p2) [arg] [] p3) (PySem.W.ksEnv q scope s0.heap.objs.size fI (.ref cda) cc) = (do
      let ov ← attributeBase (.Call (.Name "super" p0) [] [] p1) "__init__" (PySem.W.ksEnv q scope s0.heap.objs.size fI (.ref cda) cc) (eval (.Call (.Name "super" p0) [] [] p1) (PySem.W.ksEnv q scope s0.heap.objs.size fI (.ref cda) cc))
      standAt p2.atName
      let (f, first) ← holding [ov] (getMethod ov "__init__" pl)
      callWith p3 f first (backTo p3 (starEach [arg] (PySem.W.ksEnv q scope s0.heap.objs.size fI (.ref cda) cc))) []) := by rfl) :
    PySem.wpAt (model P w) (A.deeper (PySem.W.ksEnv q scope s0.heap.objs.size fI (.ref cda) cc)) (.func body2 (PySem.W.ksEnv q scope s0.heap.objs.size fI (.ref cda) cc))
      (exec (.Expr (.Call (.Attribute (.Call (.Name "super" p0) [] [] p1) "__init__" p2) [arg] [] p3) p4) (PySem.W.ksEnv q scope s0.heap.objs.size fI (.ref cda) cc))
      (fun f s' => f = .next ∧ ∃ H1, Inv (cxSup CX P w K mg base N q scope fI cda cc A outer s0 H0 E) [] σ H1 s' ∧ H1 a = some (exo a C none) ∧ G H1) (cxSup CX P w K mg base N q scope fI cda cc A outer s0 H0 E).xe s := by
  obtain ⟨oc, od, kV, doc, pm, an, ct, osl, efd, hf⟩ := S.fn
  subst efd
  obtain ⟨cl, cd, vs, sl, tf, file, hcode, hvs, hfile⟩ := S.file
  obtain ⟨cl2, cd2, sl2, hcell⟩ := S.cell
  obtain ⟨cn, cq, cN, bs, bm, sn, sub, ab, col, dd, k0, k1, k2, k3, k5, hC, hbm⟩ := S.ex.cls
  obtain ⟨t1, hx⟩ := exo_at I.hok e
  obtain ⟨mb, hb1, hb2⟩ := I.mod.blt
  have KI : K.In s.heap := I.kIn
  have hcd : PySem.W.clsIn K C = some { name := cn, bases := bs, mro := .ref C :: bm, ns := cN, qualname := cq, hasDict := true, slotNames := sn, subclasses := sub, abstract := ab, collection := col, hasDel := false } := by
    unfold PySem.W.clsIn
    rw [hC]
  have hax : a ≠ C := fun z => by
    have h1 := KI _ _ hC
    rw [← z, hx] at h1
    cases h1
  have hm : PySem.W.alongIn K "__init__" (((Value.ref C :: bm).dropWhile (· != .ref C)).drop 1) = some (some (.builtin "ValueError.__init__")) := by
    have h1 := S.ini
    unfold PySem.W.ks_superIn at h1
    rw [hcd] at h1
    exact h1
  refine ks_wpAt_Expr_any (ks_wpAt_MethodCall (ks_wpAt_super_base (env := PySem.W.ksEnv q scope s0.heap.objs.size fI (.ref cda) cc) Z.ks Z.kc (by decide) rfl (KI _ _ hf) rfl hp rfl (KI _ _ hcode) rfl hvs hfile S.top ?_) hev) hi hsw
  refine PySem.W.ks_loadName_global Z.kind Z.ks (loadGlobal_builtin (env := PySem.W.ksEnv q scope s0.heap.objs.size fI (.ref cda) cc) (I.mod.glob.keeps I.bk) S.sup (hb1.keeps I.bk) ((hb2 _ (by decide)).trans (by decide +kernel)) ⟨rfl, ?_⟩)
  refine wpAny_loadName_free Z.kind Z.kc (by rfl) ⟨_, KI _ _ hcell, rfl⟩ (wpAny_loadName_local Z.kind (Z.par _ hpa) hns hv ?_)
  obtain ⟨hh, g, d, tk, os⟩ := s
  refine ks_wpAny_isType_cls (KI _ _ hC) rfl ⟨rfl, ?_⟩
  refine ks_wpAny_call_super (KI _ _ hC) rfl hx rfl (fun c z => by cases z) (PySem.W.looks_mroIn KI S.sub) fun h1 e1 kp1 => ?_
  have K1 : K.In h1 := KI.keeps kp1
  have lx : PySem.W.Looks (model P w) h1 (isInstance (.ref a) (.type "ValueError")) true :=
    PySem.W.Looks.andThen (a := Value.ref C) (fun A Q E s k q => wpAny_typeOf_ref (k _ _ (kp1 _ _ hx)) q) (PySem.W.looks_subIn K1 S.isB)
  refine PySem.W.kxs_getMethod PySem.W.kxs_ValueError e1 (PySem.W.looks_opaque K1 S.opq) (l₀ := .ref C :: bm) ((PySem.W.looks_clsIn K1 hcd).andThen .now) rfl K1 hm lx hax (by decide) ?_
  have kp2 : ∀ b o, hh.get? b = some o → (h1.push (PySem.W.kxs_mw "ValueError.__init__" a)).get? b = some o := fun b o z => Heap.get?_push_of_some _ (kp1 _ _ z)
  have hu : (h1.push (PySem.W.kxs_mw "ValueError.__init__" a)).get? h1.objs.size = some (PySem.W.kxs_mw "ValueError.__init__" a) := Heap.get?_push_size _ rfl
  have I2 : Inv (cxSup CX P w K mg base N q scope fI cda cc A outer s0 H0 E) [] σ H ⟨h1.push (PySem.W.kxs_mw "ValueError.__init__" a), g, d, tk + 1, os⟩ := I.kept (t' := tk + 1) kp2
  have hle : hh.objs.size ≤ h1.objs.size := Nat.le_of_lt (Heap.lt_size e1)
  have I3 : Inv (cxSup CX P w K mg base N q scope fI cda cc A outer s0 H0 E) [(h1.objs.size, PySem.W.kxs_mw "ValueError.__init__" a)] σ H ⟨h1.push (PySem.W.kxs_mw "ValueError.__init__" a), g, d, tk + 1, os⟩ := I2.pins_of fun p hpp => by
    rw [List.mem_singleton.mp hpp]
    exact ⟨hu, I.hok.fresh hle, Nat.ne_of_gt (Nat.lt_of_lt_of_le I.lt hle), I.nofs hle, fun v z => by cases z⟩
  have run := ha.run p3 _ _ σ H _ I3 hq
  show wpAny _ _ (callWith p3 (.ref h1.objs.size) [] (backTo p3 (starEach [arg] (PySem.W.ksEnv q scope s0.heap.objs.size fI (.ref cda) cc))) []) _ _ _
  have run2 : wpAny (model P w) (A.deeper (PySem.W.ksEnv q scope s0.heap.objs.size fI (.ref cda) cc)) (spliced (backTo p3 (starEach [arg] (PySem.W.ksEnv q scope s0.heap.objs.size fI (.ref cda) cc)))) _ _ _ := run
  rw [hs] at run2 ⊢
  refine PySem.W.kxs_callWith (i := "ValueError.__init__") (x := a) rfl (evalArgs_plain (thn run2 fun us s4 h4 => ?_))
  obtain ⟨vs4, H4, I4, r4, l4, e4, q4⟩ := h4
  have hu4 := (I4.pin _ (List.mem_append_right _ List.mem_cons_self)).1
  refine ⟨hu4, mw_call (X := cxSup CX P w K mg base N q scope fI cda cc A outer s0 H0 E) S.ex I4 e4 hu4 (by rw [List.nil_append, ← r4.length, sizeLine_eq]; omega) fun s5 J5 => ?_⟩
  exact ⟨rfl, H4, J5.pins_of (pins' := []) (fun p hpp => absurd hpp (List.not_mem_nil)), e4, q4⟩
end
end SxK

set_option Elab.async false
set_option linter.all false
set_option maxRecDepth 100000
set_option maxHeartbeats 4000000
namespace SxK
open PySem PySem.Spec PyProof.Rows L2 PySem.Calls
theorem look_rev : ∀ (ps : List Str) (us : List Value) (i : Nat) (x : Str) (u : Value), ps.Nodup → ps[i]? = some x → us[i]? = some u → (ps.zip us).reverse.lookup x = some u
  | [], _, _, _, _, _, h, _ => by simp at h
  | _ :: _, [], _, _, _, _, _, h => by simp at h
  | p :: ps, v :: us, i, x, u, nd, h1, h2 => by
    obtain ⟨n1, n2⟩ := List.nodup_cons.mp nd
    rw [List.zip_cons_cons, List.reverse_cons, List.lookup_append]
    cases i with
    | zero =>
      have e1 : p = x := by simpa using h1
      have e2 : v = u := by simpa using h2
      subst e1 e2
      have e3 : (ps.zip us).reverse.lookup p = none := by
        rw [List.lookup_eq_none_iff]
        intro q hq
        have h3 := (List.of_mem_zip (List.mem_reverse.mp hq : (q.1, q.2) ∈ ps.zip us)).1
        have h4 : p ≠ q.1 := fun z => n1 (by rw [z]; exact h3)
        simpa using h4
      rw [e3]
      simp [List.lookup]
    | succ i => rw [look_rev ps us i x u n2 (by simpa using h1) (by simpa using h2)]; rfl
section
variable {CX : CXT} {P : Program} {w : World} {K : PySem.W.Frag} {mg : Str → Option Value} {base : Heap} {ps : List Str} {q nm : Str} {scope : Scope} {C fI cda cc : Addr}
  {params : Arguments} {rest : List Stmt} {fd : FuncData} {p0 p1 p2 p3 p4 : Pos} {arg : Expr} {ar : Arg} {pl : Sem Bool} {sp : Sp} {k : Nat}
theorem sup_start {body : List Stmt} {A : Around} {outer : List Env} {s : Shared} {H : Hp} {E : XK} {us : List Value} {vs : List V} {h0 : Heap} {tk : Nat} (S : SupC P K mg C fI cc cda nm q params body scope fd) (Z : ScSup scope ps)
    (hd : A.handled = none) (e0 : Env0 P w K mg base A outer s H) (hl : vs.length = ps.length) (r : Vals vs us) (hns : h0.Ns s.heap.objs.size (fun x => (ps.zip us).reverse.lookup x)) (hk : ∀ b o, s.heap.get? b = some o → h0.get? b = some o) :
    Inv (cxSup CX P w K mg base ps q scope fI cda cc A outer s H E) [] (start ps vs) H { s with heap := h0, toks := tk } := by
  obtain ⟨cl2, cd2, sl2, hcell⟩ := S.cell
  have hc0 := e0.bs _ _ (e0.mod.kin _ _ hcell)
  have none_in : ∀ b : Addr, b ∉ (cxSup CX P w K mg base ps q scope fI cda cc A outer s H E).ex := fun b z => absurd (show b ∈ ([] : List Addr) from z) List.not_mem_nil
  have cells : ∀ y c, (cxSup CX P w K mg base ps q scope fI cda cc A outer s H E).env.cells.lookup y = some c → y = ("__class__" : Str) ∧ c = cc := fun y c z => by
    have z1 : List.lookup y [(("__class__" : Str), cc)] = some c := z
    by_cases hy : y = ("__class__" : Str)
    · subst hy
      have z2 : List.lookup ("__class__" : Str) [(("__class__" : Str), cc)] = some cc := by simp [List.lookup]
      rw [z2] at z1
      exact ⟨rfl, (Option.some.inj z1).symm⟩
    · have q1 : (y == ("__class__" : Str)) = false := by simpa using hy
      simp [List.lookup, q1] at z1
  have upto : ∀ i v, (start ps vs)[i]? = some (some v) → vs[i]? = some v := fun i v z => by
    unfold L2.start at z
    rw [hl, Nat.sub_self, List.replicate_zero, List.append_nil, List.getElem?_map] at z
    cases n : vs[i]? with
    | none => rw [n] at z; cases z
    | some a => rw [n] at z; cases z; rfl
  refine ⟨⟨e0.mod, Z.kind, rfl, rfl, Nat.le_refl _, fun y z c h1 h2 => by rw [(cells _ _ h1).1, (cells _ _ h2).1], fun y hy => ?_, fun y c h1 h2 => ?_, fun _ => hd, Around.frames_deeper e0.frames, .inr ⟨rfl, rfl⟩, fun b z => absurd z (none_in b), e0.bs, e0.bsz, fun b _ _ => none_in b,
      fun b z => absurd z (none_in b), e0.funs, e0.frf⟩, rfl, e0.bare, Un.kept hk, ⟨_, hns, fun i y v h1 h2 h3 => ?_⟩, fun y c h => ?_, e0.hok.fresh (Nat.le_refl _), fun y c h => ?_, fun p hp => absurd (show p ∈ ([] : List (Addr × Obj)) from hp) List.not_mem_nil, e0.hok.kept hk, ?_⟩
  · have hy' : scope.names.lookup y = some .cell ∨ scope.names.lookup y = some .free := hy
    rcases hy' with z | z
    · exact absurd rfl (Z.nocell _ (PySem.mem_of_lookup z))
    · have e1 := Z.fre _ (PySem.mem_of_lookup z) rfl
      have e2 : y = ("__class__" : Str) := e1
      subst e2
      exact ⟨cc, by show List.lookup ("__class__" : Str) [(("__class__" : Str), cc)] = some cc; simp [List.lookup]⟩
  · have h1' : (!(y == ("__class__" : Str))) = true := h1
    rw [(cells _ _ h2).1] at h1'
    simp at h1'
  · obtain ⟨u, hu, rv⟩ := r.get (upto i v h2)
    exact ⟨u, rv, .inl ⟨Z.par y (List.mem_of_getElem? h1), look_rev ps us i y u Z.nd h1 hu⟩⟩
  · rw [(cells _ _ h).2]
    exact ⟨_, _, hk _ _ hc0.1, rfl⟩
  · rw [(cells _ _ h).2]
    exact hc0.2
  · unfold L2.start
    show _ = ps.length
    rw [List.length_append, List.length_map, List.length_replicate]
    omega
theorem fn_sup (S : SupC P K mg C fI cc cda nm q params (.Expr (.Call (.Attribute (.Call (.Name "super" p0) [] [] p1) "__init__" p2) [arg] [] p3) p4 :: rest) scope fd) (Z : ScSup scope ps)
    (hp : (params.posonlyargs ++ params.args).head? = some ar) (hps : ps[0]? = some ar.arg) (len : ∀ vs H Q E, sp vs H Q E → vs.length = ps.length)
    (body : ∀ (A : Around) (outer : List Env) (s : Shared) (H : Hp) (vs : List V) (Q : VK) (E : XK), Room k (A.deeper (PySem.W.ksEnv q scope s.heap.objs.size fI (.ref cda) cc)) → sp vs H Q E →
      ∃ (t : TA) (t2 : TS) (a : Addr) (vr : List V), PA (cxSup CX P w K mg base ps q scope fI cda cc A outer s H E) [arg] t ∧ PSs (cxSup CX P w K mg base ps q scope fI cda cc A outer s H E) rest t2 ∧ vs = .ref a :: vr ∧ H a = some (exo a C none) ∧
        t (start ps vs) H fun us H1 => us.length ≤ 1000 ∧ H1 a = some (exo a C none) ∧ t2 { nx := fun _ H' => Q .non H', rt := Q } (start ps vs) H1)
    (hs : ∀ L, starEach [arg] (PySem.W.ksEnv q scope L fI (.ref cda) cc) = (false, eval arg (PySem.W.ksEnv q scope L fI (.ref cda) cc)) :: starEach [] (PySem.W.ksEnv q scope L fI (.ref cda) cc))
    (hi : ∀ L, interactive (PySem.W.ksEnv q scope L fI (.ref cda) cc) = false)
    (hsw : ∀ L, swapsWith (.Call (.Attribute (.Call (.Name "super" p0) [] [] p1) "__init__" p2) [arg] [] p3) none p4.line (PySem.W.ksEnv q scope L fI (.ref cda) cc) = pure false)
    (hev : ∀ L, eval (.Call (.Attribute (.Call (.Name "super" p0) [] [] p1) "__init__" p2) [arg] [] p3) (PySem.W.ksEnv q scope L fI (.ref cda) cc) = (do
      let ov ← attributeBase (.Call (.Name "super" p0) [] [] p1) "__init__" (PySem.W.ksEnv q scope L fI (.ref cda) cc) (eval (.Call (.Name "super" p0) [] [] p1) (PySem.W.ksEnv q scope L fI (.ref cda) cc))
      standAt p2.atName
      let (f, first) ← holding [ov] (getMethod ov "__init__" pl)
      callWith p3 f first (backTo p3 (starEach [arg] (PySem.W.ksEnv q scope L fI (.ref cda) cc))) [])) : FnOk P w K mg base CX (k + 1) fI fd ps sp := by
  refine ⟨len, fun A outer s H args us vs Q E hr e0 hb r hsp => ?_⟩
  have hl := len _ _ _ _ hsp
  obtain ⟨t, t2, a, vr, ha, hr2, evs, he, hq⟩ := body A outer s H vs Q E (hr.deeper _) hsp
  have KX : K.In s.heap := e0.mod.kin.keeps fun b o e => (e0.bs b o e).1
  have lim : s.heap.NoLimit := e0.mod.nolimit.keeps fun b o e => (e0.bs b o e).1
  obtain ⟨u0, hu0, ru0⟩ := r.get (i := 0) (x := V.ref a) (by rw [evs]; rfl)
  obtain rfl : u0 = Value.ref a := ru0
  obtain ⟨oc, od, kV, doc, pm, an, ct, osl, efd, hf⟩ := id S.fn
  refine ks_codeAny_call_defAt (fd := fd) (body := .Expr (.Call (.Attribute (.Call (.Name "super" p0) [] [] p1) "__init__" p2) [arg] [] p3) p4 :: rest) (binds := ps.zip us) hr.depth (KX _ _ hf) rfl lim
    (by rw [efd]; exact PySem.W.codeRec_of KX S.cod) (by rw [efd]) hb (by rw [efd]; exact Z.nocell) (by rw [efd]; exact fun y hy => Z.par _ (List.of_mem_zip (show (y.1, y.2) ∈ ps.zip us from hy)).1) (fun h0 hns hk => ?_) (by rw [efd]; exact Z.co) (by rw [efd]; exact Z.gen) (by rw [efd]; exact Z.kind)
  have I : Inv (cxSup CX P w K mg base ps q scope fI cda cc A outer s H E) [] (start ps vs) H { s with heap := h0, toks := s.toks + (ps.zip us).length } := sup_start S Z hr.hd e0 hl r hns hk
  have ee : callEnv fd s.heap.objs.size fI = PySem.W.ksEnv q scope s.heap.objs.size fI (.ref cda) cc := by rw [efd]; rfl
  rw [ee]
  refine ks_wpAt_execs_cons (ks_wpAt_mono (sup_first S Z hp (List.mem_of_getElem? hps) I hns (look_rev ps us 0 _ _ Z.nd hps hu0) he ha hq (hs _) (hi _) (hsw _) (hev _)) (fun f s1 h1 => ?_) fun e s1 h1 => h1)
  obtain ⟨rfl, H1, I1, e1, q1⟩ := h1
  refine wpAt_of_wpAny (wpAny_mono (hr2.run [] s1 (start ps vs) H1 _ I1 q1) (fun fl s2 h2 => ?_) fun e s2 h2 => h2)
  cases fl with
  | ret u =>
    obtain ⟨v, σ', H', J, rv, z⟩ := h2
    exact ⟨v, H', J.os, J.bare, J.base, J.hok, rv, z⟩
  | next =>
    obtain ⟨σ', H', J, z⟩ := h2
    exact ⟨V.non, H', J.os, J.bare, J.base, J.hok, rfl, z⟩
  | brk => obtain ⟨_, _, _, z⟩ := h2; exact z.elim
  | cont => obtain ⟨_, _, _, z⟩ := h2; exact z.elim
end
end SxK

set_option Elab.async false
set_option linter.all false
set_option maxRecDepth 100000
set_option maxHeartbeats 2000000
namespace SxK
open PySem PySem.Spec PyProof.Rows L2
/-! ### facts of own exceptions, read at the head -/
def oexB (K : PySem.W.Frag) (C : Addr) : Bool := match K.lookup C with
  | some ⟨.type "type", _, .cls cd, sl⟩ => (match cd.mro, sl.toList with
    | .ref C' :: bm, [_, _, _, _, some (.builtin n), _] => decide (C' = C) && (decide (n = "ValueError.__new__") && (!cd.hasDel && (cd.hasDict && PySem.HandSPX.refsVE bm)))
    | _, _ => false)
  | _ => false
theorem oexB_ok {K : PySem.W.Frag} {C : Addr} (h : oexB K C = true) :
    ∃ nm q N bs bm sn sub ab col dd k0 k1 k2 k3 k5, K.lookup C = some (excClassObj nm q C N bs bm true sn sub ab col dd k0 k1 k2 k3 k5 "ValueError.__new__") ∧ PySem.HandSPX.refsVE bm = true := by
  unfold oexB at h
  split at h
  · rename_i dd cd sl ho
    split at h
    · rename_i C' bm k0 k1 k2 k3 n k5 hm hs
      obtain ⟨nm, bs, mro, ns, qn, hd, sn, sb, ab, col, del⟩ := cd
      obtain ⟨l⟩ := sl
      have hs' : l = [k0, k1, k2, k3, some (.builtin n), k5] := hs
      have hm' : mro = .ref C' :: bm := hm
      subst hs' hm'
      obtain ⟨h1, h⟩ := Bool.and_eq_true_iff.mp h
      obtain ⟨h2, h⟩ := Bool.and_eq_true_iff.mp h
      obtain ⟨h3, h⟩ := Bool.and_eq_true_iff.mp h
      obtain ⟨h4, h5⟩ := Bool.and_eq_true_iff.mp h
      have h1' := of_decide_eq_true h1
      have h2' := of_decide_eq_true h2
      have h3' : del = false := by simpa using h3
      have h4' : hd = true := h4
      subst h1' h2' h3' h4'
      exact ⟨_, _, _, _, _, _, _, _, _, _, _, _, _, _, _, ho, h5⟩
    · cases h
  · cases h
abbrev FnS : Type := Option (Str × Str × Arguments × FuncBody × Scope × Addr × Addr)
/-- one such class: its name, its __init__ -/
structure SupD where
  cls : Str
  qual : Str
  params : Arguments
  body : List Stmt
  scope : Scope
  file : Str
  ats : List Str
  no : List Str
def SupD.I (K : PySem.W.Frag) (d : SupD) : Addr := He.ma K (He.ga K d.cls) "__init__"
def SupD.obs (K : PySem.W.Frag) (d : SupD) : FnS := match K.lookup (d.I K) with
  | some ⟨_, _, .func fd, _⟩ => some (fd.name, fd.qualname, fd.params, fd.body, fd.scope, fd.globals, fd.builtins)
  | _ => none
def SupD.val (d : SupD) : FnS := some ("__init__", d.qual, d.params, .stmts d.body, d.scope, mainGlobals, builtinsNs)
def SupD.fnB (K : PySem.W.Frag) (d : SupD) : Bool := match K.lookup (d.I K) with
  | some ⟨_, _, .func fd, _⟩ => (match fd.defaults, fd.code, fd.closure with
    | .none, .ref cda, [(n, cc)] => decide (n = "__class__") && (PySem.W.codeIn K (.ref cda) d.qual && ((match K.lookup cda with
        | some ⟨_, _, .fields vs, _⟩ => (match vs[2]? with
          | some (Value.str f _) => decide (f = d.file)
          | _ => false)
        | _ => false) && (match K.lookup cc with
        | some ⟨_, _, .cell (some (.ref D)), _⟩ => decide (D = He.ga K d.cls)
        | _ => false)))
    | _, _, _ => false)
  | _ => false
def SupD.ok (K : PySem.W.Frag) (d : SupD) : Bool :=
  oexB K (He.ga K d.cls) && (xfB K (He.ga K d.cls) && (d.fnB K && (He.eqO (PySem.W.findIn K (.ref (He.ga K d.cls)) "__setattr__") (some (some (.builtin "object.__setattr__"))) && (
  decide (PySem.W.subIn K (.ref (He.ga K d.cls)) (.type "BaseException") = some true) && (decide (PySem.W.typeIn K (.ref (He.ga K d.cls)) = some (.type "type")) && (PySem.W.keepIn K (.ref (He.ga K d.cls)) && (
  He.eqO (PySem.W.nsIn K cStatics "thirdparty.any") (some none) && (He.eqO (PySem.W.ks_superIn K (He.ga K d.cls) (He.ga K d.cls) "__init__") (some (some (.builtin "ValueError.__init__"))) && (
  decide (PySem.W.mroIn K (He.ga K d.cls) (.ref (He.ga K d.cls)) = some true) && (decide (PySem.W.subIn K (.ref (He.ga K d.cls)) (.type "ValueError") = some true) && (He.eqO (PySem.W.nsIn K mainGlobals "super") (some none) && (
  He.eqO (PySem.W.findIn K (.ref (He.ga K d.cls)) "__init__") (some (some (.ref (d.I K)))) && (decide (PySem.W.typeIn K (.ref (d.I K)) = some (.type "function")) && (He.eqO (PySem.W.nsIn K mainGlobals d.cls) (some (some (.ref (He.ga K d.cls)))) && (
  decide (PySem.W.exmOne K (.ref (He.ga K d.cls)) (.ref (He.ga K d.cls)) = some true) &&
  ((d.no.all fun c => decide (PySem.W.exmOne K (.ref (He.ga K d.cls)) (.ref (He.ga K c)) = some false)) && d.ats.all fun f => He.eqO (PySem.W.findIn K (.ref (He.ga K d.cls)) f) (some none)))))))))))))))))
/-- what is known of such a class -/
structure ErrC (P : Program) (K : PySem.W.Frag) (mg : Str → Option Value) (d : SupD) : Prop where
  sup : ∃ cc cda fd, SupC P K mg (He.ga K d.cls) (d.I K) cc cda "__init__" d.qual d.params d.body d.scope fd
  xf : XfC K (He.ga K d.cls)
  glob : mg d.cls = some (.ref (He.ga K d.cls))
  exm : PySem.W.exmOne K (.ref (He.ga K d.cls)) (.ref (He.ga K d.cls)) = some true
  ats : ∀ f ∈ d.ats, PySem.W.findIn K (.ref (He.ga K d.cls)) f = some none
  no : ∀ c ∈ d.no, PySem.W.exmOne K (.ref (He.ga K d.cls)) (.ref (He.ga K c)) = some false
theorem SupD.err {P : Program} {K : PySem.W.Frag} {mg : Str → Option Value} {d : SupD} {h : Heap} (X : K.In h) (G : h.Ns mainGlobals mg) (e : d.obs K = d.val) (c : d.ok K = true) (hfile : P.main.file = d.file)
    (htop : (P.main.scope.names.lookup ("super" : Str)).isSome = false) : ErrC P K mg d := by
  unfold SupD.ok at c
  obtain ⟨c1, c⟩ := He.ba c
  obtain ⟨c2, c⟩ := He.ba c
  obtain ⟨c3, c⟩ := He.ba c
  obtain ⟨c4, c⟩ := He.ba c
  obtain ⟨c5, c⟩ := He.ba c
  obtain ⟨c6, c⟩ := He.ba c
  obtain ⟨c7, c⟩ := He.ba c
  obtain ⟨c8, c⟩ := He.ba c
  obtain ⟨c9, c⟩ := He.ba c
  obtain ⟨c10, c⟩ := He.ba c
  obtain ⟨c11, c⟩ := He.ba c
  obtain ⟨c12, c⟩ := He.ba c
  obtain ⟨c13, c⟩ := He.ba c
  obtain ⟨c14, c⟩ := He.ba c
  obtain ⟨c15, c⟩ := He.ba c
  obtain ⟨c16, c⟩ := He.ba c
  obtain ⟨c18, c17⟩ := He.ba c
  refine ⟨?_, xfB_ok c2, PySem.W.mg_of X G (He.eqO_ok c15), of_decide_eq_true c16, fun f hf => He.eqO_ok (List.all_eq_true.mp c17 f hf), fun c hc => of_decide_eq_true (List.all_eq_true.mp c18 c hc)⟩
  have ex : OexC K (He.ga K d.cls) := ⟨oexB_ok c1, He.eqO_ok c4, of_decide_eq_true c5, of_decide_eq_true c6, c7⟩
  unfold SupD.fnB at c3
  unfold SupD.obs at e
  split at c3
  · rename_i o1 o2 fd o3 ho
    rw [ho] at e
    split at c3
    · rename_i cda n cc e1 e2 e3
      obtain ⟨d1, c3⟩ := He.ba c3
      obtain ⟨d2, c3⟩ := He.ba c3
      obtain ⟨d3, d4⟩ := He.ba c3
      obtain ⟨n1, n2, n3, n4, n5, n6, n7, n8, n9, n10, n11, n12, n13, n14, n15⟩ := fd
      have e4 : (some (n1, n2, n3, n4, n5, n6, n15) : FnS) = (some ("__init__", d.qual, d.params, .stmts d.body, d.scope, mainGlobals, builtinsNs) : FnS) := e
      simp only [Option.some.injEq, Prod.mk.injEq] at e4
      obtain ⟨h1, h2, h3, h4, h5, h6, h7⟩ := e4
      have e1' : n8 = .none := e1
      have e2' : n13 = .ref cda := e2
      have e3' : n7 = [(n, cc)] := e3
      have d1' := of_decide_eq_true d1
      subst h1 h2 h3 h4 h5 h6 h7 e1' e2' e3' d1'
      refine ⟨cc, cda, _, ex, ⟨_, _, _, _, _, _, _, _, rfl, ho⟩, d2, ?_, ?_, He.eqO_ok c8, He.eqO_ok c9, of_decide_eq_true c10, of_decide_eq_true c11, PySem.W.mg_none_of X G (He.eqO_ok c12), htop, He.eqO_ok c13, of_decide_eq_true c14⟩
      · split at d3
        · rename_i a1 a2 vs a3 ha
          split at d3
          · rename_i f t hv
            exact ⟨_, _, _, _, t, f, ha, hv, by rw [hfile, of_decide_eq_true d3]; simp⟩
          · cases d3
        · cases d3
      · split at d4
        · rename_i a1 a2 D a3 ha
          have eD := of_decide_eq_true d4
          subst eD
          exact ⟨_, _, _, ha⟩
        · cases d4
    · cases c3
  · cases c3
/-! ### the Hook with such classes -/
abbrev AlX : Type := He.AlD × (Bool × List FnS)
def obsX (fa : List He.Fa) (fn : List He.DefD) (xs : List SupD) (K : PySem.W.Frag) : AlX := (He.obsD fa fn K, xs.all fun d => d.ok K, xs.map fun d => d.obs K)
def valX (fn : List He.DefD) (xs : List SupD) : AlX := (He.valD fn, true, xs.map SupD.val)
def SaysX (fa : List He.Fa) (fn : List He.DefD) (xs : List SupD) (K : PySem.W.Frag) : Prop := obsX fa fn xs K = valX fn xs
def obsXG (n : Nat) (fa : List He.Fa) (fn : List He.DefD) (xs : List SupD) (g : Addr → Option Obj) : AlX := obsX fa fn xs (He.frG g (He.asD g n ++ [cStatics]))
def hookX (n : Nat) (fa : List He.Fa) (fn : List He.DefD) (xs : List SupD) : PySem.W.Hook where
  α := AlX
  obs := fun s => obsXG n fa fn xs s.heap.get?
  val := fun _ => valX fn xs
  says := fun _ h => ∃ K : PySem.W.Frag, K.In h ∧ SaysX fa fn xs K
  of := fun _ _ e => ⟨_, He.frG_in, e⟩
  keeps := fun _ _ _ ⟨K, hK, c⟩ k => ⟨K, PySem.W.Frag.In.keeps hK k, c⟩
theorem obsXG_eq {n : Nat} {fa : List He.Fa} {fn : List He.DefD} {xs : List SupD} {g : Addr → Option Obj} {s : Shared} (h : ∀ a, g a = s.heap.get? a) : obsXG n fa fn xs g = (hookX n fa fn xs).obs s := by
  have e : g = s.heap.get? := funext h
  rw [e] <;> rfl
section
variable {fa : List He.Fa} {fn : List He.DefD} {xs : List SupD} {K : PySem.W.Frag}
theorem SaysX.d (c : SaysX fa fn xs K) : He.SaysD fa fn K := congrArg (fun z : AlX => z.1) c
theorem SaysX.sup (c : SaysX fa fn xs K) (i : Nat) {d : SupD} (h : xs[i]? = some d := by rfl) : d.obs K = d.val ∧ d.ok K = true := by
  have c1 : (xs.all fun d => d.ok K) = true := congrArg (fun z : AlX => z.2.1) c
  have c2 : xs.map (fun d => d.obs K) = xs.map SupD.val := congrArg (fun z : AlX => z.2.2) c
  have e2 : (xs.map fun d => d.obs K)[i]? = (xs.map SupD.val)[i]? := by rw [c2]
  rw [List.getElem?_map, List.getElem?_map, h] at e2
  exact ⟨Option.some.inj e2, List.all_eq_true.mp c1 d (List.mem_of_getElem? h)⟩
end
end SxK

set_option Elab.async false
set_option linter.all false
set_option maxRecDepth 100000
set_option maxHeartbeats 2000000
namespace Sx
open PySem PySem.Spec PyProof.Rows L2 SxA SxK
/-! ### defs and methods that may raise -/
def OkX (P : Program) (w : World) (K : PySem.W.Frag) (mg : Str → Option Value) (base : Heap) (k : Nat) (x : Str) (ps : List Str) (sp : Sp) : Prop :=
  ∃ fd, FnOk P w K mg base (L2.CX P w) k (He.ga K x) fd ps sp ∧ Binds K fd ps [] ∧ PySem.W.keepIn K (.ref (He.ga K x)) = true ∧ mg x = some (.ref (He.ga K x))
def MetX (P : Program) (w : World) (K : PySem.W.Frag) (mg : Str → Option Value) (base : Heap) (k : Nat) (C m : Str) (ps : List Str) (sp : Sp) : Prop :=
  ∃ fd, FnOk P w K mg base (L2.CX P w) k (He.ma K (He.ga K C) m) fd ps sp ∧ Binds K fd ps []
section
variable {P : Program} {w : World} {K : PySem.W.Frag} {mg : Str → Option Value} {base : Heap}
theorem mkOkX {x : Str} {st : Stmt} {N ps : List Str} {k : Nat} {sp : Sp} (d : Fd K x st) (hx : mg x = some (.ref (He.ga K x))) (S : FnScope N ps (defScope st)) (len : ∀ vs H Q E, sp vs H Q E → vs.length = ps.length)
    (bnd : ∀ (kV doc pm : Value) (an : Option Addr) (cdv ct : Value) (us : List Value), us.length = ps.length → bindArgs (PySem.W.fnOf x x (defArgs st) (defBody st) (defScope st) .none kV doc pm an cdv ct) ⟨us, []⟩ = pure (ps.zip us))
    (body : ∀ (cdv : Value) (A : Around) (outer : List Env) (s : Shared) (H0 : Hp) (vs : List V) (Q : VK) (E : XK), Room k (A.deeper (envOfC x (defScope st) s.heap.objs.size (He.ga K x) cdv)) → sp vs H0 Q E →
      ∃ t, PSs (cxOf (L2.CX P w) P w K mg base N x (defScope st) (He.ga K x) cdv A outer s H0 E) (defBody st) t ∧ t { nx := fun _ H' => Q .non H', rt := Q } (start N vs) H0) : OkX P w K mg base (k + 1) x ps sp := by
  obtain ⟨fd, F⟩ := d
  exact ⟨fd, F.ok S len body, F.bindsN bnd, F.kp, hx⟩
theorem pe_okX {X : Cx} {W : WX} {k : Nat} {x : Str} {ps : List Str} {sp : Sp} {p pos : Pos} {e : Expr} {es : List Expr} {t : TA} (o : OkX X.prog X.w X.K X.mg X.base k x ps sp) (hr : Room k X.A) (hg : Gl X x) (tk : Takes X W) (ha : PA X (e :: es) t)
    (hdb : (x == ("__debug__" : Str)) = false := by decide) (hs : starEach (e :: es) X.env = (false, eval e X.env) :: starEach es X.env := by rfl) (hpl : ((backTo pos (starEach es X.env)).any (·.1)) = false := by rfl) :
    PE X (.Call (.Name x p) (e :: es) [] pos) (tCallS sp (WE W) t) := by
  obtain ⟨fd, F, b, kp, hm⟩ := o
  exact pe_callS F hr hg hm kp b (fun σ => passAt tk σ) ha hdb hs hpl
theorem mkMetX {C m qual : Str} {st : Stmt} {N ps : List Str} {k : Nat} {sp : Sp} (d : ∃ fd, FunD K m qual (defArgs st) (defBody st) (defScope st) [] [] (He.ma K (He.ga K C) m) fd) (S : FnScope N ps (defScope st)) (len : ∀ vs H Q E, sp vs H Q E → vs.length = ps.length)
    (bnd : ∀ (kV doc pm : Value) (an : Option Addr) (cdv ct : Value) (us : List Value), us.length = ps.length → bindArgs (PySem.W.fnOf m qual (defArgs st) (defBody st) (defScope st) .none kV doc pm an cdv ct) ⟨us, []⟩ = pure (ps.zip us))
    (body : ∀ (cdv : Value) (A : Around) (outer : List Env) (s : Shared) (H0 : Hp) (vs : List V) (Q : VK) (E : XK), Room k (A.deeper (envOfC qual (defScope st) s.heap.objs.size (He.ma K (He.ga K C) m) cdv)) → sp vs H0 Q E →
      ∃ t, PSs (cxOf (L2.CX P w) P w K mg base N qual (defScope st) (He.ma K (He.ga K C) m) cdv A outer s H0 E) (defBody st) t ∧ t { nx := fun _ H' => Q .non H', rt := Q } (start N vs) H0) : MetX P w K mg base (k + 1) C m ps sp := by
  obtain ⟨fd, F⟩ := d
  exact ⟨fd, F.ok S len body, F.bindsN bnd⟩
theorem pe_metX {X : Cx} {E : XK} {k : Nat} {C m : Str} {ps : List Str} {sp : Sp} {apos pos : Pos} {o e : Expr} {es : List Expr} {ta : TE} {t : TA} {pl : Sem Bool} (M : MetX X.prog X.w X.K X.mg X.base k C m ps sp) (c : Cls X.K (He.ga X.K C)) (hm : Meth X.K (He.ga X.K C) m (He.ma X.K (He.ga X.K C) m))
    (hr : Room k X.A) (hx : Passes (L2.CX X.prog X.w) X E) (he : PE X o ta) (ha : PA X (e :: es) t)
    (hst : starEach (e :: es) X.env = (false, eval e X.env) :: starEach es X.env := by rfl) (hpl : (backTo pos (starEach es X.env)).any (·.1) = false := by rfl)
    (ht : eval (.Call (.Attribute o m apos) (e :: es) [] pos) X.env = (do
      let ov ← eval o X.env
      standAt apos.atName
      let (f, first) ← holding [ov] (getMethod ov m pl)
      callWith pos f first (backTo pos (starEach (e :: es) X.env)) (backToKw pos (keywordEach [] X.env))) := by rfl) :
    PE X (.Call (.Attribute o m apos) (e :: es) [] pos) (tMeth (He.ga X.K C) m sp [] E ta t) := by
  obtain ⟨fd, F, b⟩ := M
  exact pe_meth he c hm F hr b .nil hx ha hst hpl ht
theorem pe_metX0 {X : Cx} {E : XK} {k : Nat} {C m : Str} {ps : List Str} {sp : Sp} {apos pos : Pos} {o : Expr} {ta : TE} {pl : Sem Bool} (M : MetX X.prog X.w X.K X.mg X.base k C m ps sp) (c : Cls X.K (He.ga X.K C)) (hm : Meth X.K (He.ga X.K C) m (He.ma X.K (He.ga X.K C) m))
    (hr : Room k X.A) (hx : Passes (L2.CX X.prog X.w) X E) (he : PE X o ta)
    (ht : eval (.Call (.Attribute o m apos) [] [] pos) X.env = (do
      let ov ← eval o X.env
      standAt apos.atName
      let (f, first) ← holding [ov] (getMethod ov m pl)
      callWith pos f first (backTo pos (starEach [] X.env)) (backToKw pos (keywordEach [] X.env))) := by rfl) :
    PE X (.Call (.Attribute o m apos) [] [] pos) (tMeth (He.ga X.K C) m sp [] E ta tNil) := by
  obtain ⟨fd, F, b⟩ := M
  exact pe_meth0 he c hm F hr b .nil hx ht
/-! ### an exception with one int, told by an f-string -/
def spXInt (K : PySem.W.Frag) (C f : Str) : Sp := fun vs H Q _ => ∃ (a : Addr) (l : Int), vs = [.ref a, .int l] ∧ H a = some (exo a (He.ga K C) none) ∧ (0 ≤ l ∧ l < 10 ^ 10) ∧
  ∀ H1 d, Same H H1 → H1 d = none → d ≠ a → Q .non (upd (upd H1 a (exo a (He.ga K C) (some d))) d (exd d [(f, .int l)]))
theorem lg10 {l : Int} (h0 : 0 ≤ l) (h : l < 10 ^ 10) : l.natAbs.log2 < 1920 := by
  by_cases n : l.natAbs = 0
  · rw [n]; decide
  · exact (Nat.log2_lt n).mpr (Nat.lt_of_lt_of_le (show l.natAbs < 10 ^ 10 by omega) (by decide))
/-- what such an error lets be known -/
def ErI (K : PySem.W.Frag) (C f : Str) (E : XK) (H : Hp) (l : Int) : Prop := ∀ d H', Same H H' → H' d = some (.xd [(f, .int l)]) → E (.ref (He.ga K C)) (some d) H'
theorem ErI.same {C f : Str} {E : XK} {H H2 : Hp} {l : Int} (e : ErI K C f E H l) (s : Same H H2) : ErI K C f E H2 l := fun d H' s2 h => e d H' (s.trans s2) h
theorem mk_errI {C f : Str} {H : Hp} {l : Int} {Q : XK} (hl : 0 ≤ l ∧ l < 10 ^ 10) (q : ErI K C f Q H l) :
    [V.int l].length ≤ 1000 ∧ ∀ a, H a = none → spXInt K C f (.ref a :: ([V.int l] ++ [])) (upd H a (exo a (He.ga K C) none))
      (fun v H2 => v = .non ∧ ∃ (d : Addr) (fs : List (Str × V)), H2 a = some (exo a (He.ga K C) (some d)) ∧ H2 d = some (exd d fs) ∧ H d = none ∧ Q (.ref (He.ga K C)) (some d) (upd (del H2 a) d (.xd fs))) (fun _ _ _ => False) := by
  refine ⟨(by show 1 ≤ 1000; decide), fun a ha => ⟨a, l, rfl, upd_same, hl, fun H1 d s1 hd ne => ?_⟩⟩
  have hd0 : H d = none := by
    have e := s1.free hd
    rw [upd_ne ne] at e
    exact e
  refine ⟨rfl, d, [(f, .int l)], by rw [upd_ne ne.symm]; exact upd_same, upd_same, hd0, ?_⟩
  refine q d _ (fun b o hb => ?_) upd_same
  have b1 : b ≠ d := ne_of_none hb hd0
  have b2 : b ≠ a := ne_of_none hb ha
  rw [upd_ne b1, del_ne b2, upd_ne b1, upd_ne b2]
  exact s1 b o (by rw [upd_ne b2]; exact hb)
end
end Sx

set_option Elab.async false
set_option linter.all false
set_option maxRecDepth 100000
set_option maxHeartbeats 2000000
/-! sep.join(reversed(x)), x a list of texts -/
namespace SxA
open PySem PySem.Spec PyProof.Rows L2
section
variable {prog : Program} {w : World} {A : Around} {E : Value → Shared → Prop} {s : Shared}
theorem call_join_rev {it l : Addr} {items : Array Value} {x : Str} {t : Tok} {ys : List Str} {Q : Value → Shared → Prop} (hh : A.handled = none) (hit : s.heap.IsRevIter it l ((items.size : Int) - 1)) (hl : s.heap.IsList l items) (hne : l ≠ it) (hn : items.size ≤ sizeLine)
    (hs : ∀ acc : Array Value, ItemsOf (fun i v => items[items.size - 1 - i]? = some v) acc items.size → StrsAre acc.toList ys) (hok : (ys.map (·.length)).sum + ys.length * x.length ≤ 16777216)
    (hQ : ∀ (h' : Heap) (tk : Nat) (u : Tok), (∀ b o, b ≠ it → s.heap.get? b = some o → h'.get? b = some o) → Q (.str (Txt.join x ys) u) { s with heap := h', toks := tk }) :
    wpAny (model prog w) A (call (.builtin "str.join") [.str x t, .ref it]) Q E s := by
  have hT : s.TypeIs (.ref it) "list_reverseiterator" := hit.typeIs
  have hh1 : A.in1.in1.handled = none := hh
  refine wpAny_call (codeAny_call_builtin F.slot_str_join.plain F.entry_str_join (F.slot_str_join.check _ _ _ _ _ _ _ _ (typeIs_str _ _ _) (F.args_str_join_2 _ _) ?_))
  rw [join_tree_other]
  refine wpAny_bind (wpAny_typeOf hT ?_)
  show wpAny _ A.in1 ((pyIter (.ref it)).tryCatch _ >>= fun i2 => collect i2 >>= fun found => joinTail x found) _ _ s
  refine wpAny_bind (wpAny_tryCatch (wpAny_pyIter_revIter hit ?_))
  refine wpAny_bind (RT.collect_rev (A := A.in1) hh hit hl hne hn fun h' tk acc hk hacc => ?_)
  obtain ⟨lv, e1, e2⟩ := strsAre_values (hs acc hacc)
  rw [e1]
  have j1 : JoinOk x (lv.map (·.1)) = true := by rw [e2]; exact joinOk_of hok
  have j2 := j1
  unfold JoinOk at j2
  rw [Bool.not_eq_true'] at j2
  have g : Gives (joinTail x (strValues lv)) (joinMade x lv) := by
    have g1 := gives_joinTail x lv j2
    cases lv with
    | nil => exact g1
    | cons p r => cases r with
      | nil => exact g1
      | cons p2 r2 => exact g1
  exact g prog w A (wants Q E) _ (post_join lv ⟨joinFit_length j2, fun u k => by rw [e2]; exact hQ h' k u hk⟩)
end
def tJoinRev (K : PySem.W.Frag) (to te : TE) : TE := fun σ H Q => to σ H fun x H1 => (∃ a, x = .str a) ∧ te σ H1 fun v H2 => ∃ (a : Str) (l : Addr) (ys : List Str), x = .str a ∧ v = .ref l ∧ SqL K H2 l (ys.map V.str) ∧ (ys.map (·.length)).sum + ys.length * a.length ≤ 16777216 ∧ Q (.str (Txt.join a ys.reverse)) H2
theorem pe_joinRev {X : Cx} {o e : Expr} {to te : TE} {apos pos p2 pos2 : Pos} (hg2 : Gl X "reversed") (hm2 : X.mg "reversed" = none) (ho : PE X o to) (he : PE X e te) (hc : X.calm = true := by rfl)
    (hs : starEach [.Call (.Name "reversed" p2) [e] [] pos2] X.env = [(false, eval (.Call (.Name "reversed" p2) [e] [] pos2) X.env)] := by rfl)
    (hs2 : starEach [e] X.env = (false, eval e X.env) :: starEach [] X.env := by rfl)
    (hbase : attributeBase o "join" X.env (eval o X.env) = eval o X.env := by rfl) (hline : (apos.endLine == pos.line) = true := by rfl) :
    PE X (.Call (.Attribute o "join" apos) [.Call (.Name "reversed" p2) [e] [] pos2] [] pos) (tJoinRev X.K to te) := by
  refine ⟨fun pins s σ H Q I h => ?_⟩
  refine PySem.Call_method1 hbase hs hline (thn (ho.run pins s σ H _ I h) fun v s1 ⟨x, H1, I1, r1, q1⟩ => ?_)
  obtain ⟨⟨a, rfl⟩, q1⟩ := q1
  obtain ⟨t, rfl⟩ := _root_.id r1
  refine ⟨"str", _, F.plainAttrs_str, F.slot_str_join, F.type_str_join, typeIs_str _ _ _, (fun _ e => nomatch e), Calls.callWith_builtin rfl (Calls.evalArgs_plain (Calls.spliced_cons ?_))⟩
  refine Call_ (ld_blt I1 hg2 hm2 PyProof.Rows.boot_reversed (PyProof.Rows.callWith_type1 (args_cons (thn (he.run pins s1 σ H1 _ I1 q1) fun u s2 ⟨y, H2, I2, r2, q2⟩ => args_nil ?_) hs2) hs2 rfl))
  obtain ⟨a', l, ys, ex, rfl, hq, hz, q⟩ := q2
  cases ex
  obtain rfl : u = Value.ref l := r2
  obtain ⟨its, rv, p', hlen⟩ := I2.list hq
  refine call_reversed_list p'.isList (Calls.spliced_nil ?_)
  have k0 : ∀ b o, s2.heap.get? b = some o → (s2.heap.push (revObj l ((its.toArray.size : Int) - 1))).get? b = some o := fun b o e => Heap.get?_push_of_some _ e
  have I3 : Inv X pins σ H2 { s2 with heap := s2.heap.push (revObj l ((its.toArray.size : Int) - 1)) } := I2.kept (t' := s2.toks) k0
  obtain ⟨f0, f1, f2, f3, f4, f5⟩ := I2.fpOk (H' := H2) (b := s2.heap.objs.size) (Nat.le_refl _) (I2.hok.fresh (Nat.le_refl _))
  have hl := p'.isList
  obtain ⟨ol, hol, _⟩ := id hl
  have hne : l ≠ s2.heap.objs.size := Nat.ne_of_lt (Heap.lt_size hol)
  have hn : its.toArray.size ≤ sizeLine := by rw [List.size_toArray, ← rv.length]; exact hlen
  refine call_join_rev (ys := ys.reverse) (s := { s2 with heap := s2.heap.push (revObj l ((its.toArray.size : Int) - 1)) }) (I2.ok.hd hc) ⟨_, Heap.get?_push_size _ rfl, rfl, rfl⟩ (hl.push _) hne hn (fun acc ha => ?_) (by rw [List.map_reverse, List.sum_reverse, List.length_reverse]; exact hz) fun h' tk u hk => ?_
  · have r2 := RT.vals_rev rv ha
    rw [← List.map_reverse] at r2
    exact strs_of_vals r2
  · have I4 : Inv X pins σ H2 { s2 with heap := h', toks := tk } := I3.turned (t' := tk) (fun b o hb e => hk b o hb e) f0 f1 f3 f4 f5
    exact ⟨.str _, H2, I4, ⟨u, rfl⟩, q⟩
end SxA

set_option Elab.async false
set_option linter.all false
set_option maxRecDepth 100000
set_option maxHeartbeats 0
namespace Sx
open PySem PySem.Spec PyProof.Rows L2
/-! ### the text by places -/
def top (i : Nat) : Stmt := PySem.Challenge.pw_sixdot_k51_missing_sheets_of_a_heap.main.body.getD i (.Pass ⟨0, 0, 0, 0⟩)
abbrev sStrangeSheetInit : Stmt := inClass (top 6) 0
abbrev sNotMissingInit : Stmt := inClass (top 7) 0
abbrev sNumberWord : Stmt := top 3
abbrev sMissing : Stmt := top 9
abbrev sFilled : Stmt := top 10
abbrev sLawMix : Stmt := top 12
abbrev sLawNumbers : Stmt := top 13
abbrev sLawTake : Stmt := top 14
abbrev sLawShort : Stmt := top 15
abbrev sLawChoices : Stmt := top 16
abbrev sLawDue : Stmt := top 17
abbrev sLawTold : Stmt := top 18
abbrev sLawFilled : Stmt := top 19
abbrev sLawFillDue : Stmt := top 20
abbrev sLaw : Stmt := top 21
/-! ### the head: facts by names, the run -/
def dNumberWord : He.DefD := ⟨("number_word", none), "number_word", "number_word", defArgs sNumberWord, defBody sNumberWord, defScope sNumberWord, [], []⟩
def dMissing : He.DefD := ⟨("missing", none), "missing", "missing", defArgs sMissing, defBody sMissing, defScope sMissing, [], []⟩
def dFilled : He.DefD := ⟨("filled", none), "filled", "filled", defArgs sFilled, defBody sFilled, defScope sFilled, [], []⟩
def dLawMix : He.DefD := ⟨("_law_mix", none), "_law_mix", "_law_mix", defArgs sLawMix, defBody sLawMix, defScope sLawMix, [], []⟩
def dLawNumbers : He.DefD := ⟨("_law_numbers", none), "_law_numbers", "_law_numbers", defArgs sLawNumbers, defBody sLawNumbers, defScope sLawNumbers, [], []⟩
def dLawTake : He.DefD := ⟨("_law_take", none), "_law_take", "_law_take", defArgs sLawTake, defBody sLawTake, defScope sLawTake, [], []⟩
def dLawShort : He.DefD := ⟨("_law_short", none), "_law_short", "_law_short", defArgs sLawShort, defBody sLawShort, defScope sLawShort, [], []⟩
def dLawChoices : He.DefD := ⟨("_law_choices", none), "_law_choices", "_law_choices", defArgs sLawChoices, defBody sLawChoices, defScope sLawChoices, [], []⟩
def dLawDue : He.DefD := ⟨("_law_due", none), "_law_due", "_law_due", defArgs sLawDue, defBody sLawDue, defScope sLawDue, [], []⟩
def dLawTold : He.DefD := ⟨("_law_told", none), "_law_told", "_law_told", defArgs sLawTold, defBody sLawTold, defScope sLawTold, [], []⟩
def dLawFilled : He.DefD := ⟨("_law_filled", none), "_law_filled", "_law_filled", defArgs sLawFilled, defBody sLawFilled, defScope sLawFilled, [], []⟩
def dLawFillDue : He.DefD := ⟨("_law_fill_due", none), "_law_fill_due", "_law_fill_due", defArgs sLawFillDue, defBody sLawFillDue, defScope sLawFillDue, [], []⟩
def dLaw : He.DefD := ⟨("law", none), "law", "law", defArgs sLaw, defBody sLaw, defScope sLaw, [], []⟩
def xStrangeSheet : SxK.SupD := ⟨"StrangeSheet", "StrangeSheet.__init__", defArgs sStrangeSheetInit, defBody sStrangeSheetInit, defScope sStrangeSheetInit, "/claim/cut.py", ["place"], ["NotMissing"]⟩
def xNotMissing : SxK.SupD := ⟨"NotMissing", "NotMissing.__init__", defArgs sNotMissingInit, defBody sNotMissingInit, defScope sNotMissingInit, "/claim/cut.py", ["number"], ["StrangeSheet"]⟩
def xs : List SxK.SupD := [xStrangeSheet, xNotMissing]
def fn : List He.DefD := [dNumberWord, dMissing, dFilled, dLawMix, dLawNumbers, dLawTake, dLawShort, dLawChoices, dLawDue, dLawTold, dLawFilled, dLawFillDue, dLaw]
def fa : List He.Fa := [.glo "number_word", .glo "missing", .glo "filled", .glo "_law_mix", .glo "_law_numbers", .glo "_law_take", .glo "_law_short", .glo "_law_choices", .glo "_law_due", .glo "_law_told", .glo "_law_filled", .glo "_law_fill_due", .glo "law", .free "ValueError", .free "abs", .free "divmod", .free "enumerate", .free "int", .free "isinstance", .free "len", .free "list", .free "range", .free "reversed", .free "sorted", .free "str", .free "super", .free "tuple", .int "PART_DIGITS" 64, .int "PART" 10000000000000000000000000000000000000000000000000000000000000000, .glo "SixdotError", .glo "StrangeSheet", .glo "NotMissing"]
def loose0 : List Str := ["PART_DIGITS", "PART", "number_word", "SixdotError", "StrangeSheet", "NotMissing", "missing", "filled", "_law_mix", "_law_numbers", "_law_take", "_law_short", "_law_choices", "_law_due", "_law_told", "_law_filled", "_law_fill_due"]
abbrev loose : List Str := loose0
abbrev R : PySem.W.OpenRow := PySem.W.OpenLaw.row PySem.Challenge.rw_sixdot_k51_missing_sheets_of_a_heap
abbrev hk : PySem.W.Hook := SxK.hookX 5 fa fn xs
def ob (s : PySem.W.SharedT) : SxK.AlX := SxK.obsXG 5 fa fn xs (HandSHeadRun.getT s)
theorem ob_eq (s : PySem.W.SharedT) : ob s = hk.obs s.abs := SxK.obsXG_eq (HandSHeadRun.getT_eq s)
theorem run (w : World) : HandSHeadRun.RunEq R (PySem.W.view R.prog [21]) hk ob 4000 loose w := by
  intro os
  kernel_rfl
end Sx

set_option Elab.async false
set_option linter.all false
set_option maxRecDepth 100000
set_option maxHeartbeats 4000000
namespace Sx
open PySem PySem.Spec PyProof.Rows L2
/-- what stands behind the top -/
structure T (K : PySem.W.Frag) (mg : Str → Option Value) : Prop where
  c : SxK.SaysX fa fn xs K
  g : ∃ h : Heap, K.In h ∧ h.Ns mainGlobals mg
section
variable {K : PySem.W.Frag} {mg : Str → Option Value}

theorem T.g_number_word (t : T K mg) : mg "number_word" = some (.ref (He.ga K "number_word")) := by
  obtain ⟨h, X, G⟩ := t.g
  exact He.glo_ok X G (t.c.d.fact 0 (f := .glo "number_word") rfl)
theorem T.g_missing (t : T K mg) : mg "missing" = some (.ref (He.ga K "missing")) := by
  obtain ⟨h, X, G⟩ := t.g
  exact He.glo_ok X G (t.c.d.fact 1 (f := .glo "missing") rfl)
theorem T.g_filled (t : T K mg) : mg "filled" = some (.ref (He.ga K "filled")) := by
  obtain ⟨h, X, G⟩ := t.g
  exact He.glo_ok X G (t.c.d.fact 2 (f := .glo "filled") rfl)
theorem T.g_law_mix (t : T K mg) : mg "_law_mix" = some (.ref (He.ga K "_law_mix")) := by
  obtain ⟨h, X, G⟩ := t.g
  exact He.glo_ok X G (t.c.d.fact 3 (f := .glo "_law_mix") rfl)
theorem T.g_law_numbers (t : T K mg) : mg "_law_numbers" = some (.ref (He.ga K "_law_numbers")) := by
  obtain ⟨h, X, G⟩ := t.g
  exact He.glo_ok X G (t.c.d.fact 4 (f := .glo "_law_numbers") rfl)
theorem T.g_law_take (t : T K mg) : mg "_law_take" = some (.ref (He.ga K "_law_take")) := by
  obtain ⟨h, X, G⟩ := t.g
  exact He.glo_ok X G (t.c.d.fact 5 (f := .glo "_law_take") rfl)
theorem T.g_law_short (t : T K mg) : mg "_law_short" = some (.ref (He.ga K "_law_short")) := by
  obtain ⟨h, X, G⟩ := t.g
  exact He.glo_ok X G (t.c.d.fact 6 (f := .glo "_law_short") rfl)
theorem T.g_law_choices (t : T K mg) : mg "_law_choices" = some (.ref (He.ga K "_law_choices")) := by
  obtain ⟨h, X, G⟩ := t.g
  exact He.glo_ok X G (t.c.d.fact 7 (f := .glo "_law_choices") rfl)
theorem T.g_law_due (t : T K mg) : mg "_law_due" = some (.ref (He.ga K "_law_due")) := by
  obtain ⟨h, X, G⟩ := t.g
  exact He.glo_ok X G (t.c.d.fact 8 (f := .glo "_law_due") rfl)
theorem T.g_law_told (t : T K mg) : mg "_law_told" = some (.ref (He.ga K "_law_told")) := by
  obtain ⟨h, X, G⟩ := t.g
  exact He.glo_ok X G (t.c.d.fact 9 (f := .glo "_law_told") rfl)
theorem T.g_law_filled (t : T K mg) : mg "_law_filled" = some (.ref (He.ga K "_law_filled")) := by
  obtain ⟨h, X, G⟩ := t.g
  exact He.glo_ok X G (t.c.d.fact 10 (f := .glo "_law_filled") rfl)
theorem T.g_law_fill_due (t : T K mg) : mg "_law_fill_due" = some (.ref (He.ga K "_law_fill_due")) := by
  obtain ⟨h, X, G⟩ := t.g
  exact He.glo_ok X G (t.c.d.fact 11 (f := .glo "_law_fill_due") rfl)
theorem T.g_law (t : T K mg) : mg "law" = some (.ref (He.ga K "law")) := by
  obtain ⟨h, X, G⟩ := t.g
  exact He.glo_ok X G (t.c.d.fact 12 (f := .glo "law") rfl)
theorem T.f_ValueError (t : T K mg) : mg "ValueError" = none := by
  obtain ⟨h, X, G⟩ := t.g
  exact He.free_ok X G (t.c.d.fact 13 (f := .free "ValueError") rfl)
theorem T.f_abs (t : T K mg) : mg "abs" = none := by
  obtain ⟨h, X, G⟩ := t.g
  exact He.free_ok X G (t.c.d.fact 14 (f := .free "abs") rfl)
theorem T.f_divmod (t : T K mg) : mg "divmod" = none := by
  obtain ⟨h, X, G⟩ := t.g
  exact He.free_ok X G (t.c.d.fact 15 (f := .free "divmod") rfl)
theorem T.f_enumerate (t : T K mg) : mg "enumerate" = none := by
  obtain ⟨h, X, G⟩ := t.g
  exact He.free_ok X G (t.c.d.fact 16 (f := .free "enumerate") rfl)
theorem T.f_int (t : T K mg) : mg "int" = none := by
  obtain ⟨h, X, G⟩ := t.g
  exact He.free_ok X G (t.c.d.fact 17 (f := .free "int") rfl)
theorem T.f_isinstance (t : T K mg) : mg "isinstance" = none := by
  obtain ⟨h, X, G⟩ := t.g
  exact He.free_ok X G (t.c.d.fact 18 (f := .free "isinstance") rfl)
theorem T.f_len (t : T K mg) : mg "len" = none := by
  obtain ⟨h, X, G⟩ := t.g
  exact He.free_ok X G (t.c.d.fact 19 (f := .free "len") rfl)
theorem T.f_list (t : T K mg) : mg "list" = none := by
  obtain ⟨h, X, G⟩ := t.g
  exact He.free_ok X G (t.c.d.fact 20 (f := .free "list") rfl)
theorem T.f_range (t : T K mg) : mg "range" = none := by
  obtain ⟨h, X, G⟩ := t.g
  exact He.free_ok X G (t.c.d.fact 21 (f := .free "range") rfl)
theorem T.f_reversed (t : T K mg) : mg "reversed" = none := by
  obtain ⟨h, X, G⟩ := t.g
  exact He.free_ok X G (t.c.d.fact 22 (f := .free "reversed") rfl)
theorem T.f_sorted (t : T K mg) : mg "sorted" = none := by
  obtain ⟨h, X, G⟩ := t.g
  exact He.free_ok X G (t.c.d.fact 23 (f := .free "sorted") rfl)
theorem T.f_str (t : T K mg) : mg "str" = none := by
  obtain ⟨h, X, G⟩ := t.g
  exact He.free_ok X G (t.c.d.fact 24 (f := .free "str") rfl)
theorem T.f_super (t : T K mg) : mg "super" = none := by
  obtain ⟨h, X, G⟩ := t.g
  exact He.free_ok X G (t.c.d.fact 25 (f := .free "super") rfl)
theorem T.f_tuple (t : T K mg) : mg "tuple" = none := by
  obtain ⟨h, X, G⟩ := t.g
  exact He.free_ok X G (t.c.d.fact 26 (f := .free "tuple") rfl)
theorem T.i_PART_DIGITS (t : T K mg) : ∃ k, mg "PART_DIGITS" = some (.int 64 k) := by
  obtain ⟨h, X, G⟩ := t.g
  exact He.int_ok X G (t.c.d.fact 27 (f := .int "PART_DIGITS" 64) rfl)
theorem T.i_PART (t : T K mg) : ∃ k, mg "PART" = some (.int 10000000000000000000000000000000000000000000000000000000000000000 k) := by
  obtain ⟨h, X, G⟩ := t.g
  exact He.int_ok X G (t.c.d.fact 28 (f := .int "PART" 10000000000000000000000000000000000000000000000000000000000000000) rfl)
theorem T.g_SixdotError (t : T K mg) : mg "SixdotError" = some (.ref (He.ga K "SixdotError")) := by
  obtain ⟨h, X, G⟩ := t.g
  exact He.glo_ok X G (t.c.d.fact 29 (f := .glo "SixdotError") rfl)
theorem T.g_StrangeSheet (t : T K mg) : mg "StrangeSheet" = some (.ref (He.ga K "StrangeSheet")) := by
  obtain ⟨h, X, G⟩ := t.g
  exact He.glo_ok X G (t.c.d.fact 30 (f := .glo "StrangeSheet") rfl)
theorem T.g_NotMissing (t : T K mg) : mg "NotMissing" = some (.ref (He.ga K "NotMissing")) := by
  obtain ⟨h, X, G⟩ := t.g
  exact He.glo_ok X G (t.c.d.fact 31 (f := .glo "NotMissing") rfl)
theorem T.d_number_word (t : T K mg) : Fd K "number_word" sNumberWord := t.c.d.def_ 0 (d := dNumberWord) rfl
theorem T.d_missing (t : T K mg) : Fd K "missing" sMissing := t.c.d.def_ 1 (d := dMissing) rfl
theorem T.d_filled (t : T K mg) : Fd K "filled" sFilled := t.c.d.def_ 2 (d := dFilled) rfl
theorem T.d_law_mix (t : T K mg) : Fd K "_law_mix" sLawMix := t.c.d.def_ 3 (d := dLawMix) rfl
theorem T.d_law_numbers (t : T K mg) : Fd K "_law_numbers" sLawNumbers := t.c.d.def_ 4 (d := dLawNumbers) rfl
theorem T.d_law_take (t : T K mg) : Fd K "_law_take" sLawTake := t.c.d.def_ 5 (d := dLawTake) rfl
theorem T.d_law_short (t : T K mg) : Fd K "_law_short" sLawShort := t.c.d.def_ 6 (d := dLawShort) rfl
theorem T.d_law_choices (t : T K mg) : Fd K "_law_choices" sLawChoices := t.c.d.def_ 7 (d := dLawChoices) rfl
theorem T.d_law_due (t : T K mg) : Fd K "_law_due" sLawDue := t.c.d.def_ 8 (d := dLawDue) rfl
theorem T.d_law_told (t : T K mg) : Fd K "_law_told" sLawTold := t.c.d.def_ 9 (d := dLawTold) rfl
theorem T.d_law_filled (t : T K mg) : Fd K "_law_filled" sLawFilled := t.c.d.def_ 10 (d := dLawFilled) rfl
theorem T.d_law_fill_due (t : T K mg) : Fd K "_law_fill_due" sLawFillDue := t.c.d.def_ 11 (d := dLawFillDue) rfl
theorem T.d_law (t : T K mg) : Fd K "law" sLaw := t.c.d.def_ 12 (d := dLaw) rfl
theorem T.e_StrangeSheet (t : T K mg) {P : Program} (hf : P.main.file = xStrangeSheet.file) (ht : (P.main.scope.names.lookup ("super" : Str)).isSome = false) : SxK.ErrC P K mg xStrangeSheet := by
  obtain ⟨h, X, G⟩ := t.g
  exact SxK.SupD.err X G (t.c.sup 0 (d := xStrangeSheet) rfl).1 (t.c.sup 0 (d := xStrangeSheet) rfl).2 hf ht
theorem T.e_NotMissing (t : T K mg) {P : Program} (hf : P.main.file = xNotMissing.file) (ht : (P.main.scope.names.lookup ("super" : Str)).isSome = false) : SxK.ErrC P K mg xNotMissing := by
  obtain ⟨h, X, G⟩ := t.g
  exact SxK.SupD.err X G (t.c.sup 1 (d := xNotMissing) rfl).1 (t.c.sup 1 (d := xNotMissing) rfl).2 hf ht
end
end Sx

set_option Elab.async false
set_option linter.all false
set_option maxRecDepth 100000
set_option maxHeartbeats 2000000
namespace Sx
open PySem PySem.Spec PyProof.Rows L2 SxA SxK
/-! ### the digits of a number of at most ten -/
def spNumberWord : Sp := fun vs H Q _ => ∃ (n : Int), vs = [.int n] ∧ (0 ≤ n ∧ n < 10 ^ 10) ∧ ∀ H', Same H H' → Q (.str (Str.ofString (toString n))) H'
theorem nw_log {l : Int} (h0 : 0 ≤ l) (h : l < 10 ^ 10) : l.natAbs.log2 < 1920 := by
  by_cases n : l.natAbs = 0
  · rw [n]; decide
  · exact (Nat.log2_lt n).mpr (Nat.lt_of_lt_of_le (show l.natAbs < 10 ^ 10 by omega) (by decide))
section
variable {P : Program} {w : World} {K : PySem.W.Frag} {mg : Str → Option Value} {base : Heap}
abbrev nsNumberWord : List Str := ["number", "parts", "rest", "part"]
theorem scNumberWord : FnScope nsNumberWord ["number"] (defScope sNumberWord) := ⟨rfl, rfl, rfl, by decide +kernel, rfl, by decide +kernel, by decide +kernel⟩
theorem ok_number_word (t : T K mg) : Ok P w K mg base 1 "number_word" ["number"] spNumberWord := by
  refine mkOk t.d_number_word t.g_number_word scNumberWord (fun vs H Q E h => ?_) (fun _ _ _ _ _ _ us hl => match us, hl with | [_], _ => rfl) fun cdv A outer s H vs Q E hr h => ?_
  · obtain ⟨n, rfl, _⟩ := h; rfl
  obtain ⟨n, rfl, hn, k⟩ := h
  obtain ⟨kP, iP⟩ := t.i_PART
  obtain ⟨kD, iD⟩ := t.i_PART_DIGITS
  refine ⟨_, pss_cons (ps_set (i := 1) scNumberWord.nd rfl (Or.inl rfl) (pe_lst pa_nil))
    (pss_cons (ps_set (i := 2) scNumberWord.nd rfl (Or.inl rfl) (pe_callB call_abs rfl t.f_abs (by decide +kernel) (pa_cons (pv 0) pa_nil)))
    (pss_cons (ps_while PassesOwn.never (pt_cmpR op_ge (pv 2) (pgi rfl iP) (nomark _))
      (pss_cons (ps_asg (pe_callB call_divmod rfl t.f_divmod (by decide +kernel) (pa_cons (pv 2) (pa_cons (pgi rfl iP) pa_nil))) (pg_tup rfl (pgs_cons (pg_name (i := 2) scNumberWord.nd rfl (Or.inl rfl)) (pgs_cons (pg_name (i := 3) scNumberWord.nd rfl (Or.inl rfl)) pgs_nil))))
    (pss_one (ps_expr (pe_bm PySem.F.plainAttrs_list PySem.F.slot_list_append PySem.F.type_list_append mt_append (pv 1) (pa_cons (pe_bm PySem.F.plainAttrs_str PySem.F.slot_str_zfill PySem.F.type_str_zfill mt_zfill (pe_callTy call_str_int rfl t.f_str (by decide +kernel) (pa_cons (pv 3) pa_nil)) (pa_cons (pgi rfl iD) pa_nil)) pa_nil))))))
    (pss_cons (ps_expr (pe_bm PySem.F.plainAttrs_list PySem.F.slot_list_append PySem.F.type_list_append mt_append (pv 1) (pa_cons (pe_callTy call_str_int rfl t.f_str (by decide +kernel) (pa_cons (pv 2) pa_nil)) pa_nil)))
    (pss_cons (ps_if (pt_cmpR op_lt (pv 0) pe_int (nomark _))
      (pss_one (ps_expr (pe_bm PySem.F.plainAttrs_list PySem.F.slot_list_append PySem.F.type_list_append mt_append (pv 1) (pa_cons pe_str pa_nil))))
      pss_nil)
    (pss_one (ps_ret (pe_joinRev rfl t.f_reversed pe_str (pv 1)))))))), ?_⟩
  have l10 : n.natAbs.log2 < 1920 := nw_log hn.1 hn.2
  have tl : (Str.ofString (toString n)).length ≤ 10 := toString_length_le hn.1 (by decide) hn.2
  refine ⟨(by show 0 ≤ sizeLine; decide), fun D hD => ?_⟩
  refine ⟨_, rfl, n, rfl, ?_⟩
  rw [if_neg (show ¬ n < 0 by omega)]
  refine ⟨fun μ σ' H' => σ' = [some (.int n), some (.ref D), some (.int n), none] ∧ H' = upd H D (.lst []), ⟨0, rfl, rfl⟩, ?_⟩
  rintro μ σ' H' ⟨rfl, rfl⟩
  refine ⟨_, rfl, _, _, rfl, rfl, _, rfl, ite2 (fun h1 => ?_) (fun h1 => ?_)⟩
  · exfalso
    have h2 : (10000000000000000000000000000000000000000000000000000000000000000 : Int) ≤ n := of_decide_eq_true h1
    omega
  refine ⟨_, rfl, .inl ⟨rfl, _, SqL.of upd_same⟩, _, rfl, n, rfl, l10, D, _, _, rfl, rfl, upd_same, (by show 0 < sizeLine; decide), ?_⟩
  refine ⟨_, rfl, _, _, rfl, rfl, _, rfl, ite2 (fun h2 => ?_) (fun h2 => ?_)⟩
  · exfalso
    have h3 : n < 0 := of_decide_eq_true h2
    omega
  have ej : Txt.join (Str.ofString "") [Str.ofString (toString n)] = Str.ofString (toString n) := by first | rfl | simp [Txt.join]
  refine ⟨⟨_, rfl⟩, _, rfl, _, D, [Str.ofString (toString n)], rfl, rfl, SqL.of upd_same, ?_, ?_⟩
  · show ([Str.ofString (toString n)].map (·.length)).sum + 1 * (Str.ofString "").length ≤ 16777216
    have e0 : (Str.ofString "").length = 0 := rfl
    rw [e0, List.map_cons, List.map_nil, List.sum_cons, List.sum_nil]
    omega
  · show Q (.str (Txt.join (Str.ofString "") [Str.ofString (toString n)])) _
    rw [ej]
    exact k _ (Same.put (Same.new hD) hD)
end
end Sx

set_option Elab.async false
set_option linter.all false
set_option maxRecDepth 100000
set_option maxHeartbeats 1000000
namespace Sx
open PySem PySem.Spec PyProof.Rows L2 SxA SxK
/-! ### numbers: a list of ints, of which one is taken -/
def Dr (H : Hp) (a : Addr) : Prop := ∃ ns : List Int, H a = some (.lst (ns.map V.int))
def DrL (H : Hp) (a : Addr) (n : Nat) : Prop := ∃ ns : List Int, H a = some (.lst (ns.map V.int)) ∧ ns.length ≤ n
theorem Dr.ne {H : Hp} {a D : Addr} (h : Dr H a) (hD : H D = none) : a ≠ D := ne_of_none h.choose_spec hD
theorem Dr.put {H : Hp} {a D : Addr} {o : HO} (h : Dr H a) (n : a ≠ D) : Dr (upd H D o) a := by
  obtain ⟨ns, e⟩ := h
  exact ⟨ns, by rw [upd_ne n]; exact e⟩
theorem Dr.new {H : Hp} {a D : Addr} {o : HO} (h : Dr H a) (hD : H D = none) : Dr (upd H D o) a := h.put (h.ne hD)
theorem Dr.same {H H' : Hp} {a : Addr} (h : Dr H a) (s : Same H H') : Dr H' a := by
  obtain ⟨ns, e⟩ := h
  exact ⟨ns, s _ _ e⟩
theorem But.new {a : Addr} {H H' : Hp} {p : Addr} {o : HO} (b : But a H H') (hp : H p = Option.none) : But a H (upd H' p o) := fun c u e n => by
  rw [upd_ne (ne_of_none e hp)]
  exact b c u e n
theorem But.same {a : Addr} {H H1 H2 : Hp} (b : But a H H1) (s : Same H1 H2) : But a H H2 := b.trans (But.of s)
theorem small1 {n : Nat} (h : n ≤ 100000) : n < sizeLine := Nat.lt_of_le_of_lt h (by decide)
theorem DrL.push {H : Hp} {D : Addr} {ns : List Int} {z : Int} {n : Nat} (h : ns.length ≤ n) : DrL (upd H D (.lst (ns.map V.int ++ [V.int z]))) D (n + 1) := ⟨ns ++ [z], by rw [upd_same, List.map_append]; rfl, by rw [List.length_append]; exact Nat.succ_le_succ h⟩
def spMix : Sp := fun vs H Q _ => ∃ a b : Int, vs = [.int a, .int b] ∧ ∀ v : Int, Q (.int v) H
def spTake : Sp := fun vs H Q _ => ∃ (a : Addr) (m : Int), vs = [.ref a, .int m] ∧ Dr H a ∧ 0 < m ∧ ∀ v H', 0 ≤ v → v < m → Dr H' a → But a H H' → Q (.int v) H'
def spNums (K : PySem.W.Frag) : Sp := fun vs H Q _ => ∃ (a : Addr) (ns : List Int) (c : Int), vs = [.ref a, .int c] ∧ SqL K H a (ns.map V.int) ∧ ns.length ≤ 63 ∧ 0 ≤ c ∧ c ≤ 1000 ∧ ∀ p H', H p = none → Same H H' → Dr H' p → Q (.ref p) H'
section
variable {P : Program} {w : World} {K : PySem.W.Frag} {mg : Str → Option Value} {base : Heap}
abbrev nsLawMix : List Str := ["number", "k"]
theorem scLawMix : FnScope nsLawMix ["number", "k"] (defScope sLawMix) := ⟨rfl, rfl, rfl, by decide +kernel, rfl, by decide +kernel, by decide +kernel⟩
theorem ok_law_mix (t : T K mg) : Ok P w K mg base 1 "_law_mix" ["number", "k"] spMix := by
  refine mkOk t.d_law_mix t.g_law_mix scLawMix (fun vs H Q E h => ?_) (fun _ _ _ _ _ _ us hl => match us, hl with | [_, _], _ => rfl) fun cdv A outer s H vs Q E hr h => ?_
  · obtain ⟨a, b, rfl, _⟩ := h; rfl
  obtain ⟨a, b, rfl, k⟩ := h
  refine ⟨_, pss_one (ps_ret (pe_op op_mod (pe_op op_mul (pe_op op_mod (pe_callTy call_int1 rfl t.f_int (by decide +kernel) (pa_cons (pe_op op_mul (pe_op op_add (pe_op op_add (pe_op op_mod (pe_callTy call_int1 rfl t.f_int (by decide +kernel) (pa_cons (pv 0) pa_nil)) pe_int) (pe_op op_mul pe_int (pv 1))) pe_int) pe_int) pa_nil)) pe_int) pe_int) pe_int)), ?_⟩
  refine ⟨_, rfl, .inl ⟨_, rfl, _, _, rfl, rfl, (by show (0 : Int) < 1000003; decide), ?_⟩⟩
  refine ⟨_, rfl, _, _, rfl, rfl, .inl (by decide), _, _, rfl, rfl, _, _, rfl, rfl, _, _, rfl, rfl, .inr (by decide), .inl ⟨_, rfl, ?_⟩⟩
  exact ⟨_, _, rfl, rfl, (by show (0 : Int) < 1000033; decide), _, _, rfl, rfl, .inr (by decide), _, _, rfl, rfl, (by show (0 : Int) < 998244353; decide), k _⟩
abbrev nsLawTake : List Str := ["row", "bound"]
theorem scLawTake : FnScope nsLawTake ["row", "bound"] (defScope sLawTake) := ⟨rfl, rfl, rfl, by decide +kernel, rfl, by decide +kernel, by decide +kernel⟩
theorem ok_law_take (t : T K mg) : Ok P w K mg base 1 "_law_take" ["row", "bound"] spTake := by
  refine mkOk t.d_law_take t.g_law_take scLawTake (fun vs H Q E h => ?_) (fun _ _ _ _ _ _ us hl => match us, hl with | [_, _], _ => rfl) fun cdv A outer s H vs Q E hr h => ?_
  · obtain ⟨a, m, rfl, _⟩ := h; rfl
  obtain ⟨a, m, rfl, ⟨ns, hn⟩, m0, k⟩ := h
  refine ⟨_, pss_cons (ps_if (pt_not (pt_truth (pv 0) (by intro _; rfl)))
      (pss_one (ps_ret pe_int))
      pss_nil)
    (pss_one (ps_ret (pe_op op_mod (pe_callTy call_int1 rfl t.f_int (by decide +kernel) (pa_cons (pe_bm0 PySem.F.plainAttrs_list PySem.F.slot_list_pop PySem.F.type_list_pop mt_pop (pv 0)) pa_nil)) (pv 1)))), ?_⟩
  cases ns with
  | nil => exact ⟨_, rfl, false, .inl ⟨_, SqL.of hn, rfl⟩, iteT (k 0 H (Int.le_refl _) m0 ⟨[], hn⟩ (But.refl _ _))⟩
  | cons x r =>
    refine ⟨_, rfl, true, .inl ⟨_, SqL.of hn, rfl⟩, iteF ?_⟩
    have hlast : ((x :: r).map V.int)[((x :: r).map V.int).length - 1]? = some (.int ((x :: r)[(x :: r).length - 1]'(by simp))) := by
      rw [List.length_map, List.getElem?_map, List.getElem?_eq_getElem (by simp)]
      rfl
    refine ⟨_, rfl, .inl ⟨rfl, _, SqL.of hn⟩, a, _, _, rfl, rfl, hn, hlast, .inl ⟨_, rfl, ?_⟩⟩
    refine ⟨_, rfl, _, _, rfl, rfl, m0, k _ _ (Int.emod_nonneg _ (by omega)) (Int.emod_lt_of_pos _ m0) ⟨(x :: r).dropLast, ?_⟩ (But.put _ _ _)⟩
    rw [upd_same, List.map_dropLast]
abbrev nsLawNumbers : List Str := ["script", "count", "row", "base", "cell", "rest", "k"]
theorem scLawNumbers : FnScope nsLawNumbers ["script", "count"] (defScope sLawNumbers) := ⟨rfl, rfl, rfl, by decide +kernel, rfl, by decide +kernel, by decide +kernel⟩
theorem ok_law_numbers (t : T K mg) : Ok P w K mg base 2 "_law_numbers" ["script", "count"] (spNums K) := by
  refine mkOk t.d_law_numbers t.g_law_numbers scLawNumbers (fun vs H Q E h => ?_) (fun _ _ _ _ _ _ us hl => match us, hl with | [_, _], _ => rfl) fun cdv A outer s H vs Q E hr h => ?_
  · obtain ⟨a, ns, c, rfl, _⟩ := h; rfl
  obtain ⟨a, ns, c, rfl, hS, hlen, c0, c1, k⟩ := h
  have hr1 : Room 1 _ := hr.mono (by decide)
  refine ⟨_, pss_cons (ps_set (i := 2) scLawNumbers.nd rfl (Or.inl rfl) (pe_lst pa_nil))
    (pss_cons (ps_set (i := 3) scLawNumbers.nd rfl (Or.inl rfl) pe_int)
    (pss_cons (ps_for PassesOwn.never rfl (pi_list (pe_slice sl_list (pv 0) po_none (po_some pe_int))) (pg_name (i := 4) scLawNumbers.nd rfl (Or.inl rfl))
      (pss_cons (ps_set (i := 3) scLawNumbers.nd rfl (Or.inl rfl) (pe_op op_add (pv 3) (pv 4)))
    (pss_one (ps_if (pt_cmpR op_ge (pv 4) pe_int (nomark _))
      (pss_cons (ps_set (i := 5) scLawNumbers.nd rfl (Or.inl rfl) (pv 4))
    (pss_one (ps_for PassesOwn.never rfl (pi_range1 rfl t.f_range (pa_cons pe_int pa_nil)) (pg_name (i := 6) scLawNumbers.nd rfl (Or.inl rfl))
      (pss_cons (ps_expr (pe_bm PySem.F.plainAttrs_list PySem.F.slot_list_append PySem.F.type_list_append mt_append (pv 2) (pa_cons (pe_op op_mod (pe_callTy call_int1 rfl t.f_int (by decide +kernel) (pa_cons (pv 5) pa_nil)) pe_int) pa_nil)))
    (pss_cons (ps_set (i := 5) scLawNumbers.nd rfl (Or.inl rfl) (pe_op op_fdiv (pv 5) pe_int))
    (pss_one (ps_if (pt_cmpR op_eq (pv 5) pe_int (nomark _))
      (pss_one ps_break)
      pss_nil)))))))
      (pss_one (ps_expr (pe_bm PySem.F.plainAttrs_list PySem.F.slot_list_append PySem.F.type_list_append mt_append (pv 2) (pa_cons (pe_ok (ok_law_mix t) hr1 rfl (pa_cons (pe_ok (ok_law_mix t) hr1 rfl (pa_cons (pv 4) (pa_cons pe_int pa_nil))) (pa_cons pe_int pa_nil))) pa_nil))))))))
    (pss_cons (ps_for PassesOwn.never rfl (pi_range1 rfl t.f_range (pa_cons (pv 1) pa_nil)) (pg_name (i := 6) scLawNumbers.nd rfl (Or.inl rfl))
      (pss_one (ps_expr (pe_bm PySem.F.plainAttrs_list PySem.F.slot_list_append PySem.F.type_list_append mt_append (pv 2) (pa_cons (pe_ok (ok_law_mix t) hr1 rfl (pa_cons (pe_ok (ok_law_mix t) hr1 rfl (pa_cons (pe_op op_add (pv 3) (pe_op op_mul pe_int (pv 6))) (pa_cons (pe_op op_add pe_int (pv 6)) pa_nil))) (pa_cons pe_int pa_nil))) pa_nil)))))
    (pss_cons (ps_expr (pe_bm0 PySem.F.plainAttrs_list PySem.F.slot_list_reverse PySem.F.type_list_reverse mt_reverse (pv 2)))
    (pss_one (ps_ret (pv 2))))))), ?_⟩
  refine ⟨(by show 0 ≤ sizeLine; decide), fun D hD => ?_⟩
  have sD : Same H (upd H D (.lst [])) := Same.new hD
  refine ⟨_, rfl, _, rfl, a, _, rfl, sD.seq hS, fun e he => ⟨e, rfl, ⟨_, SqL.of upd_same⟩, ?_⟩⟩
  obtain ⟨xs, hxs⟩ : ∃ xs, xs = cutV (ns.map V.int) none (some 63) := ⟨_, rfl⟩
  rw [← hxs]
  have hx : ∀ x, x ∈ xs → ∃ z : Int, x = .int z := fun x h => by
    rw [hxs] at h
    unfold cutV at h
    have := List.mem_of_mem_drop (List.mem_of_mem_take h)
    obtain ⟨z, _, rfl⟩ := List.mem_map.mp this
    exact ⟨z, rfl⟩
  have xl : xs.length ≤ 63 := by
    rw [hxs]
    unfold cutV
    rw [List.length_take, List.length_drop, List.length_map]
    omega
  have sE : Same H (upd (upd H D (.lst [])) e (.lst xs)) := sD.trans (Same.new he)
  have heE := upd_same (H := upd H D (.lst [])) (a := e) (o := .lst xs)
  have hD1 := (Same.new (o := .lst xs) he) _ _ (upd_same (H := H) (a := D) (o := .lst []))
  generalize upd (upd H D (.lst [])) e (.lst xs) = H1 at sE heE hD1
  have nDe : D ≠ e := fun z => by rw [z, upd_same] at he; cases he
  have key : ∀ {H' : Hp} {ds : List Int} {n : Nat}, ds.length ≤ n → n ≤ 100000 → ((ds.map V.int).length < sizeLine) := fun h1 h2 => by rw [List.length_map]; exact small1 (Nat.le_trans h1 h2)
  refine for_list (K := K) (a := e) (xs := xs) (fun i σ' H' => (∃ (b : Int) (o4 o5 o6 : Option V), σ' = [some (.ref a), some (.int c), some (.ref D), some (.int b), o4, o5, o6]) ∧ DrL H' D (60 * i) ∧ Same H H' ∧ H' e = some (.lst xs)) ⟨⟨_, _, _, _, rfl⟩, ⟨[], hD1, Nat.le_refl _⟩, sE, heE⟩ (fun i σ' H' _ p => SqL.of p.2.2.2) ?_ ?_
  · rintro i x σ' H2 hx2 ⟨⟨b, o4, o5, o6, rfl⟩, ⟨ds, hds, hdl⟩, s2, he2⟩
    obtain ⟨z, rfl⟩ := hx x (List.mem_of_getElem? hx2)
    have il : i < 63 := by
      have := (List.getElem?_eq_some_iff.mp hx2).1
      omega
    refine ⟨_, rfl, _, rfl, _, _, rfl, rfl, _, rfl, _, _, rfl, rfl, _, rfl, ite2 (fun h1 => ?_) (fun h1 => ?_)⟩
    · refine ⟨_, rfl, 60, rfl, by decide, by decide, ?_⟩
      refine for_range (lo := 0) (n := 60) (fun j σ' H' => (∃ (r : Int) (o6 : Option V), σ' = [some (.ref a), some (.int c), some (.ref D), some (.int (b + z)), some (.int z), some (.int r), o6]) ∧ DrL H' D (60 * i + j) ∧ Same H H' ∧ H' e = some (.lst xs)) ⟨⟨_, _, rfl⟩, ⟨ds, hds, hdl⟩, s2, he2⟩ ?_ (fun σ' H' p => ?_)
      · rintro j σ' H3 hj ⟨⟨r, o6', rfl⟩, ⟨ds3, hds3, hdl3⟩, s3, he3⟩
        refine ⟨_, rfl, .inl ⟨rfl, _, SqL.of hds3⟩, _, rfl, .inl ⟨_, rfl, _, _, rfl, rfl, (by show (0 : Int) < 840; decide), D, _, _, rfl, rfl, hds3, key (H' := H3) hdl3 (by omega), ?_⟩⟩
        have he4 : (upd H3 D (.lst (ds3.map V.int ++ [V.int (r % 840)]))) e = some (.lst xs) := by rw [upd_ne nDe.symm]; exact he3
        have s4 := Same.put (o := .lst (ds3.map V.int ++ [V.int (r % 840)])) s3 hD
        refine ⟨_, rfl, _, _, rfl, rfl, ⟨by decide, by decide⟩, _, rfl, rfl, _, rfl, ite2 (fun h2 => ?_) (fun h2 => ?_)⟩
        · obtain ⟨d4, h4, l4⟩ := DrL.push (H := H3) (D := D) (z := r % 840) hdl3
          exact ⟨⟨_, _, _, _, rfl⟩, ⟨d4, h4, by omega⟩, s4, he4⟩
        · obtain ⟨d4, h4, l4⟩ := DrL.push (H := H3) (D := D) (z := r % 840) hdl3
          exact ⟨⟨_, _, rfl⟩, ⟨d4, h4, by omega⟩, s4, he4⟩
      · obtain ⟨⟨r, o6', rfl⟩, ⟨d3, h3, l3⟩, s3, he3⟩ := p
        exact ⟨⟨_, _, _, _, rfl⟩, ⟨d3, h3, by omega⟩, s3, he3⟩
    · refine ⟨_, rfl, .inl ⟨rfl, _, SqL.of hds⟩, _, rfl, _, _, rfl, fun v1 => ⟨_, _, rfl, fun v2 => ⟨D, _, _, rfl, rfl, hds, key (H' := H2) hdl (by omega), ?_⟩⟩⟩
      obtain ⟨d4, h4, l4⟩ := DrL.push (H := H2) (D := D) (z := v2) hdl
      exact ⟨⟨_, _, _, _, rfl⟩, ⟨d4, h4, by omega⟩, Same.put s2 hD, by rw [upd_ne nDe.symm]; exact he2⟩
  rintro σ' H2 ⟨⟨b, o4, o5, o6, rfl⟩, ⟨ds, hds, hdl⟩, s2, he2⟩
  refine ⟨_, rfl, c, rfl, by omega, by omega, ?_⟩
  refine for_range (lo := 0) (n := c.toNat) (fun i σ' H' => (∃ (o4 o5 o6 : Option V), σ' = [some (.ref a), some (.int c), some (.ref D), some (.int b), o4, o5, o6]) ∧ DrL H' D (60 * xs.length + i) ∧ Same H H') ⟨⟨_, _, _, rfl⟩, ⟨ds, hds, hdl⟩, s2⟩ ?_ ?_
  · rintro i σ' H3 hi ⟨⟨o4, o5, o6, rfl⟩, ⟨ds3, hds3, hdl3⟩, s3⟩
    refine ⟨_, rfl, .inl ⟨rfl, _, SqL.of hds3⟩, _, rfl, _, rfl, _, _, rfl, rfl, .inl (by decide), _, _, rfl, rfl, _, rfl, _, _, rfl, rfl, _, _, rfl, fun v1 => ⟨_, _, rfl, fun v2 => ⟨D, _, _, rfl, rfl, hds3, key (H' := H3) hdl3 (by omega), ?_⟩⟩⟩
    obtain ⟨d4, h4, l4⟩ := DrL.push (H := H3) (D := D) (z := v2) hdl3
    exact ⟨⟨_, _, _, rfl⟩, ⟨d4, h4, by omega⟩, Same.put s3 hD⟩
  · rintro σ' H3 ⟨⟨o4, o5, o6, rfl⟩, ⟨ds3, hds3, hdl3⟩, s3⟩
    refine ⟨_, rfl, .inl ⟨rfl, _, SqL.of hds3⟩, D, _, rfl, rfl, hds3, _, rfl, k D _ hD (Same.put s3 hD) ⟨ds3.reverse, ?_⟩⟩
    rw [upd_same, List.map_reverse]
end
end Sx

set_option linter.all false
namespace Sx
/-! ### choices of what is missing, from the front -/
section
variable {α : Type} [DecidableEq α]
/-- c is a list of what is missing of w (places from off on) if l lies -/
inductive Sel : List α → List α → Nat → List Nat → Prop
  | nil (off : Nat) : Sel [] [] off []
  | hit {x : α} {w l : List α} {off : Nat} {c : List Nat} (h : Sel w l (off + 1) c) : Sel (x :: w) (x :: l) off c
  | skip {x : α} {w l : List α} {off : Nat} {c : List Nat} (h : Sel w l (off + 1) c) : Sel (x :: w) l off (off :: c)
theorem Sel.snoc_hit {w l : List α} {off : Nat} {c : List Nat} (x : α) (h : Sel w l off c) : Sel (w ++ [x]) (l ++ [x]) off c := by
  induction h with
  | nil off => exact .hit (.nil _)
  | hit h ih => exact .hit ih
  | skip h ih => exact .skip ih
theorem Sel.snoc_skip {w l : List α} {off : Nat} {c : List Nat} (x : α) (h : Sel w l off c) : Sel (w ++ [x]) l off (c ++ [off + w.length]) := by
  induction h with
  | nil off => exact .skip (.nil _)
  | @hit x w l off c h ih =>
    refine .hit ?_
    rw [List.length_cons, show off + (w.length + 1) = off + 1 + w.length by omega]
    exact ih
  | @skip x w l off c h ih =>
    refine .skip ?_
    rw [List.length_cons, show off + (w.length + 1) = off + 1 + w.length by omega]
    exact ih
theorem Sel.unsnoc {x : α} : ∀ {w l : List α} {off : Nat} {c : List Nat}, Sel (w ++ [x]) l off c → (∃ l', l = l' ++ [x] ∧ Sel w l' off c) ∨ ∃ c', c = c' ++ [off + w.length] ∧ Sel w l off c'
  | [], l, off, c, h => by
    cases h with
    | hit h =>
      cases h
      exact .inl ⟨[], rfl, .nil _⟩
    | skip h =>
      cases h
      exact .inr ⟨[], rfl, .nil _⟩
  | y :: w, l, off, c, h => by
    have h' : Sel (y :: (w ++ [x])) l off c := h
    clear h
    cases h' with
    | hit h =>
      rcases Sel.unsnoc (w := w) h with ⟨l', rfl, h2⟩ | ⟨c', rfl, h2⟩
      · exact .inl ⟨y :: l', rfl, .hit h2⟩
      · exact .inr ⟨c', by rw [List.length_cons, show off + (w.length + 1) = off + 1 + w.length by omega], .hit h2⟩
    | skip h =>
      rcases Sel.unsnoc (w := w) h with ⟨l', rfl, h2⟩ | ⟨c', rfl, h2⟩
      · exact .inl ⟨l', rfl, .skip h2⟩
      · exact .inr ⟨off :: c', by rw [List.length_cons, show off + (w.length + 1) = off + 1 + w.length by omega]; rfl, .skip h2⟩
theorem Sel.len {w l : List α} {off : Nat} {c : List Nat} (h : Sel w l off c) : c.length + l.length = w.length := by
  induction h with
  | nil => rfl
  | hit h ih => rw [List.length_cons, List.length_cons]; omega
  | skip h ih => rw [List.length_cons, List.length_cons]; omega
theorem Sel.lo {w l : List α} {off : Nat} {c : List Nat} (h : Sel w l off c) : ∀ i, i ∈ c → off ≤ i ∧ i < off + w.length := by
  induction h with
  | nil => intro i hi; cases hi
  | @hit x w l off c h ih =>
    intro i hi
    have := ih i hi
    rw [List.length_cons]
    omega
  | @skip x w l off c h ih =>
    intro i hi
    rw [List.length_cons]
    rcases List.mem_cons.mp hi with rfl | hi
    · omega
    · have := ih i hi
      omega
/-- what the greedy way takes as missing -/
def greedy : List α → List α → Nat → Option (List Nat)
  | [], [], _ => some []
  | [], _ :: _, _ => none
  | x :: w, [], off => (greedy w [] (off + 1)).map (off :: ·)
  | x :: w, y :: l, off => if x = y then greedy w l (off + 1) else (greedy w (y :: l) (off + 1)).map (off :: ·)
theorem greedy_sel : ∀ {w l : List α} {off : Nat} {c : List Nat}, greedy w l off = some c → Sel w l off c
  | [], [], off, c, h => by cases h; exact .nil _
  | [], _ :: _, off, c, h => by cases h
  | x :: w, [], off, c, h => by
    unfold greedy at h
    cases z : greedy w [] (off + 1) with
    | none => rw [z] at h; cases h
    | some c' => rw [z] at h; cases h; exact .skip (greedy_sel z)
  | x :: w, y :: l, off, c, h => by
    unfold greedy at h
    by_cases q : x = y
    · subst q
      rw [if_pos rfl] at h
      exact .hit (greedy_sel h)
    · rw [if_neg q] at h
      cases z : greedy w (y :: l) (off + 1) with
      | none => rw [z] at h; cases h
      | some c' => rw [z] at h; cases h; exact .skip (greedy_sel z)
/-- fewer lie: still found -/
theorem Sel.drop1 {w l : List α} {off : Nat} {c : List Nat} (h : Sel w l off c) : ∀ {y : α} {l' : List α}, l = y :: l' → ∃ c', Sel w l' off c' := by
  induction h with
  | nil => intro y l' e; cases e
  | hit h ih =>
    intro y l' e
    cases e
    exact ⟨_, .skip h⟩
  | skip h ih =>
    intro y l' e
    obtain ⟨c', h'⟩ := ih e
    exact ⟨_, .skip h'⟩
theorem greedy_some : ∀ {w l : List α} {off : Nat} {c : List Nat}, Sel w l off c → ∃ g, greedy w l off = some g
  | [], l, off, c, h => by
    cases h
    exact ⟨[], rfl⟩
  | x :: w, l, off, c, h => by
    cases h with
    | hit h =>
      obtain ⟨g, hg⟩ := greedy_some h
      unfold greedy
      exact ⟨g, by rw [if_pos rfl]; exact hg⟩
    | skip h =>
      cases l with
      | nil =>
        obtain ⟨g, hg⟩ := greedy_some h
        unfold greedy
        exact ⟨off :: g, by rw [hg]; rfl⟩
      | cons y l =>
        unfold greedy
        by_cases q : x = y
        · rw [if_pos q]
          obtain ⟨c', h'⟩ := h.drop1 rfl
          exact greedy_some h'
        · rw [if_neg q]
          obtain ⟨g, hg⟩ := greedy_some h
          exact ⟨off :: g, by rw [hg]; rfl⟩
/-- greedy's list is the greatest -/
theorem greedy_max : ∀ {w l : List α} {off : Nat} {c g : List Nat}, Sel w l off c → greedy w l off = some g → c = g ∨ ∃ p a b r s, c = p ++ a :: r ∧ g = p ++ b :: s ∧ a < b
  | [], l, off, c, g, h, hg => by
    cases h
    cases hg
    exact .inl rfl
  | x :: w, l, off, c, g, h, hg => by
    cases h with
    | hit h =>
      unfold greedy at hg
      rw [if_pos rfl] at hg
      exact greedy_max h hg
    | @skip _ _ _ _ c' h =>
      have skipped : ∀ {g'}, greedy w l (off + 1) = some g' → g = off :: g' → off :: c' = g ∨ ∃ p a b r s, off :: c' = p ++ a :: r ∧ g = p ++ b :: s ∧ a < b := fun {g'} z e => by
        rcases greedy_max h z with rfl | ⟨p, a, b, r, s, rfl, rfl, lt⟩
        · exact .inl e.symm
        · exact .inr ⟨off :: p, a, b, r, s, rfl, e, lt⟩
      cases l with
      | nil =>
        unfold greedy at hg
        cases z : greedy w [] (off + 1) with
        | none => rw [z] at hg; cases hg
        | some g' => rw [z] at hg; cases hg; exact skipped z rfl
      | cons y l =>
        unfold greedy at hg
        by_cases q : x = y
        · rw [if_pos q] at hg
          have hs := greedy_sel hg
          have l1 := h.len
          have l2 := hs.len
          rw [List.length_cons] at l1
          cases g with
          | nil =>
            rw [List.length_nil] at l2
            omega
          | cons b s =>
            have := hs.lo b List.mem_cons_self
            exact .inr ⟨[], off, b, c', s, rfl, rfl, by omega⟩
        · rw [if_neg q] at hg
          cases z : greedy w (y :: l) (off + 1) with
          | none => rw [z] at hg; cases hg
          | some g' => rw [z] at hg; cases hg; exact skipped z rfl
end
end Sx

set_option Elab.async false
set_option linter.all false
set_option maxRecDepth 100000
set_option maxHeartbeats 2000000
namespace Sx
open PySem PySem.Spec PyProof.Rows L2 SxA SxK
theorem zssh : ScSup (defScope sStrangeSheetInit) ["self", "place"] := ⟨rfl, rfl, rfl, by decide +kernel, by decide +kernel, by decide +kernel, by decide +kernel, by decide +kernel, by decide +kernel⟩
section
variable {P : Program} {w : World} {K : PySem.W.Frag} {mg : Str → Option Value} {base : Heap}
theorem ok_ssh (t : T K mg) (er : ErrC P K mg xStrangeSheet) : ∃ fd, FnOk P w K mg base (L2.CX P w) 2 (xStrangeSheet.I K) fd ["self", "place"] (spXInt K "StrangeSheet" "place") ∧ Binds K fd ["self", "place"] [] := by
  obtain ⟨cc, cda, fd, S⟩ := er.sup
  refine ⟨fd, ?_, ?_⟩
  · refine fn_sup (k := 1) (CX := L2.CX P w) S zssh rfl rfl (fun vs H Q E h => ?_) (fun A outer s H vs Q E hr h => ?_) (fun _ => rfl) (fun _ => rfl) (fun _ => rfl) (fun _ => rfl)
    · obtain ⟨a, l, rfl, _⟩ := h
      rfl
    · obtain ⟨a, l, rfl, ha, hl, hq⟩ := h
      refine ⟨_, _, a, _, pa_cons (pe_joined (.cons pe_str (.cons (pe_fmt (pe_ok (ok_number_word t) hr rfl (pa_cons (pv 1) pa_nil))) (.cons pe_str .nil)))) pa_nil, pss_one (ps_ost (pv 0) (pv 1)), rfl, ha, ?_⟩
      have tl : (Str.ofString (toString l)).length ≤ 10 := toString_length_le hl.1 (by decide) hl.2
      have e0 : Str.empty.length = 0 := rfl
      have e1 : (Str.ofString "the sheet at ").length = 13 := by decide +kernel
      have e2 : (Str.ofString " is strange").length = 11 := by decide +kernel
      refine ⟨_, rfl, (by rw [len_app, e0, e1, sizeLine_eq]; omega), ?_⟩
      refine ⟨_, rfl, l, rfl, hl, fun H1 s1 => .inl ⟨_, rfl, (by rw [sizeLine_eq]; omega), _, rfl, (by rw [len_app, len_app, e0, e1, sizeLine_eq]; omega), ?_⟩⟩
      have ha1 := s1 _ _ ha
      refine ⟨_, rfl, (by rw [len_app, len_app, len_app, e0, e1, e2, sizeLine_eq]; omega), ?_⟩
      refine ⟨(by show 1 ≤ 1000; decide), ha1, ?_⟩
      have hn : ∀ f ∈ xStrangeSheet.ats, PySem.W.findIn K (.ref (He.ga K "StrangeSheet")) f = some none := er.ats
      refine ⟨_, rfl, _, rfl, a, _, rfl, S.ex, hn "place" (by decide), .inl ⟨ha1, fun dx hdx ne => ?_⟩⟩
      have q := hq H1 dx s1 hdx ne
      have eH : ∀ (o1 o4 : HO), upd (upd H1 dx o1) a o4 = upd (upd H1 a o4) dx o1 := fun o1 o4 => funext fun b => by
        by_cases hb : b = dx
        · subst hb
          rw [upd_ne ne, upd_same, upd_same]
        · rw [upd_ne hb]
          by_cases hb2 : b = a
          · subst hb2
            rw [upd_same, upd_same]
          · rw [upd_ne hb2, upd_ne hb2, upd_ne hb]
      show Q .non _
      rw [eH]
      exact q
  · obtain ⟨oc, od, kV, doc, pm, an, ct, osl, efd, hf⟩ := S.fn
    subst efd
    intro s us _ hl
    rw [List.append_nil] at hl ⊢
    match us, hl with
    | [_, _], _ => exact .of_eq rfl
theorem pmk_ssh {X : Cx} {k : Nat} {p pos : Pos} {a : Expr} {as : List Expr} {ta : TA} (t : T X.K X.mg) (er : ErrC X.prog X.K X.mg xStrangeSheet) (hr : Room (k + 3) X.A) (hg : Gl X "StrangeSheet") (ha : PA X (a :: as) ta)
    (he : starEach (a :: as) X.env = (false, eval a X.env) :: starEach as X.env := by rfl) (hpl : (backTo pos (starEach as X.env)).any (·.1) = false := by rfl) :
    PMk X (.Call (.Name "StrangeSheet" p) (a :: as) [] pos) (tMkO (He.ga X.K "StrangeSheet") (spXInt X.K "StrangeSheet" "place") [] ta) := by
  obtain ⟨fd, F, b⟩ := ok_ssh (w := X.w) (base := X.base) t er
  obtain ⟨cc, cda, fd2, S⟩ := er.sup
  exact pmk_oex (k := 2) S.ex S.iC S.tI F (hr.mono (by omega)) b .nil (fun pins σ H s e s' I c => by
    obtain ⟨_, _, _, _, _, _, _, _, _, _, _, _, z⟩ := c
    exact z.elim) hg er.glob ha (by decide) he hpl
end
theorem znmi : ScSup (defScope sNotMissingInit) ["self", "number"] := ⟨rfl, rfl, rfl, by decide +kernel, by decide +kernel, by decide +kernel, by decide +kernel, by decide +kernel, by decide +kernel⟩
section
variable {P : Program} {w : World} {K : PySem.W.Frag} {mg : Str → Option Value} {base : Heap}
theorem ok_nmi (t : T K mg) (er : ErrC P K mg xNotMissing) : ∃ fd, FnOk P w K mg base (L2.CX P w) 2 (xNotMissing.I K) fd ["self", "number"] (spXInt K "NotMissing" "number") ∧ Binds K fd ["self", "number"] [] := by
  obtain ⟨cc, cda, fd, S⟩ := er.sup
  refine ⟨fd, ?_, ?_⟩
  · refine fn_sup (k := 1) (CX := L2.CX P w) S znmi rfl rfl (fun vs H Q E h => ?_) (fun A outer s H vs Q E hr h => ?_) (fun _ => rfl) (fun _ => rfl) (fun _ => rfl) (fun _ => rfl)
    · obtain ⟨a, l, rfl, _⟩ := h
      rfl
    · obtain ⟨a, l, rfl, ha, hl, hq⟩ := h
      refine ⟨_, _, a, _, pa_cons (pe_joined (.cons pe_str (.cons (pe_fmt (pe_ok (ok_number_word t) hr rfl (pa_cons (pv 1) pa_nil))) (.cons pe_str .nil)))) pa_nil, pss_one (ps_ost (pv 0) (pv 1)), rfl, ha, ?_⟩
      have tl : (Str.ofString (toString l)).length ≤ 10 := toString_length_le hl.1 (by decide) hl.2
      have e0 : Str.empty.length = 0 := rfl
      have e1 : (Str.ofString "the further sheet ").length = 18 := by decide +kernel
      have e2 : (Str.ofString " is not the one whose turn it is").length = 32 := by decide +kernel
      refine ⟨_, rfl, (by rw [len_app, e0, e1, sizeLine_eq]; omega), ?_⟩
      refine ⟨_, rfl, l, rfl, hl, fun H1 s1 => .inl ⟨_, rfl, (by rw [sizeLine_eq]; omega), _, rfl, (by rw [len_app, len_app, e0, e1, sizeLine_eq]; omega), ?_⟩⟩
      have ha1 := s1 _ _ ha
      refine ⟨_, rfl, (by rw [len_app, len_app, len_app, e0, e1, e2, sizeLine_eq]; omega), ?_⟩
      refine ⟨(by show 1 ≤ 1000; decide), ha1, ?_⟩
      have hn : ∀ f ∈ xNotMissing.ats, PySem.W.findIn K (.ref (He.ga K "NotMissing")) f = some none := er.ats
      refine ⟨_, rfl, _, rfl, a, _, rfl, S.ex, hn "number" (by decide), .inl ⟨ha1, fun dx hdx ne => ?_⟩⟩
      have q := hq H1 dx s1 hdx ne
      have eH : ∀ (o1 o4 : HO), upd (upd H1 dx o1) a o4 = upd (upd H1 a o4) dx o1 := fun o1 o4 => funext fun b => by
        by_cases hb : b = dx
        · subst hb
          rw [upd_ne ne, upd_same, upd_same]
        · rw [upd_ne hb]
          by_cases hb2 : b = a
          · subst hb2
            rw [upd_same, upd_same]
          · rw [upd_ne hb2, upd_ne hb2, upd_ne hb]
      show Q .non _
      rw [eH]
      exact q
  · obtain ⟨oc, od, kV, doc, pm, an, ct, osl, efd, hf⟩ := S.fn
    subst efd
    intro s us _ hl
    rw [List.append_nil] at hl ⊢
    match us, hl with
    | [_, _], _ => exact .of_eq rfl
theorem pmk_nmi {X : Cx} {k : Nat} {p pos : Pos} {a : Expr} {as : List Expr} {ta : TA} (t : T X.K X.mg) (er : ErrC X.prog X.K X.mg xNotMissing) (hr : Room (k + 3) X.A) (hg : Gl X "NotMissing") (ha : PA X (a :: as) ta)
    (he : starEach (a :: as) X.env = (false, eval a X.env) :: starEach as X.env := by rfl) (hpl : (backTo pos (starEach as X.env)).any (·.1) = false := by rfl) :
    PMk X (.Call (.Name "NotMissing" p) (a :: as) [] pos) (tMkO (He.ga X.K "NotMissing") (spXInt X.K "NotMissing" "number") [] ta) := by
  obtain ⟨fd, F, b⟩ := ok_nmi (w := X.w) (base := X.base) t er
  obtain ⟨cc, cda, fd2, S⟩ := er.sup
  exact pmk_oex (k := 2) S.ex S.iC S.tI F (hr.mono (by omega)) b .nil (fun pins σ H s e s' I c => by
    obtain ⟨_, _, _, _, _, _, _, _, _, _, _, _, z⟩ := c
    exact z.elim) hg er.glob ha (by decide) he hpl
end
/-! ### missing -/
/-- how many of the lying ones are found -/
def spMiss (K : PySem.W.Frag) : Sp := fun vs H Q E => ∃ (p q : Addr) (ws ls : List Str), vs = [.ref p, .ref q] ∧ H p = some (.lst (ws.map V.str)) ∧ H q = some (.lst (ls.map V.str)) ∧ ws.length ≤ 100 ∧ ls.length ≤ 100 ∧
  (∀ g, greedy ws ls 0 = some g → ∀ r H', H r = none → Same H H' → H' r = some (.lst (g.map fun n : Nat => V.int (n : Int))) → Q (.ref r) H') ∧
  (∀ k, k < ls.length → (greedy ws (ls.take k) 0).isSome = true → greedy ws (ls.take (k + 1)) 0 = none → ErI K "StrangeSheet" "place" E H (k : Int))
end Sx

set_option Elab.async false
set_option linter.all false
set_option maxRecDepth 100000
set_option maxHeartbeats 2000000
namespace Sx
open PySem PySem.Spec PyProof.Rows L2 SxA SxK
theorem greedy_nil {α : Type} [DecidableEq α] : ∀ (w : List α) (off : Nat), greedy w [] off = some (List.range' off w.length)
  | [], off => rfl
  | x :: w, off => by
    unfold greedy
    rw [greedy_nil w (off + 1)]
    rfl
/-- the way so far -/
def GInv (ws ls : List Str) (i pl : Nat) (fd : List Nat) (first : Option Str) : Prop := pl ≤ ws.length ∧ fd.length ≤ pl ∧ ∀ l, (match first with | none => True | some y => ∃ l', l = y :: l') → greedy ws (ls.take i ++ l) 0 = (greedy (ws.drop pl) l pl).map (fd ++ ·)
theorem GInv.first {ws ls : List Str} {i pl : Nat} {fd : List Nat} (h : GInv ws ls i pl fd none) (y : Str) : GInv ws ls i pl fd (some y) := ⟨h.1, h.2.1, fun l _ => h.2.2 l trivial⟩
theorem GInv.skip {ws ls : List Str} {i pl : Nat} {fd : List Nat} {y x : Str} (h : GInv ws ls i pl fd (some y)) (hx : ws[pl]? = some x) (ne : x ≠ y) : GInv ws ls i (pl + 1) (fd ++ [pl]) (some y) := by
  have pl' := (List.getElem?_eq_some_iff.mp hx).1
  refine ⟨by omega, by rw [List.length_append]; exact Nat.succ_le_succ h.2.1, fun l hl => ?_⟩
  rw [h.2.2 l hl]
  obtain ⟨l', rfl⟩ := hl
  have e : ws.drop pl = x :: ws.drop (pl + 1) := by
    rw [List.drop_eq_getElem_cons pl']
    congr 1
    exact Option.some.inj ((List.getElem?_eq_getElem pl').symm.trans hx)
  rw [e]
  conv => lhs; unfold greedy
  rw [if_neg ne]
  cases greedy (ws.drop (pl + 1)) (y :: l') (pl + 1) with
  | none => rfl
  | some g => show some (fd ++ pl :: g) = some ((fd ++ [pl]) ++ g); rw [List.append_assoc]; rfl
theorem GInv.hit {ws ls : List Str} {i pl : Nat} {fd : List Nat} {y : Str} (h : GInv ws ls i pl fd (some y)) (hx : ws[pl]? = some y) (hy : ls[i]? = some y) : GInv ws ls (i + 1) (pl + 1) fd none := by
  have pl' := (List.getElem?_eq_some_iff.mp hx).1
  refine ⟨by omega, by have := h.2.1; omega, fun l _ => ?_⟩
  have e1 : ls.take (i + 1) ++ l = ls.take i ++ y :: l := by rw [List.take_add_one, hy]; simp
  rw [e1, h.2.2 (y :: l) ⟨l, rfl⟩]
  have e : ws.drop pl = y :: ws.drop (pl + 1) := by
    rw [List.drop_eq_getElem_cons pl']
    congr 1
    exact Option.some.inj ((List.getElem?_eq_getElem pl').symm.trans hx)
  rw [e]
  conv => lhs; unfold greedy
  rw [if_pos rfl]
theorem GInv.bad {ws ls : List Str} {i pl : Nat} {fd : List Nat} {y : Str} (h : GInv ws ls i pl fd (some y)) (hx : pl = ws.length) (hy : ls[i]? = some y) : greedy ws (ls.take (i + 1)) 0 = none := by
  have e1 : ls.take (i + 1) = ls.take i ++ y :: [] := by rw [List.take_add_one, hy]; rfl
  rw [e1, h.2.2 [y] ⟨[], rfl⟩, hx, List.drop_length]
  rfl
theorem strAt {ws : List Str} {i : Nat} {v : V} (h : (ws.map V.str)[i]? = some v) : ∃ y, ws[i]? = some y ∧ v = V.str y := by
  rw [List.getElem?_map] at h
  cases z : ws[i]? with
  | none => rw [z] at h; cases h
  | some y => rw [z] at h; exact ⟨y, rfl, (Option.some.inj h).symm⟩
section
variable {P : Program} {w : World} {K : PySem.W.Frag} {mg : Str → Option Value} {base : Heap}
abbrev nsMissing : List Str := ["wanted", "lying", "found", "place", "number", "sheet"]
theorem scMissing : FnScope nsMissing ["wanted", "lying"] (defScope sMissing) := ⟨rfl, rfl, rfl, by decide +kernel, rfl, by decide +kernel, by decide +kernel⟩
theorem ok_missing (t : T K mg) (er : ErrC P K mg xStrangeSheet) : OkX P w K mg base 4 "missing" ["wanted", "lying"] (spMiss K) := by
  refine mkOkX t.d_missing t.g_missing scMissing (fun vs H Q E h => ?_) (fun _ _ _ _ _ _ us hl => match us, hl with | [_, _], _ => rfl) fun cdv A outer s H vs Q E hr h => ?_
  · obtain ⟨p, q, ws, ls, rfl, _⟩ := h; rfl
  obtain ⟨p, q, ws, ls, rfl, hp, hq, wl, ll, k, ke⟩ := h
  refine ⟨_, pss_cons (ps_set (i := 2) scMissing.nd rfl (Or.inl rfl) (pe_lst pa_nil))
    (pss_cons (ps_set (i := 3) scMissing.nd rfl (Or.inl rfl) pe_int)
    (pss_cons (ps_for (passes_of rfl) rfl (pi_enum (by rfl) t.f_enumerate (pa_cons (pv 1) pa_nil)) (pg_tup rfl (pgs_cons (pg_name (i := 4) scMissing.nd rfl (Or.inl rfl)) (pgs_cons (pg_name (i := 5) scMissing.nd rfl (Or.inl rfl)) pgs_nil)))
      (C8.pss_cut (ps_while (passes_of rfl) (PW.pt (pw_and (pt_cmpR op_lt (pv 3) (pe_callB call_len_seq rfl t.f_len boot_len (pa_cons (pv 0) pa_nil)) (nomark _)) (pw_and1 (pt_cmpR op_ne (pe_ix ix_list (pv 0) (pv 3) (fun _ _ => rfl)) (pv 5) (nomark _)))))
      (pss_cons (ps_expr (pe_bm PySem.F.plainAttrs_list PySem.F.slot_list_append PySem.F.type_list_append mt_append (pv 2) (pa_cons (pv 3) pa_nil)))
    (pss_one (ps_aug (i := 3) scMissing.nd rfl (Or.inl rfl) pe_int ip_add))))
    (pss_cons (ps_if (pt_cmpR op_eq (pv 3) (pe_callB call_len_seq rfl t.f_len boot_len (pa_cons (pv 0) pa_nil)) (nomark _))
      (pss_one (ps_raise rfl (takes_of rfl rfl rfl rfl) (pmk_ssh (k := 0) t er hr rfl (pa_cons (pv 4) pa_nil))))
      pss_nil)
    (pss_one (ps_aug (i := 3) scMissing.nd rfl (Or.inl rfl) pe_int ip_add)))))
    (pss_one (ps_ret (pe_op op_cat (pv 2) (pe_listRg rfl rfl t.f_list (prg_2 rfl t.f_range (pv 3) (pe_callB call_len_seq rfl t.f_len boot_len (pa_cons (pv 0) pa_nil))))))))), ?_⟩
  have lw : (ws.map V.str).length = ws.length := List.length_map ..
  refine ⟨(by show 0 ≤ sizeLine; decide), fun F hF => ?_⟩
  have sF : Same H (upd H F (.lst [])) := Same.new hF
  refine ⟨_, rfl, q, _, rfl, SqL.of (sF _ _ hq), ?_⟩
  refine for_it (walk_enum (K := K) (a := q) (xs := ls.map V.str)) (fun i σ' H' => (∃ (pl : Nat) (fd : List Nat) (o4 o5 : Option V), σ' = [some (.ref p), some (.ref q), some (.ref F), some (.int (pl : Int)), o4, o5] ∧ H' F = some (.lst (fd.map fun n : Nat => V.int (n : Int))) ∧ GInv ws ls i pl fd none) ∧ Same H H') ⟨⟨0, [], _, _, rfl, upd_same, Nat.zero_le _, Nat.le_refl _, fun l _ => ?_⟩, sF⟩ (fun i σ' H' _ p => SqL.of (p.2 _ _ hq)) ?_ ?_
  · rw [List.take_zero, List.nil_append, List.drop_zero]
    cases greedy ws l 0 <;> rfl
  · rintro i v σ' H1 H2 hi ⟨⟨pl, fd, o4, o5, rfl, hF1, hg⟩, s1⟩ ⟨T, x1, y, rfl, hT, rfl, ex, ey⟩
    have ex := (Option.some.inj ex).symm
    subst ex
    obtain ⟨y, hy, rfl⟩ := strAt ey
    have hsome : (greedy ws (ls.take i) 0).isSome = true := by
      have := hg.2.2 [] trivial
      rw [List.append_nil, greedy_nil] at this
      rw [this]; rfl
    have il := (List.getElem?_eq_some_iff.mp hy).1
    have s2 : Same H (upd H1 T (.tup [V.int ((i : Nat) : Int), V.str y])) := s1.trans (Same.new hT)
    have hF2 := Same.new (o := .tup [V.int ((i : Nat) : Int), V.str y]) hT _ _ hF1
    refine ⟨T, _, rfl, SqT.of upd_same, rfl, _, _, rfl, _, _, rfl, rfl, ?_⟩
    generalize upd H1 T (.tup [V.int ((i : Nat) : Int), V.str y]) = H2 at s2 hF2
    refine ⟨fun σ2 H3 => ∃ (pl : Nat) (fd : List Nat), σ2 = [some (.ref p), some (.ref q), some (.ref F), some (.int (pl : Int)), some (.int (i : Int)), some (.str y)] ∧ H3 F = some (.lst (fd.map fun n : Nat => V.int (n : Int))) ∧ GInv ws ls i pl fd (some y) ∧ Same H H3 ∧ (pl = ws.length ∨ ws[pl]? = some y), ?_, ?_⟩
    · refine ⟨fun μ σ' H' => ∃ (pl : Nat) (fd : List Nat), σ' = [some (.ref p), some (.ref q), some (.ref F), some (.int (pl : Int)), some (.int (i : Int)), some (.str y)] ∧ μ = ws.length - pl ∧ H' F = some (.lst (fd.map fun n : Nat => V.int (n : Int))) ∧ GInv ws ls i pl fd (some y) ∧ Same H H', ⟨_, pl, fd, rfl, rfl, hF2, hg.first y, s2⟩, ?_⟩
      rintro μ σ' H3 ⟨pl, fd, rfl, rfl, hF3, hg, s3⟩
      refine ⟨_, rfl, _, rfl, p, _, rfl, .inl (SqL.of (s3 _ _ hp)), _, _, rfl, rfl, _, rfl, ite2 (fun h1 => ?_) (fun h1 => ?_)⟩
      · have lt : pl < ws.length := by
          have := of_decide_eq_true h1
          rw [lw] at this
          omega
        obtain ⟨x, hx⟩ : ∃ x, ws[pl]? = some x := ⟨_, List.getElem?_eq_getElem lt⟩
        refine ⟨_, rfl, _, rfl, p, _, _, .str x, rfl, rfl, SqL.of (s3 _ _ hp), atI_nat (by rw [List.getElem?_map, hx]; rfl), _, rfl, rfl, _, rfl, ite2 (fun h2 => ?_) (fun h2 => ?_)⟩
        · have ne : x ≠ y := fun e => by rw [e] at h2; simp at h2
          have hN := hg.skip hx ne
          refine ⟨fun σ' H' => ∃ m', m' < ws.length - pl ∧ ∃ (pl : Nat) (fd : List Nat), σ' = [some (.ref p), some (.ref q), some (.ref F), some (.int (pl : Int)), some (.int (i : Int)), some (.str y)] ∧ m' = ws.length - pl ∧ H' F = some (.lst (fd.map fun n : Nat => V.int (n : Int))) ∧ GInv ws ls i pl fd (some y) ∧ Same H H', fun σ' H' h => h, ?_⟩
          have fl : fd.length ≤ 100 := by have := hg.2.1; omega
          refine ⟨_, rfl, .inl ⟨rfl, _, SqL.of hF3⟩, _, rfl, F, _, _, rfl, rfl, hF3, by rw [List.length_map]; exact small1 (by omega), ?_⟩
          exact ⟨_, rfl, _, _, rfl, rfl, _, by omega, pl + 1, fd ++ [pl], rfl, rfl, by rw [upd_same, List.map_append]; rfl, hN, Same.put s3 hF⟩
        · have e : x = y := by
            by_cases q : x = y
            · exact q
            · exfalso
              apply h2
              have : ¬ (V.str x = V.str y) := fun z => q (V.str.inj z)
              rw [decide_eq_false this]
              rfl
          exact ⟨pl, fd, rfl, hF3, hg, s3, .inr (by rw [hx, e])⟩
      · have e : pl = ws.length := by
          have h3 := hg.1
          have : ¬ pl < ws.length := fun z => h1 (decide_eq_true (by rw [lw]; omega))
          omega
        exact ⟨pl, fd, rfl, hF3, hg, s3, .inl e⟩
    rintro σ2 H3 ⟨pl, fd, rfl, hF3, hg, s3, hend⟩
    refine ⟨_, rfl, _, rfl, p, _, rfl, .inl (SqL.of (s3 _ _ hp)), rfl, _, rfl, ite2 (fun h1 => ?_) (fun h1 => ?_)⟩
    · have e : pl = ws.length := by
        have := V.int.inj (of_decide_eq_true h1)
        rw [lw] at this
        omega
      refine ⟨_, rfl, ?_⟩
      exact mk_errI (by constructor <;> omega) ((ke i il hsome (hg.bad e hy)).same s3)
    · have ne : pl ≠ ws.length := fun z => h1 (by rw [lw, z]; exact decide_eq_true rfl)
      have hx := hend.resolve_left ne
      exact ⟨_, rfl, _, _, rfl, rfl, ⟨pl + 1, fd, _, _, rfl, hF3, hg.hit hx hy⟩, s3⟩
  · rintro σ' H' ⟨⟨pl, fd, o4, o5, rfl, hF1, hg⟩, s1⟩
    have h3 := hg.1
    have h4 := hg.2.1
    rw [List.length_map] at hg
    have hgr : greedy ws ls 0 = some (fd ++ List.range' pl (ws.drop pl).length) := by
      have := hg.2.2 [] trivial
      rw [List.take_length, List.append_nil, greedy_nil] at this
      exact this
    refine ⟨_, rfl, _, rfl, _, rfl, p, _, rfl, .inl (SqL.of (s1 _ _ hp)), _, _, rfl, rfl, ?_⟩
    show RgOk (pl : Int) ((((ws.map V.str).length : Nat) : Int)) ∧ _
    rw [lw]
    refine ⟨⟨by omega, by omega, by omega, by omega, by omega⟩, fun r hr => ?_⟩
    have s2 := s1.trans (Same.new (o := .lst (rgV (pl : Int) ((ws.length : Nat) : Int))) hr)
    have hr2 := upd_same (H := H') (a := r) (o := .lst (rgV (pl : Int) ((ws.length : Nat) : Int)))
    have hF2 := Same.new (o := .lst (rgV (pl : Int) ((ws.length : Nat) : Int))) hr _ _ hF1
    have erg : rgV (pl : Int) ((ws.length : Nat) : Int) = (List.range' pl (ws.drop pl).length).map fun n : Nat => V.int (n : Int) := by
      unfold rgV
      rw [List.range'_eq_map_range, List.map_map, List.length_drop, show ((((ws.length : Nat) : Int) - (pl : Int)).toNat) = ws.length - pl by omega]
      refine List.map_congr_left fun j _ => ?_
      show V.int ((pl : Int) + (j : Int)) = V.int (((pl + j : Nat) : Int))
      rw [Int.natCast_add]
    generalize upd H' r (.lst (rgV (pl : Int) ((ws.length : Nat) : Int))) = H9 at s2 hr2 hF2
    rw [erg] at hr2
    refine ⟨F, r, _, _, rfl, rfl, hF2, hr2, Nat.le_of_lt (small1 (by rw [List.length_map, List.length_map, List.length_range', List.length_drop]; omega)), fun u hu => ?_⟩
    refine k _ hgr u _ (Sx.Same.none s2 _ hu) (s2.trans (Same.new hu)) ?_
    rw [upd_same, List.map_append]
end
end Sx

set_option Elab.async false
set_option linter.all false
set_option maxRecDepth 100000
set_option maxHeartbeats 2000000
namespace Sx
open PySem PySem.Spec PyProof.Rows L2 SxA SxK
def spShort : Sp := fun vs H Q _ => ∃ (p q : Addr) (ws ls : List Str), vs = [.ref p, .ref q] ∧ H p = some (.lst (ws.map V.str)) ∧ H q = some (.lst (ls.map V.str)) ∧ ws.length ≤ 100 ∧ ls.length ≤ 100 ∧ Q (.bl (greedy ws ls 0).isSome) H
theorem greedy_off {α : Type} [DecidableEq α] : ∀ (w l : List α) (a b : Nat), (greedy w l a).isSome = (greedy w l b).isSome
  | [], [], _, _ => rfl
  | [], _ :: _, _, _ => rfl
  | x :: w, [], a, b => by rw [greedy_nil, greedy_nil]; rfl
  | x :: w, y :: l, a, b => by
    unfold greedy
    by_cases q : x = y
    · rw [if_pos q, if_pos q]; exact greedy_off w l _ _
    · rw [if_neg q, if_neg q, Option.isSome_map, Option.isSome_map]; exact greedy_off w (y :: l) _ _
section
variable {P : Program} {w : World} {K : PySem.W.Frag} {mg : Str → Option Value} {base : Heap}
abbrev nsLawShort : List Str := ["wanted", "lying", "at", "sheet"]
theorem scLawShort : FnScope nsLawShort ["wanted", "lying"] (defScope sLawShort) := ⟨rfl, rfl, rfl, by decide +kernel, rfl, by decide +kernel, by decide +kernel⟩
theorem ok_law_short (t : T K mg) : Ok P w K mg base 1 "_law_short" ["wanted", "lying"] spShort := by
  refine mkOk t.d_law_short t.g_law_short scLawShort (fun vs H Q E h => ?_) (fun _ _ _ _ _ _ us hl => match us, hl with | [_, _], _ => rfl) fun cdv A outer s H vs Q E hr h => ?_
  · obtain ⟨p, q, ws, ls, rfl, _⟩ := h; rfl
  obtain ⟨p, q, ws, ls, rfl, hp, hq, wl, ll, k⟩ := h
  refine ⟨_, pss_cons (ps_set (i := 2) scLawShort.nd rfl (Or.inl rfl) pe_int)
    (pss_cons (ps_for PassesOwn.never rfl (pi_list (pv 0)) (pg_name (i := 3) scLawShort.nd rfl (Or.inl rfl))
      (pss_one (ps_if (PW.pt (pw_and (pt_cmpR op_lt (pv 2) (pe_callB call_len_seq rfl t.f_len boot_len (pa_cons (pv 1) pa_nil)) (nomark _)) (pw_and1 (pt_cmpR op_eq (pe_ix ix_list (pv 1) (pv 2) (fun _ _ => rfl)) (pv 3) (nomark _)))))
      (pss_one (ps_set (i := 2) scLawShort.nd rfl (Or.inl rfl) (pe_op op_add (pv 2) pe_int)))
      pss_nil)))
    (pss_one (ps_ret (pe_cmpR op_eq (pv 2) (pe_callB call_len_seq rfl t.f_len boot_len (pa_cons (pv 1) pa_nil)) (nomark _))))), ?_⟩
  have lw : (ls.map V.str).length = ls.length := List.length_map ..
  refine ⟨_, rfl, p, rfl, ⟨_, SqL.of hp⟩, ?_⟩
  refine for_list (K := K) (a := p) (xs := ws.map V.str) (fun i σ' H' => (∃ (n : Nat) (o3 : Option V), σ' = [some (.ref p), some (.ref q), some (.int (n : Int)), o3] ∧ n ≤ ls.length ∧ (greedy ws ls 0).isSome = (greedy (ws.drop i) (ls.drop n) 0).isSome) ∧ H' = H) ⟨⟨0, _, rfl, Nat.zero_le _, rfl⟩, rfl⟩ (fun i σ' H' _ r => SqL.of (by rw [r.2]; exact hp)) ?_ ?_
  · rintro i v σ' H' hv ⟨⟨n, o3, rfl, nl, e⟩, rfl⟩
    obtain ⟨x, hx, rfl⟩ := strAt hv
    have il := (List.getElem?_eq_some_iff.mp hx).1
    have ed : ws.drop i = x :: ws.drop (i + 1) := by
      rw [List.drop_eq_getElem_cons il]
      congr 1
      exact Option.some.inj ((List.getElem?_eq_getElem il).symm.trans hx)
    rw [ed] at e
    refine ⟨_, rfl, _, rfl, q, _, rfl, .inl (SqL.of hq), _, _, rfl, rfl, _, rfl, ite2 (fun h1 => ?_) (fun h1 => ?_)⟩
    · have lt : n < ls.length := by
        have := of_decide_eq_true h1
        rw [lw] at this
        omega
      obtain ⟨y, hy⟩ : ∃ y, ls[n]? = some y := ⟨_, List.getElem?_eq_getElem lt⟩
      have el : ls.drop n = y :: ls.drop (n + 1) := by
        rw [List.drop_eq_getElem_cons lt]
        congr 1
        exact Option.some.inj ((List.getElem?_eq_getElem lt).symm.trans hy)
      rw [el] at e
      refine ⟨_, rfl, _, rfl, q, _, _, .str y, rfl, rfl, SqL.of hq, atI_nat (by rw [List.getElem?_map, hy]; rfl), _, rfl, rfl, _, rfl, ite2 (fun h2 => ?_) (fun h2 => ?_)⟩
      · have exy : x = y := (V.str.inj (of_decide_eq_true h2)).symm
        refine ⟨_, rfl, _, _, rfl, rfl, ⟨n + 1, _, rfl, by omega, ?_⟩, rfl⟩
        rw [e]
        conv => lhs; unfold greedy
        rw [if_pos exy]
        exact greedy_off _ _ _ _
      · have exy : x ≠ y := fun z => h2 (by rw [z]; exact decide_eq_true rfl)
        refine ⟨⟨n, _, rfl, nl, ?_⟩, rfl⟩
        rw [e, el]
        conv => lhs; unfold greedy
        rw [if_neg exy, Option.isSome_map]
        exact greedy_off _ _ _ _
    · have en : n = ls.length := by
        have : ¬ n < ls.length := fun z => h1 (decide_eq_true (by rw [lw]; omega))
        omega
      refine ⟨⟨n, _, rfl, nl, ?_⟩, rfl⟩
      rw [e, en, List.drop_length, greedy_nil, greedy_nil]
      rfl
  · rintro σ' H' ⟨⟨n, o3, rfl, nl, e⟩, rfl⟩
    refine ⟨_, rfl, _, rfl, q, _, rfl, .inl (SqL.of hq), rfl, ?_⟩
    rw [List.length_map, List.drop_length] at e
    have : decide (V.int (n : Int) = V.int ((((ls.map V.str).length : Nat)) : Int)) = (greedy ws ls 0).isSome := by
      rw [lw, e]
      by_cases z : n = ls.length
      · rw [z, List.drop_length, decide_eq_true rfl]
        rfl
      · rw [decide_eq_false (fun h => z (by have := V.int.inj h; omega))]
        have lt : n < ls.length := by omega
        rw [List.drop_eq_getElem_cons lt]
        rfl
    show Q (.bl (decide (V.int (n : Int) = V.int ((((ls.map V.str).length : Nat)) : Int)))) _
    rw [this]
    exact k
end
end Sx

set_option Elab.async false
set_option linter.all false
set_option maxRecDepth 100000
set_option maxHeartbeats 2000000
namespace Sx
open PySem PySem.Spec PyProof.Rows L2 SxA SxK
/-- lists of numbers, in a list -/
structure LI (H : Hp) (r : Addr) (as : List Addr) (cs : List (List Nat)) : Prop where
  at_ : H r = some (.lst (as.map V.ref))
  len : as.length = cs.length
  el : ∀ (i : Nat) (a : Addr) (c : List Nat), as[i]? = some a → cs[i]? = some c → H a = some (.lst (c.map fun n : Nat => V.int (n : Int)))
theorem LI.same {H H' : Hp} {r : Addr} {as : List Addr} {cs : List (List Nat)} (h : LI H r as cs) (s : Same H H') : LI H' r as cs := ⟨s _ _ h.at_, h.len, fun i a c e1 e2 => s _ _ (h.el i a c e1 e2)⟩
def OkS (ws : List Str) : Prop := ∀ s, s ∈ ws → PyData.strOk s = true
def pStrs (ws : List Str) : PyData := .list (ws.map PyData.str)
theorem lay_strs : ∀ {ws : List Str}, OkS ws → PyData.canLayAll0 (ws.map PyData.str) = true
  | [], _ => by simp [PyData.canLayAll0]
  | x :: r, h => by
    have := lay_strs (ws := r) fun s hs => h s (List.mem_cons_of_mem _ hs)
    have hx := h x List.mem_cons_self
    simp [PyData.canLayAll0, PyData.canLay0, hx, this]
theorem dep_strs : ∀ ws : List Str, PyData.depthAll (ws.map PyData.str) ≤ 5
  | [] => by simp [PyData.depthAll]
  | x :: r => by
    have := dep_strs r
    simp [PyData.depthAll, PyData.depth]
    omega
theorem shaped_strs {ws : List Str} (h : OkS ws) : SeqAt.shaped (pStrs ws) = true := by
  have h1 := dep_strs ws
  unfold SeqAt.shaped pStrs
  simp [PyData.canLay0, PyData.depth, lay_strs h]
  omega
theorem dpAll_strs {K : PySem.W.Frag} {H : Hp} : ∀ ws : List Str, DpAll K H (ws.map V.str) (ws.map PyData.str)
  | [] => .nil
  | x :: r => .cons (.str x) (dpAll_strs r)
theorem dp_strs {K : PySem.W.Frag} {H : Hp} {p : Addr} {ws : List Str} (h : H p = some (.lst (ws.map V.str))) : Dp K H (.ref p) (pStrs ws) := .lst (SqL.of h) (dpAll_strs ws)
theorem eqS_nil {K : PySem.W.Frag} {H : Hp} {p q : Addr} {ws : List Str} {Q : VK} (h : OkS ws) (hp : H p = some (.lst (ws.map V.str))) (hq : H q = some (.lst [])) (k : Q (.bl (decide (ws = []))) H) : rEqD K (.ref p) (.ref q) H Q := by
  refine ⟨pStrs ws, .list [], dp_strs hp, .lst (SqL.of hq) .nil, shaped_strs h, rfl, ?_⟩
  cases ws <;> exact k
theorem neS_nil {K : PySem.W.Frag} {H : Hp} {p q : Addr} {ws : List Str} {Q : VK} (h : OkS ws) (hp : H p = some (.lst (ws.map V.str))) (hq : H q = some (.lst [])) (k : Q (.bl (!decide (ws = []))) H) : rNeD K (.ref p) (.ref q) H Q := by
  refine ⟨pStrs ws, .list [], dp_strs hp, .lst (SqL.of hq) .nil, shaped_strs h, rfl, ?_⟩
  cases ws <;> exact k
theorem atI_last {xs : List V} {x : V} : atI (xs ++ [x]) (-1) = some x := by
  have e : ixN (xs ++ [x]).length (-1) = some xs.length := by
    unfold ixN
    rw [List.length_append, if_neg (by decide)]
    show (if _ then _ else _) = _
    rw [if_pos (by show -((xs.length + 1 : Nat) : Int) ≤ -1; omega)]
    congr 1
    show ((-1 : Int) + ((xs.length + 1 : Nat) : Int)).toNat = _
    omega
  unfold atI
  rw [e]
  show (xs ++ [x])[xs.length]? = some x
  rw [List.getElem?_append_right (Nat.le_refl _), Nat.sub_self]
  rfl
abbrev nI (c : List Nat) : List V := c.map fun n : Nat => V.int (n : Int)
def LIF (H : Hp) (F : Addr) (as : List Addr) (cs : List (List Nat)) : Prop := LI H F as cs ∧ ∀ a, a ∈ as → a ≠ F
theorem LIF.same {H H' : Hp} {F : Addr} {as : List Addr} {cs : List (List Nat)} (h : LIF H F as cs) (s : Same H H') : LIF H' F as cs := ⟨h.1.same s, h.2⟩
theorem LIF.push {H : Hp} {F a : Addr} {as : List Addr} {cs : List (List Nat)} {c : List Nat} (h : LIF H F as cs) (ha : H a = some (.lst (nI c))) (ne : a ≠ F) : LIF (upd H F (.lst (as.map V.ref ++ [V.ref a]))) F (as ++ [a]) (cs ++ [c]) := by
  refine ⟨⟨by rw [upd_same, List.map_append]; rfl, by rw [List.length_append, List.length_append, h.1.len]; rfl, fun i b c' e1 e2 => ?_⟩, fun b hb => ?_⟩
  · by_cases z : i < as.length
    · rw [List.getElem?_append_left z] at e1
      rw [List.getElem?_append_left (by rw [← h.1.len]; exact z)] at e2
      rw [upd_ne (h.2 b (List.mem_of_getElem? e1))]
      exact h.1.el i b c' e1 e2
    · rw [List.getElem?_append_right (by omega)] at e1
      rw [List.getElem?_append_right (by rw [← h.1.len]; omega), ← h.1.len] at e2
      match hk : i - as.length, e1, e2 with
      | 0, e1, e2 =>
        obtain rfl := Option.some.inj e1
        obtain rfl := Option.some.inj e2
        rw [upd_ne ne]
        exact ha
      | k + 1, e1, e2 => simp at e1
  · rcases List.mem_append.mp hb with h1 | h1
    · exact h.2 b h1
    · rw [List.mem_singleton.mp h1]; exact ne
theorem cut_init (xs : List V) : cutV xs none (some (-1)) = xs.dropLast := by
  unfold cutV
  rw [HT.sIx_none, List.drop_zero, Nat.sub_zero, List.dropLast_eq_take]
  congr 1
  show (if (-1 : Int) < 0 then ((-1 : Int) + (xs.length : Int)).toNat else min (-1 : Int).toNat xs.length) = xs.length - 1
  rw [if_pos (by decide)]
  omega
theorem LI.has {H : Hp} {r : Addr} {as : List Addr} {cs : List (List Nat)} (h : LI H r as cs) {a : Addr} (ha : a ∈ as) : ∃ o, H a = some o := by
  obtain ⟨i, hi⟩ := List.getElem?_of_mem ha
  have il := (List.getElem?_eq_some_iff.mp hi).1
  exact ⟨_, h.el i a _ hi (List.getElem?_eq_getElem (by rw [← h.len]; exact il))⟩
def spCh : Nat → Sp
  | 0 => fun _ _ _ _ => False
  | n + 1 => fun vs H Q _ => ∃ (p q : Addr) (ws ls : List Str), vs = [.ref p, .ref q] ∧ H p = some (.lst (ws.map V.str)) ∧ H q = some (.lst (ls.map V.str)) ∧ ws.length ≤ n ∧ ws.length ≤ 8 ∧ ls.length ≤ 100 ∧ OkS ws ∧ OkS ls ∧
    ∀ r as cs H', H r = none → Same H H' → LI H' r as cs → (∀ c, c ∈ cs ↔ Sel ws ls 0 c) → cs.length ≤ 2 ^ ws.length → (∀ a, a ∈ as → H a = none) → Q (.ref r) H'
section
variable {P : Program} {w : World} {K : PySem.W.Frag} {mg : Str → Option Value} {base : Heap}
abbrev nsLawChoices : List Str := ["wanted", "lying", "found", "size", "one"]
theorem scLawChoices : FnScope nsLawChoices ["wanted", "lying"] (defScope sLawChoices) := ⟨rfl, rfl, rfl, by decide +kernel, rfl, by decide +kernel, by decide +kernel⟩
theorem ok_law_choices (t : T K mg) : ∀ n, Ok P w K mg base (n + 1) "_law_choices" ["wanted", "lying"] (spCh n)
  | 0 => mkOk t.d_law_choices t.g_law_choices scLawChoices (fun vs H Q E h => h.elim) (fun _ _ _ _ _ _ us hl => match us, hl with | [_, _], _ => rfl) fun cdv A outer s H vs Q E hr h => h.elim
  | n + 1 => by
    have ih := ok_law_choices t n
    refine mkOk t.d_law_choices t.g_law_choices scLawChoices (fun vs H Q E h => ?_) (fun _ _ _ _ _ _ us hl => match us, hl with | [_, _], _ => rfl) fun cdv A outer s H vs Q E hr h => ?_
    · obtain ⟨p, q, ws, ls, rfl, _⟩ := h; rfl
    obtain ⟨p, q, ws, ls, rfl, hp, hq, wn, w8, ll, okw, okl, k⟩ := h
    refine ⟨_, pss_cons (ps_if (pt_cmpR (op_eqD (hu64 hr)) (pv 0) (pe_lst pa_nil) (nomark _))
      (pss_one (ps_ret (pe_ifExp (pt_cmpR (op_eqD (hu64 hr)) (pv 1) (pe_lst pa_nil) (nomark _)) (pe_lst (pa_cons (pe_lst pa_nil) pa_nil)) (pe_lst pa_nil))))
      pss_nil)
    (pss_cons (ps_set (i := 2) scLawChoices.nd rfl (Or.inl rfl) (pe_lst pa_nil))
    (pss_cons (ps_set (i := 3) scLawChoices.nd rfl (Or.inl rfl) (pe_callB call_len_seq rfl t.f_len boot_len (pa_cons (pv 0) pa_nil)))
    (C8.pss_cut (ps_if (PW.pt (pw_and (pt_cmpR (op_neD (hu64 hr)) (pv 1) (pe_lst pa_nil) (nomark _)) (pw_and1 (pt_cmpR op_eq (pe_ix ix_list (pv 0) (pe_un un_neg pe_int) (fun _ _ => rfl)) (pe_ix ix_list (pv 1) (pe_un un_neg pe_int) (fun _ _ => rfl)) (nomark _)))))
      (pss_one (ps_set (i := 2) scLawChoices.nd rfl (Or.inl rfl) (pe_op op_cat (pv 2) (pe_ok ih hr rfl (pa_cons (pe_slice sl_list (pv 0) po_none (po_some (pe_un un_neg pe_int))) (pa_cons (pe_slice sl_list (pv 1) po_none (po_some (pe_un un_neg pe_int))) pa_nil))))))
      pss_nil)
    (pss_cons (ps_for PassesOwn.never rfl (pi_list (pe_ok ih hr rfl (pa_cons (pe_slice sl_list (pv 0) po_none (po_some (pe_un un_neg pe_int))) (pa_cons (pv 1) pa_nil)))) (pg_name (i := 4) scLawChoices.nd rfl (Or.inl rfl))
      (pss_one (ps_expr (pe_bm PySem.F.plainAttrs_list PySem.F.slot_list_append PySem.F.type_list_append mt_append (pv 2) (pa_cons (pe_op op_cat (pv 4) (pe_lst (pa_cons (pe_op op_sub (pv 3) pe_int) pa_nil))) pa_nil)))))
    (pss_one (ps_ret (pv 2))))))), ?_⟩
    refine ⟨_, rfl, (by show 0 ≤ sizeLine; decide), fun e0 he0 => eqS_nil okw ((Same.new he0) _ _ hp) upd_same ⟨_, rfl, ite2 (fun h1 => ?_) (fun h1 => ?_)⟩⟩
    · have w0 : ws = [] := of_decide_eq_true h1
      subst w0
      refine ⟨_, rfl, (by show 0 ≤ sizeLine; decide), fun e1 he1 => eqS_nil okl ((Same.new he1) _ _ ((Same.new he0) _ _ hq)) upd_same ?_⟩
      have s01 : Same H (upd (upd H e0 (.lst [])) e1 (.lst [])) := (Same.new he0).trans (Same.new he1)
      refine ⟨_, rfl, ite2 (fun h2 => ?_) (fun h2 => ?_)⟩
      · have l0 : ls = [] := of_decide_eq_true h2
        subst l0
        refine ⟨(by show 0 ≤ sizeLine; decide), fun a ha => ⟨(by show 1 ≤ sizeLine; decide), fun r hr' => ?_⟩⟩
        refine k r [a] [[]] _ (Sx.Same.none (s01.trans (Same.new ha)) _ hr') ((s01.trans (Same.new ha)).trans (Same.new hr')) ⟨upd_same, rfl, fun i b c e1 e2 => ?_⟩ (fun c => ?_) (by show 1 ≤ 2 ^ 0; decide) (fun b hb => by rw [List.mem_singleton.mp hb]; exact Sx.Same.none s01 _ ha)
        · match i, e1, e2 with
          | 0, e1, e2 =>
            obtain rfl := Option.some.inj e1
            obtain rfl := Option.some.inj e2
            exact (Same.new hr') _ _ upd_same
        · rw [List.mem_singleton]
          constructor
          · rintro rfl; exact .nil _
          · intro h; cases h; rfl
      · refine ⟨(by show 0 ≤ sizeLine; decide), fun r hr' => ?_⟩
        refine k r [] [] _ (Sx.Same.none s01 _ hr') (s01.trans (Same.new hr')) ⟨upd_same, rfl, fun i b c e1 e2 => by simp at e1⟩ (fun c => ?_) (Nat.zero_le _) (fun b hb => by cases hb)
        constructor
        · intro h; cases h
        · intro h; cases h; exact absurd rfl (fun z => h2 (decide_eq_true z))
    · have wne : ws ≠ [] := fun z => h1 (decide_eq_true z)
      obtain ⟨w0, x, rfl⟩ : ∃ w0 x, ws = w0 ++ [x] := ⟨ws.dropLast, ws.getLast wne, (List.dropLast_concat_getLast wne).symm⟩
      rw [List.length_append] at wn w8
      have wn' : w0.length + 1 ≤ n := wn
      obtain ⟨m, rfl⟩ : ∃ m, n = m + 1 := ⟨n - 1, by omega⟩
      have wl : (w0 ++ [x]).length = w0.length + 1 := List.length_append ..
      have okw0 : OkS w0 := fun s hs => okw s (List.mem_append_left _ hs)
      have s0 : Same H (upd H e0 (.lst [])) := Same.new he0
      have einit : cutV ((w0 ++ [x]).map V.str) none (some (-1)) = w0.map V.str := by
        rw [cut_init, List.map_append]
        exact List.dropLast_concat
      refine ⟨(by show 0 ≤ sizeLine; decide), fun F hF => ?_⟩
      have sF := s0.trans (Same.new (o := .lst []) hF)
      have hF1 := upd_same (H := upd H e0 (.lst [])) (a := F) (o := .lst [])
      have hF0 : H F = none := Sx.Same.none s0 _ hF
      generalize upd (upd H e0 (.lst [])) F (.lst []) = H1 at sF hF1
      refine ⟨_, rfl, p, _, rfl, .inl (SqL.of (sF _ _ hp)), ?_⟩
      refine ⟨fun σ2 H2 => ∃ (F : Addr) (as : List Addr) (cs : List (List Nat)), σ2 = [some (.ref p), some (.ref q), some (.ref F), some (.int (((w0.length + 1 : Nat)) : Int)), none] ∧ H F = none ∧ Same H H2 ∧ LIF H2 F as cs ∧ (∀ c, c ∈ cs ↔ ∃ l', ls = l' ++ [x] ∧ Sel w0 l' 0 c) ∧ cs.length ≤ 2 ^ w0.length ∧ ∀ a, a ∈ as → H a = none, ?_, ?_⟩
      · have none0 : (∀ l', ls ≠ l' ++ [x]) → ∀ {H2 : Hp}, Same H1 H2 → ∃ (F' : Addr) (as : List Addr) (cs : List (List Nat)), ([some (V.ref p), some (V.ref q), some (V.ref F), some (V.int (((w0 ++ [x]).map V.str).length : Int)), none] : L2.St) = [some (V.ref p), some (V.ref q), some (V.ref F'), some (V.int (((w0.length + 1 : Nat)) : Int)), none] ∧ H F' = none ∧ Same H H2 ∧ LIF H2 F' as cs ∧ (∀ c, c ∈ cs ↔ ∃ l', ls = l' ++ [x] ∧ Sel w0 l' 0 c) ∧ cs.length ≤ 2 ^ w0.length ∧ (∀ a, a ∈ as → H a = none) := fun h H2 s2 => ⟨F, [], [], by rw [List.length_map, wl], hF0, sF.trans s2, ⟨⟨s2 _ _ hF1, rfl, fun i b c e1 e2 => by simp at e1⟩, fun a ha => by cases ha⟩, fun c => ⟨fun h1 => (by cases h1), fun ⟨l', e, _⟩ => absurd e (h l')⟩, Nat.zero_le _, fun a ha => by cases ha⟩
        refine ⟨_, rfl, (by show 0 ≤ sizeLine; decide), fun e1 he1 => neS_nil okl ((Same.new he1) _ _ (sF _ _ hq)) upd_same ⟨_, rfl, ite2 (fun h2 => ?_) (fun h2 => ?_)⟩⟩
        · have lne : ls ≠ [] := fun z => by rw [z] at h2; simp at h2
          obtain ⟨l0, y, rfl⟩ : ∃ l0 y, ls = l0 ++ [y] := ⟨ls.dropLast, ls.getLast lne, (List.dropLast_concat_getLast lne).symm⟩
          have s1' := sF.trans (Same.new (o := .lst []) he1)
          have hF2 := Same.new (o := .lst []) he1 _ _ hF1
          have sE := Same.new (o := .lst []) he1
          generalize upd H1 e1 (.lst []) = H2 at s1' hF2 sE
          refine ⟨_, rfl, _, rfl, p, _, _, .str x, rfl, rfl, SqL.of (s1' _ _ hp), by rw [List.map_append]; exact atI_last, _, rfl, _, rfl, q, _, _, .str y, rfl, rfl, SqL.of (s1' _ _ hq), by rw [List.map_append]; exact atI_last, rfl, _, rfl, ite2 (fun h3 => ?_) (fun h3 => ?_)⟩
          · have exy : x = y := V.str.inj (of_decide_eq_true h3)
            subst exy
            have linit : cutV ((l0 ++ [x]).map V.str) none (some (-1)) = l0.map V.str := by
              rw [cut_init, List.map_append]
              exact List.dropLast_concat
            have okl0 : OkS l0 := fun s hs => okl s (List.mem_append_left _ hs)
            rw [List.length_append] at ll
            refine ⟨_, rfl, _, rfl, _, rfl, _, rfl, p, _, rfl, SqL.of (s1' _ _ hp), fun a1 ha1 => ?_⟩
            rw [einit]
            have u1 := s1'.trans (Same.new (o := .lst (w0.map V.str)) ha1)
            refine ⟨_, rfl, _, rfl, _, rfl, q, _, rfl, SqL.of (u1 _ _ hq), fun a2 ha2 => ?_⟩
            rw [linit]
            have u2 := u1.trans (Same.new (o := .lst (l0.map V.str)) ha2)
            have g1 := (Same.new (o := .lst (l0.map V.str)) ha2) _ _ (upd_same (H := H2) (a := a1) (o := .lst (w0.map V.str)))
            have g2 := upd_same (H := upd H2 a1 (.lst (w0.map V.str))) (a := a2) (o := .lst (l0.map V.str))
            have g3 := (Same.new (o := .lst (l0.map V.str)) ha2) _ _ ((Same.new (o := .lst (w0.map V.str)) ha1) _ _ hF2)
            generalize upd (upd H2 a1 (.lst (w0.map V.str))) a2 (.lst (l0.map V.str)) = H3 at u2 g1 g2 g3
            refine ⟨a1, a2, w0, l0, rfl, g1, g2, by omega, by omega, by omega, okw0, okl0, fun r as cs H4 hr4 s4 hLI hcs hl hfr => ?_⟩
            have hF4 := s4 _ _ g3
            refine ⟨F, r, _, _, rfl, rfl, hF4, hLI.at_, ?_, fun F2 hF2' => ?_⟩
            · have : (2 : Nat) ^ w0.length ≤ 2 ^ 8 := Nat.pow_le_pow_right (by decide) (by omega)
              rw [List.length_map, hLI.len]
              exact Nat.le_of_lt (small1 (by show 0 + cs.length ≤ 100000; omega))
            have u4 := u2.trans s4
            have nw := Same.new (o := .lst ([] ++ as.map V.ref)) hF2'
            refine ⟨F2, as, cs, ?_, Sx.Same.none u4 _ hF2', u4.trans nw, ⟨⟨by rw [upd_same, List.nil_append], hLI.len, fun i b c e1 e2 => nw _ _ (hLI.el i b c e1 e2)⟩, fun b hb => ?_⟩, fun c => ?_, hl, fun b hb => Sx.Same.none u2 _ (hfr b hb)⟩
            · show _ = ([some (V.ref p), some (V.ref q), some (V.ref F2), some (V.int (((w0.length + 1 : Nat)) : Int)), none] : L2.St)
              rw [← wl, ← List.length_map (f := V.str)]
              rfl
            · obtain ⟨o, ho⟩ := hLI.has hb
              exact ne_of_none ho hF2'
            · rw [hcs c]
              constructor
              · intro h; exact ⟨l0, rfl, h⟩
              · rintro ⟨l', e, h⟩
                rw [(List.append_inj' e rfl).1]
                exact h
          · have ne : x ≠ y := fun z => h3 (by rw [z]; exact decide_eq_true rfl)
            exact none0 (fun l' e => ne (by have := (List.append_inj' e rfl).2; injection this with z; exact z.symm)) sE
        · have l0 : ls = [] := by
            by_cases z : ls = []
            · exact z
            · exact absurd (by rw [decide_eq_false z]; rfl) h2
          exact none0 (fun l' e => by rw [l0] at e; simp at e) (Same.new he1)
      rintro σ2 H2 ⟨F, as, cs, rfl, hF0, s2, hLI, hcs, hl, hfr⟩
      have p8 : (2 : Nat) ^ w0.length ≤ 2 ^ 8 := Nat.pow_le_pow_right (by decide) (by omega)
      refine ⟨_, rfl, _, rfl, _, rfl, p, _, rfl, SqL.of (s2 _ _ hp), fun a1 ha1 => ?_⟩
      rw [einit]
      have u1 := s2.trans (Same.new (o := .lst (w0.map V.str)) ha1)
      have g1 := upd_same (H := H2) (a := a1) (o := .lst (w0.map V.str))
      have hLI1 := hLI.same (Same.new (o := .lst (w0.map V.str)) ha1)
      generalize upd H2 a1 (.lst (w0.map V.str)) = H3 at u1 g1 hLI1
      refine ⟨_, rfl, a1, q, w0, ls, rfl, g1, u1 _ _ hq, by omega, by omega, ll, okw0, okl, fun r as2 cs2 H4 hr4 s4 hLI2 hcs2 hl2 hfr2 => ⟨r, rfl, ⟨_, SqL.of hLI2.at_⟩, ?_⟩⟩
      have u4 := u1.trans s4
      have nrF : r ≠ F := fun z => by rw [z, hLI1.1.at_] at hr4; cases hr4
      refine for_list (K := K) (a := r) (xs := as2.map V.ref) (fun i σ' H' => (∃ o4 : Option V, σ' = [some (.ref p), some (.ref q), some (.ref F), some (.int (((w0.length + 1 : Nat)) : Int)), o4]) ∧ Same H H' ∧ LI H' r as2 cs2 ∧ ∃ asx, LIF H' F asx (cs ++ (cs2.take i).map fun c => c ++ [w0.length]) ∧ ∀ a, a ∈ asx → H a = none) ⟨⟨_, rfl⟩, u4, hLI2, as, by rw [List.take_zero, List.map_nil, List.append_nil]; exact hLI1.same s4, hfr⟩ (fun i σ' H' _ h => SqL.of h.2.2.1.at_) ?_ ?_
      · rintro i v σ' H5 hv ⟨⟨o4, rfl⟩, s5, hL5, asx, hx5, hfr5⟩
        obtain ⟨b, eb, rfl⟩ : ∃ b, as2[i]? = some b ∧ v = V.ref b := by
          rw [List.getElem?_map] at hv
          cases zz : as2[i]? with
          | none => rw [zz] at hv; cases hv
          | some q => rw [zz] at hv; exact ⟨q, rfl, (Option.some.inj hv).symm⟩
        have il := (List.getElem?_eq_some_iff.mp eb).1
        obtain ⟨c, ec⟩ : ∃ c, cs2[i]? = some c := ⟨_, List.getElem?_eq_getElem (by rw [← hL5.len]; exact il)⟩
        have hb := hL5.el i b c eb ec
        have tk : cs2.take (i + 1) = cs2.take i ++ [c] := by rw [List.take_add_one, ec]; rfl
        have cl : c.length ≤ 8 := by
          have := ((hcs2 c).mp (List.mem_of_getElem? ec)).len
          omega
        have asl : asx.length ≤ 600 := by
          rw [hx5.1.len, List.length_append, List.length_map, List.length_take]
          have : (2 : Nat) ^ 8 = 256 := rfl
          omega
        refine ⟨_, rfl, .inl ⟨rfl, _, SqL.of hx5.1.at_⟩, _, rfl, _, rfl, _, _, rfl, rfl, (by show 1 ≤ sizeLine; decide), fun o ho => ?_⟩
        have v1 := Same.new (o := .lst [V.int (((w0.length + 1 : Nat) : Int) - 1)]) ho
        refine ⟨b, o, _, _, rfl, rfl, v1 _ _ hb, upd_same, Nat.le_of_lt (small1 (by rw [List.length_map]; show c.length + 1 ≤ _; omega)), fun u hu => ?_⟩
        have v2 := v1.trans (Same.new (o := .lst (nI c ++ [V.int (((w0.length + 1 : Nat) : Int) - 1)])) hu)
        have hu2 := upd_same (H := upd H5 o (.lst [V.int (((w0.length + 1 : Nat) : Int) - 1)])) (a := u) (o := .lst (nI c ++ [V.int (((w0.length + 1 : Nat) : Int) - 1)]))
        have nuF : u ≠ F := fun z => by rw [z, v1 _ _ hx5.1.at_] at hu; cases hu
        generalize upd (upd H5 o (.lst [V.int (((w0.length + 1 : Nat) : Int) - 1)])) u (.lst (nI c ++ [V.int (((w0.length + 1 : Nat) : Int) - 1)])) = H6 at v2 hu2
        have hu3 : H6 u = some (.lst (nI (c ++ [w0.length]))) := by
          rw [hu2]
          unfold nI
          rw [List.map_append, show (((w0.length + 1 : Nat) : Int) - 1) = ((w0.length : Nat) : Int) by omega]
          rfl
        have hx6 := hx5.same v2
        refine ⟨F, _, _, rfl, rfl, hx6.1.at_, by rw [List.length_map]; exact small1 (by omega), ⟨_, rfl⟩, Same.put (s5.trans v2) hF0, ⟨by rw [upd_ne nrF]; exact v2 _ _ hL5.at_, hL5.len, fun j b' c' e1 e2 => ?_⟩, asx ++ [u], ?_, fun b' hb' => ?_⟩
        · rw [upd_ne (fun z => ?_)]
          · exact v2 _ _ (hL5.el j b' c' e1 e2)
          · have h0 := hfr2 b' (List.mem_of_getElem? e1)
            rw [z, hLI1.1.at_] at h0
            cases h0
        · rw [tk, List.map_append, ← List.append_assoc]
          exact hx6.push hu3 nuF
        · rcases List.mem_append.mp hb' with h | h
          · exact hfr5 b' h
          · rw [List.mem_singleton.mp h]
            exact Sx.Same.none (s5.trans v1) _ hu
      · rintro σ' H5 ⟨⟨o4, rfl⟩, s5, hL5, asx, hx5, hfr5⟩
        rw [List.length_map, hL5.len, List.take_length] at hx5
        refine ⟨_, rfl, k F asx _ H5 hF0 s5 hx5.1 (fun c => ?_) ?_ hfr5⟩
        · rw [List.mem_append, hcs c, List.mem_map]
          constructor
          · rintro (⟨l', rfl, h⟩ | ⟨c', hc', rfl⟩)
            · exact h.snoc_hit x
            · have := ((hcs2 c').mp hc').snoc_skip x
              rw [Nat.zero_add] at this
              exact this
          · intro h
            rcases Sel.unsnoc (w := w0) h with ⟨l', e, h2⟩ | ⟨c', e, h2⟩
            · exact .inl ⟨l', e, h2⟩
            · exact .inr ⟨c', (hcs2 c').mpr h2, by rw [e, Nat.zero_add]⟩
        · rw [List.length_append, List.length_map, List.length_append]
          show _ ≤ 2 ^ (w0.length + 1)
          rw [Nat.pow_succ]
          omega
end
end Sx

set_option Elab.async false
set_option linter.all false
set_option maxRecDepth 100000
set_option maxHeartbeats 1000000
namespace Sx
open PySem PySem.Spec PyProof.Rows L2 SxA PySem.W
/-! ### sorted of a list of data that lie in the heap -/
abbrev leD : Addr × PyData → Addr × PyData → Bool := dataLe false fun b : Addr × PyData => b.2
theorem sort_head {bs : List (Addr × PyData)} (ne : bs ≠ []) : ∃ b r, bs.mergeSort leD = b :: r ∧ b ∈ bs ∧ ∀ c, c ∈ bs → dataLt c.2 b.2 = false := by
  have hp := List.mergeSort_perm bs leD
  have hs := sort_pairwise (sortLe_total (listOrd itemOrd) false fun b : Addr × PyData => keyToks b.2) bs
  cases e : bs.mergeSort leD with
  | nil =>
    rw [e] at hp
    exact absurd hp.symm.eq_nil ne
  | cons b r =>
    refine ⟨b, r, rfl, hp.mem_iff.mp (by rw [e]; exact List.mem_cons_self), fun c hc => ?_⟩
    have hc' := hp.mem_iff.mpr hc
    rw [e] at hc'
    have hs' : (b :: r).Pairwise (fun a b => leD a b = true) := by rw [← e]; exact hs
    rcases List.mem_cons.mp hc' with rfl | h
    · exact lex_irrefl _
    · have := (List.pairwise_cons.mp hs').1 c h
      have e2 : leD b c = !dataLt c.2 b.2 := rfl
      rw [e2] at this
      simpa using this
@[irreducible] def rSortD (K : PySem.W.Frag) : List V → Hp → VK → Prop := fun vs H Q => ∃ (a : Addr) (bs : List (Addr × PyData)), vs = [V.ref a] ∧ SqL K H a (bs.map fun b => V.ref b.1) ∧ (∀ b, b ∈ bs → Dp K H (.ref b.1) b.2) ∧ AllAlike (bs.map fun b => b.2) ∧ Sortable (bs.map fun b => b.2) ∧ (∀ b, b ∈ bs → b.2.depth ≤ 60) ∧
  ∀ p, H p = none → Q (.ref p) (upd H p (.lst ((bs.mergeSort leD).map fun b => V.ref b.1)))
theorem each_refs : ∀ {bs : List (Addr × PyData)} {its : List Value}, Vals (bs.map fun b => V.ref b.1) its → EachIs (fun v (b : Addr × PyData) => v = Value.ref b.1) its bs
  | [], _, h => by cases h; exact .nil
  | b :: bs, _, h => by
    cases h with
    | cons r1 r2 =>
      have e : _ = Value.ref b.1 := r1
      exact .cons (by rw [e]) (each_refs r2)
theorem refs_each : ∀ {bs : List (Addr × PyData)} {out : List Value}, EachIs (fun v (b : Addr × PyData) => v = Value.ref b.1) out bs → Vals (bs.map fun b => V.ref b.1) out
  | [], _, h => by cases h; exact .nil
  | b :: bs, _, h => by
    cases h with
    | cons r1 r2 =>
      subst r1
      exact .cons (show RelV (.ref b.1) (.ref b.1) from rfl) (refs_each r2)
theorem cr_sortD {X : Cx} (hu : X.A.units + 64 < cLine) : CallR X (.builtin "sorted") (rSortD X.K) := by
  intro pins s σ H vs us Q I r h
  unfold rSortD at h
  obtain ⟨a, bs, rfl, hs, hd, hal, hk, hdep, q⟩ := h
  obtain ⟨its, rv, hl, hz⟩ := I.list hs
  rw [Vals.ref1 r]
  have e := each_refs rv
  have er : EachIs (fun v (b : Addr × PyData) => ∃ as, Reads s.heap v b.2 as) its bs := (each_mem e).mono fun v b ⟨h1, h2⟩ => by
    subst h1
    exact Dp.reads I b.2 (.ref b.1) (.ref b.1) (hd b h2) rfl
  rw [List.length_map] at hz
  refine sorted_data (R := fun v (b : Addr × PyData) => v = Value.ref b.1) (enc := fun b : Addr × PyData => b.2) hl.isList e er hal hk hz (fun b hb => by have := hdep b hb; omega) fun out h1 h2 => ?_
  obtain ⟨ep, he'⟩ := PyProof.Rows.sortedAll_at s.heap its out.toArray
  have hlen : ((bs.mergeSort leD).map fun b => V.ref b.1).length ≤ sizeLine := by
    rw [List.length_map, (List.mergeSort_perm bs leD).length_eq]
    exact hz
  exact ⟨.ref _, upd H (s.heap.objs.size + 1) (.lst ((bs.mergeSort leD).map fun b => V.ref b.1)), I.laid (t' := s.toks) (fun _ _ => PyProof.Rows.sortedAll_old) (Nat.le_succ _) ⟨hlen, out, ep, refs_each h2, he'⟩, rfl, q _ (I.hok.fresh (Nat.le_succ _))⟩
end Sx

set_option Elab.async false
set_option linter.all false
set_option maxRecDepth 100000
set_option maxHeartbeats 2000000
namespace Sx
open PySem PySem.Spec PyProof.Rows L2 SxA SxK PySem.W
def pI (c : List Nat) : PyData := .list ((c.map fun n : Nat => (n : Int)).map PyData.int)
def tokI (xs : List Int) : List (Int ⊕ List Nat) := xs.flatMap fun x => [.inl 1, .inl x]
theorem toks_ints : ∀ xs : List Int, keyToksAll (xs.map PyData.int) = tokI xs ++ [.inl 0]
  | [] => by simp [keyToksAll, tokI]
  | x :: r => by
    rw [List.map_cons, toks_all_cons, toks_ints r]
    simp [keyToks, tokI]
theorem lt_atom (a b : Int) (h : a ≠ b) (l m : List (Int ⊕ List Nat)) : PyProof.Rows.lexLt itemOrd (.inl a :: l) (.inl b :: m) = decide (a < b) := by
  rw [lex_atom (by intro z; exact h (Sum.inl.inj z))]
  exact dataLt_int a b
theorem pI_lt (p : List Nat) (a b : Nat) (r s : List Nat) (h : a < b) : dataLt (pI (p ++ a :: r)) (pI (p ++ b :: s)) = true := by
  unfold dataLt pI
  rw [keyToks, keyToks, toks_ints, toks_ints]
  have e : ∀ (a : Nat) (r : List Nat), tokI ((p ++ a :: r).map fun n : Nat => (n : Int)) ++ [.inl 0] = (tokI (p.map fun n : Nat => (n : Int)) ++ [.inl 1]) ++ (.inl (a : Int) :: (tokI (r.map fun n : Nat => (n : Int)) ++ [.inl 0])) := fun a r => by
    unfold tokI
    simp
  rw [e, e, lex_pre, lt_atom _ _ (by omega)]
  exact decide_eq_true (by omega)
theorem alike_ints : ∀ xs ys : List Int, alikeAll (xs.map PyData.int) (ys.map PyData.int) = true
  | [], ys => by cases ys <;> simp [alikeAll]
  | x :: xs, [] => by simp [alikeAll]
  | x :: xs, y :: ys => by rw [List.map_cons, List.map_cons, alikeAll, alike_ints xs ys]; simp [alike]
theorem sort_last {bs : List (Addr × PyData)} (ne : bs ≠ []) : ∃ r b, bs.mergeSort leD = r ++ [b] ∧ b ∈ bs ∧ ∀ c, c ∈ bs → dataLt b.2 c.2 = false := by
  have hp := List.mergeSort_perm bs leD
  have hs := sort_pairwise (sortLe_total (listOrd itemOrd) false fun b : Addr × PyData => keyToks b.2) bs
  have hne : bs.mergeSort leD ≠ [] := fun e => by rw [e] at hp; exact ne hp.symm.eq_nil
  obtain ⟨r, b, e⟩ : ∃ r b, bs.mergeSort leD = r ++ [b] := ⟨_, _, (List.dropLast_concat_getLast hne).symm⟩
  refine ⟨r, b, e, hp.mem_iff.mp (by rw [e]; exact List.mem_append_right _ List.mem_cons_self), fun c hc => ?_⟩
  have hc' := hp.mem_iff.mpr hc
  rw [e] at hc'
  have hs' : (r ++ [b]).Pairwise (fun a b => leD a b = true) := by rw [← e]; exact hs
  rcases List.mem_append.mp hc' with h | h
  · have := (List.pairwise_append.mp hs').2.2 c h b List.mem_cons_self
    have e2 : leD c b = !dataLt b.2 c.2 := rfl
    rw [e2] at this
    simpa using this
  · rw [List.mem_singleton.mp h]
    exact lex_irrefl _
theorem dp_nI {K : PySem.W.Frag} {H : Hp} {a : Addr} {c : List Nat} (h : H a = some (.lst (nI c))) : Dp K H (.ref a) (pI c) := by
  have e : nI c = (c.map fun n : Nat => (n : Int)).map V.int := by unfold nI; rw [List.map_map]; rfl
  rw [e] at h
  exact .lst (SqL.of h) (dpAll_ints K H _)
theorem sortC {K : PySem.W.Frag} {H : Hp} {F : Addr} {as : List Addr} {cs : List (List Nat)} {Q : VK} (h : LI H F as cs)
    (k : ∀ p, H p = none → Q (.ref p) (upd H p (.lst (((as.zip (cs.map pI)).mergeSort leD).map fun b => V.ref b.1)))) : rSortD K [V.ref F] H Q := by
  unfold rSortD
  have hl : as.length = (cs.map pI).length := by rw [List.length_map, h.len]
  have hm : ∀ b, b ∈ as.zip (cs.map pI) → ∃ c, H b.1 = some (.lst (nI c)) ∧ b.2 = pI c := fun b hb => by
    obtain ⟨i, hi⟩ := List.getElem?_of_mem hb
    obtain ⟨h1, h2⟩ := List.getElem?_zip_eq_some.mp hi
    rw [List.getElem?_map] at h2
    cases z : cs[i]? with
    | none => rw [z] at h2; cases h2
    | some c =>
      rw [z] at h2
      exact ⟨c, h.el i b.1 c h1 z, (Option.some.inj h2).symm⟩
  have e1 : (as.zip (cs.map pI)).map (fun b => V.ref b.1) = as.map V.ref := by
    have := List.map_fst_zip (l₁ := as) (l₂ := cs.map pI) (by omega)
    have e : (as.zip (cs.map pI)).map (fun b => V.ref b.1) = ((as.zip (cs.map pI)).map Prod.fst).map V.ref := by rw [List.map_map]; rfl
    rw [e, this]
  refine ⟨F, as.zip (cs.map pI), rfl, SqL.of (by rw [e1]; exact h.at_), fun b hb => ?_, fun d hd1 d' hd2 => ?_, .inr fun d hd1 => ?_, fun b hb => ?_, k⟩
  · obtain ⟨c, h1, h2⟩ := hm b hb
    rw [h2]
    exact dp_nI h1
  · obtain ⟨b1, m1, rfl⟩ := List.mem_map.mp hd1
    obtain ⟨b2, m2, rfl⟩ := List.mem_map.mp hd2
    obtain ⟨c1, _, e1⟩ := hm b1 m1
    obtain ⟨c2, _, e2⟩ := hm b2 m2
    rw [e1, e2]
    unfold pI
    rw [alike]
    exact alike_ints _ _
  · obtain ⟨b1, m1, rfl⟩ := List.mem_map.mp hd1
    obtain ⟨c1, _, e1⟩ := hm b1 m1
    rw [e1]
    exact ⟨(by intro z; cases z), (by intro xs z; cases z)⟩
  · obtain ⟨c1, _, e1⟩ := hm b hb
    rw [e1]
    have := dep_ints (c1.map fun n : Nat => (n : Int))
    unfold pI
    simp only [PyData.depth]
    omega
def spDue : Sp := fun vs H Q _ => ∃ (p q : Addr) (ws ls : List Str), vs = [.ref p, .ref q] ∧ H p = some (.lst (ws.map V.str)) ∧ H q = some (.lst (ls.map V.str)) ∧ ws.length ≤ 8 ∧ ls.length ≤ 100 ∧ OkS ws ∧ OkS ls ∧
  (∀ g, greedy ws ls 0 = some g → ∀ r H', H r = none → Same H H' → H' r = some (.lst (nI g)) → Q (.ref r) H') ∧
  (∀ k, k < ls.length → (greedy ws (ls.take k) 0).isSome = true → greedy ws (ls.take (k + 1)) 0 = none → ∀ T H', H T = none → Same H H' → H' T = some (.tup [.str "strange", .int (k : Int)]) → Q (.ref T) H')
section
variable {P : Program} {w : World} {K : PySem.W.Frag} {mg : Str → Option Value} {base : Heap}
abbrev nsLawDue : List Str := ["wanted", "lying", "k"]
theorem scLawDue : FnScope nsLawDue ["wanted", "lying"] (defScope sLawDue) := ⟨rfl, rfl, rfl, by decide +kernel, rfl, by decide +kernel, by decide +kernel⟩
theorem ok_law_due (t : T K mg) : Ok P w K mg base 11 "_law_due" ["wanted", "lying"] spDue := by
  refine mkOk t.d_law_due t.g_law_due scLawDue (fun vs H Q E h => ?_) (fun _ _ _ _ _ _ us hl => match us, hl with | [_, _], _ => rfl) fun cdv A outer s H vs Q E hr h => ?_
  · obtain ⟨p, q, ws, ls, rfl, _⟩ := h; rfl
  obtain ⟨p, q, ws, ls, rfl, hp, hq, w8, ll, okw, okl, k1, k2⟩ := h
  have hr1 : Room 1 _ := hr.mono (by decide)
  refine ⟨_, C8.pss_cut (ps_if (pt_not (pt_val (pe_ok (ok_law_short t) hr1 rfl (pa_cons (pv 0) (pa_cons (pv 1) pa_nil)))))
      (pss_one (ps_for PassesOwn.never rfl (pi_range1 rfl t.f_range (pa_cons (pe_op op_add (pe_callB call_len_seq rfl t.f_len boot_len (pa_cons (pv 1) pa_nil)) pe_int) pa_nil)) (pg_name (i := 2) scLawDue.nd rfl (Or.inl rfl))
      (pss_one (ps_if (pt_not (pt_val (pe_ok (ok_law_short t) hr1 rfl (pa_cons (pv 0) (pa_cons (pe_slice sl_list (pv 1) po_none (po_some (pv 2))) pa_nil)))))
      (pss_one (ps_ret (pe_tup (pa_cons pe_str (pa_cons (pe_op op_sub (pv 2) pe_int) pa_nil)))))
      pss_nil))))
      pss_nil)
    (pss_one (ps_ret (pe_ix ix_list (pe_callB (cr_sortD (hu64 hr)) rfl t.f_sorted (by decide +kernel) (pa_cons (pe_ok (ok_law_choices t 9) hr rfl (pa_cons (pv 0) (pa_cons (pv 1) pa_nil))) pa_nil)) (pe_un un_neg pe_int) (fun _ _ => rfl)))), ?_⟩
  have lw : (ls.map V.str).length = ls.length := List.length_map ..
  refine ⟨fun σ2 H2 => σ2 = [some (.ref p), some (.ref q), none] ∧ H = H2 ∧ (greedy ws ls 0).isSome = true, ?_, ?_⟩
  · refine ⟨_, rfl, _, rfl, p, q, ws, ls, rfl, hp, hq, by omega, ll, _, rfl, ?_⟩
    cases hg : (greedy ws ls 0).isSome with
    | true => exact iteF ⟨rfl, rfl, rfl⟩
    | false =>
      refine iteT ?_
      refine ⟨_, rfl, q, _, rfl, .inl (SqL.of hq), _, _, rfl, rfl, _, rfl, by rw [lw]; omega, by rw [lw]; omega, ?_⟩
      rw [lw, show ((((ls.length : Nat) : Int) + 1).toNat) = ls.length + 1 by omega]
      refine for_range (lo := 0) (n := ls.length + 1) (fun i σ' H' => (∃ o2 : Option V, σ' = [some (.ref p), some (.ref q), o2]) ∧ Same H H' ∧ ∀ j, j < i → (greedy ws (ls.take j) 0).isSome = true) ⟨⟨_, rfl⟩, Same.refl _, fun j h => absurd h (Nat.not_lt_zero _)⟩ ?_ ?_
      · rintro i σ' H1 hi ⟨⟨o2, rfl⟩, s1, hall⟩
        rw [show (0 : Int) + (i : Int) = (i : Int) by omega]
        refine ⟨_, rfl, _, rfl, _, rfl, _, rfl, q, _, rfl, SqL.of (s1 _ _ hq), fun e he => ?_⟩
        have ec : cutV (ls.map V.str) none (some (i : Int)) = (ls.take i).map V.str := by
          unfold cutV
          rw [HT.sIx_nat, HT.sIx_none, List.drop_zero, Nat.sub_zero, ← List.take_eq_take_min, List.map_take]
        rw [ec]
        have s2 := s1.trans (Same.new (o := .lst ((ls.take i).map V.str)) he)
        refine ⟨p, e, ws, ls.take i, rfl, s2 _ _ hp, upd_same, by omega, by rw [List.length_take]; omega, _, rfl, ?_⟩
        cases hi2 : (greedy ws (ls.take i) 0).isSome with
        | true =>
          refine iteF ⟨⟨_, rfl⟩, s2, fun j hj => ?_⟩
          by_cases z : j < i
          · exact hall j z
          · obtain rfl : j = i := by omega
            exact hi2
        | false =>
          have i0 : 0 < i := by
            rcases Nat.eq_zero_or_pos i with z | z
            · rw [z, List.take_zero, greedy_nil] at hi2
              cases hi2
            · exact z
          refine iteT ⟨_, rfl, _, _, rfl, rfl, (by show 2 ≤ sizeLine; decide), fun T hT => ?_⟩
          have hn : greedy ws (ls.take (i - 1 + 1)) 0 = none := by
            rw [show i - 1 + 1 = i by omega]
            cases z : greedy ws (ls.take i) 0 with
            | none => rfl
            | some g => rw [z] at hi2; cases hi2
          refine k2 (i - 1) (by omega) (hall (i - 1) (by omega)) hn T _ (Sx.Same.none s2 _ hT) (s2.trans (Same.new hT)) ?_
          rw [upd_same]
          show some (HO.tup [V.str (Str.ofString "strange"), V.int ((i : Int) - 1)]) = _
          rw [show ((i : Int) - 1) = ((i - 1 : Nat) : Int) by omega]
      · rintro σ' H1 ⟨⟨o2, rfl⟩, s1, hall⟩
        have := hall ls.length (by omega)
        rw [List.take_length, hg] at this
        cases this
  rintro σ2 H2 ⟨rfl, rfl, hg⟩
  obtain ⟨g, hg⟩ := Option.isSome_iff_exists.mp hg
  refine ⟨_, rfl, _, rfl, p, q, ws, ls, rfl, hp, hq, by omega, w8, ll, okw, okl, fun r as cs H1 hr1 s1 hLI hcs hl hfr => ?_⟩
  show rSortD K [V.ref r] _ _
  refine sortC hLI fun p1 hp1 => ?_
  have hgm : g ∈ cs := (hcs g).mpr (greedy_sel hg)
  obtain ⟨ig, hig⟩ := List.getElem?_of_mem hgm
  have zlen : (as.zip (cs.map pI)).length = cs.length := by rw [List.length_zip, List.length_map, hLI.len, Nat.min_self]
  have pick : ∀ i c, cs[i]? = some c → ∃ a, (as.zip (cs.map pI))[i]? = some (a, pI c) ∧ H1 a = some (.lst (nI c)) := fun i c e => by
    have il := (List.getElem?_eq_some_iff.mp e).1
    have ea : as[i]? = some (as[i]'(by rw [hLI.len]; exact il)) := List.getElem?_eq_getElem _
    exact ⟨_, List.getElem?_zip_eq_some.mpr ⟨ea, by rw [List.getElem?_map, e]; rfl⟩, hLI.el i _ c ea e⟩
  obtain ⟨ag, hag, _⟩ := pick ig g hig
  have hne : as.zip (cs.map pI) ≠ [] := fun z => by rw [z] at hag; simp at hag
  obtain ⟨rs, b, esort, hb, hmax⟩ := sort_last hne
  obtain ⟨ib, hib⟩ := List.getElem?_of_mem hb
  have ibl : ib < cs.length := by rw [← zlen]; exact (List.getElem?_eq_some_iff.mp hib).1
  obtain ⟨a, ha, haH⟩ := pick ib _ (List.getElem?_eq_getElem ibl)
  have eb : b = (a, pI cs[ib]) := Option.some.inj (hib.symm.trans ha)
  have ecb : cs[ib] = g := by
    rcases greedy_max ((hcs _).mp (List.getElem_mem ibl)) hg with e | ⟨p0, x, y, r0, s0, e1, e2, lt⟩
    · exact e
    · have h1 := hmax _ (List.mem_of_getElem? hag)
      rw [eb] at h1
      have h2 := pI_lt p0 x y r0 s0 lt
      rw [← e1, ← e2] at h2
      exact absurd (h1.symm.trans h2) (by decide)
  rw [esort, eb]
  refine ⟨_, rfl, p1, _, _, .ref a, rfl, rfl, SqL.of upd_same, by rw [List.map_append]; exact atI_last, ?_⟩
  rw [ecb] at haH
  have s2 := Same.new (o := .lst ((rs ++ [(a, pI cs[ib])]).map fun b => V.ref b.1)) hp1
  refine k1 g hg a _ (hfr a ?_) (s1.trans s2) (s2 _ _ haH)
  exact List.mem_of_getElem? (List.getElem?_zip_eq_some.mp ha).1
end
end Sx

set_option Elab.async false
set_option linter.all false
set_option maxRecDepth 100000
set_option maxHeartbeats 2000000
namespace Sx
open PySem PySem.Spec PyProof.Rows L2 SxA SxK PySem.W
theorem gr_lo {ws ls : List Str} {g : List Nat} (h : greedy ws ls 0 = some g) : ∀ i, i ∈ g → i < ws.length := fun i hi => by have := (greedy_sel h).lo i hi; omega
def dueS (ws : List Str) (g : List Nat) : List Str := g.map fun i => ws.getD i ⟨#[]⟩
/-- the first place where they differ -/
def diffAt (ms ds : List Str) (k : Nat) : Prop := (∀ j, j < k → ms[j]? = ds[j]?) ∧ ms[k]? ≠ ds[k]?
def spFill (K : PySem.W.Frag) : Sp := fun vs H Q E => ∃ (p q u : Addr) (ws ls ms : List Str), vs = [.ref p, .ref q, .ref u] ∧ H p = some (.lst (ws.map V.str)) ∧ H q = some (.lst (ls.map V.str)) ∧ H u = some (.lst (ms.map V.str)) ∧ ws.length ≤ 100 ∧ ls.length ≤ 100 ∧ ms.length ≤ 100 ∧
  (∀ k, k < ls.length → (greedy ws (ls.take k) 0).isSome = true → greedy ws (ls.take (k + 1)) 0 = none → ErI K "StrangeSheet" "place" E H (k : Int)) ∧
  (∀ g, greedy ws ls 0 = some g → (∀ k, diffAt ms (dueS ws g) k → k ≤ ms.length → ErI K "NotMissing" "number" E H (k : Int)) ∧ (ms = dueS ws g → ∀ r H', H r = none → Same H H' → H' r = some (.lst (ws.map V.str)) → Q (.ref r) H'))
section
variable {P : Program} {w : World} {K : PySem.W.Frag} {mg : Str → Option Value} {base : Heap}
abbrev nsFilled : List Str := ["wanted", "lying", "more", "due", "place", "number", "sheet"]
theorem scFilled : FnScope nsFilled ["wanted", "lying", "more"] (defScope sFilled) := ⟨rfl, rfl, rfl, by decide +kernel, rfl, by decide +kernel, by decide +kernel⟩
theorem ok_filled (t : T K mg) (er : ErrC P K mg xStrangeSheet) (er2 : ErrC P K mg xNotMissing) : OkX P w K mg base 5 "filled" ["wanted", "lying", "more"] (spFill K) := by
  refine mkOkX t.d_filled t.g_filled scFilled (fun vs H Q E h => ?_) (fun _ _ _ _ _ _ us hl => match us, hl with | [_, _, _], _ => rfl) fun cdv A outer s H vs Q E hr h => ?_
  · obtain ⟨p, q, u, ws, ls, ms, rfl, _⟩ := h; rfl
  obtain ⟨p, q, u, ws, ls, ms, rfl, hp, hq, hu, wl, ll, ml, ke, kg⟩ := h
  refine ⟨_, pss_cons (ps_setLc (i := 3) (own := [("place", 4)]) (g := gName 4) (tt := tYes) (by rfl) scFilled.nd rfl rfl (sw_true rfl rfl rfl (by decide +kernel)) (pi_list (pe_okX (ok_missing t er) hr rfl (takes_of rfl rfl rfl rfl) (pa_cons (pv 0) (pa_cons (pv 1) pa_nil)))) (blkOk_by (own := [("place", 4)]) (N := nsFilled) (sc := defScope sFilled) (by decide +kernel)) (fun _ _ _ _ _ => pg_name (i := 4) scFilled.nd rfl (Or.inl rfl)) (fun _ _ _ _ _ => pts_nil) (fun _ _ _ _ _ => (pe_ix (ix_listK (K := K) rfl) (pv 0) (pv 4) (fun _ _ => rfl))))
    (pss_cons (ps_for (passes_of rfl) rfl (pi_enum (by rfl) t.f_enumerate (pa_cons (pv 2) pa_nil)) (pg_tup rfl (pgs_cons (pg_name (i := 5) scFilled.nd rfl (Or.inl rfl)) (pgs_cons (pg_name (i := 6) scFilled.nd rfl (Or.inl rfl)) pgs_nil)))
      (pss_one (ps_if (PW.pt (pw_or (pt_cmpR op_eq (pv 5) (pe_callB call_len_seq rfl t.f_len boot_len (pa_cons (pv 3) pa_nil)) (nomark _)) (pw_or1 (pt_cmpR op_ne (pv 6) (pe_ix ix_list (pv 3) (pv 5) (fun _ _ => rfl)) (nomark _)))))
      (pss_one (ps_raise rfl (takes_of rfl rfl rfl rfl) (pmk_nmi (k := 0) t er2 (hr.mono (by decide)) rfl (pa_cons (pv 5) pa_nil))))
      pss_nil)))
    (pss_cons (ps_if (pt_cmpR op_lt (pe_callB call_len_seq rfl t.f_len boot_len (pa_cons (pv 2) pa_nil)) (pe_callB call_len_seq rfl t.f_len boot_len (pa_cons (pv 3) pa_nil)) (nomark _))
      (pss_one (ps_raise rfl (takes_of rfl rfl rfl rfl) (pmk_nmi (k := 0) t er2 (hr.mono (by decide)) rfl (pa_cons (pe_callB call_len_seq rfl t.f_len boot_len (pa_cons (pv 2) pa_nil)) pa_nil))))
      pss_nil)
    (pss_one (ps_ret (pe_callTy call_list_of rfl t.f_list (by decide +kernel) (pa_cons (pv 0) pa_nil)))))), ?_⟩
  refine ⟨_, rfl, _, rfl, p, q, ws, ls, rfl, hp, hq, wl, ll, fun g hg r H1 hr1 s1 hr2 => ?_, ke⟩
  obtain ⟨kd, kf⟩ := kg g hg
  have glo := gr_lo hg
  have gl : g.length ≤ 100 := by have := (greedy_sel hg).len; omega
  refine ⟨r, rfl, ⟨_, SqL.of hr2⟩, fun D hD => ?_⟩
  refine lc_list (K := K) (a := r) (xs := g.map fun n : Nat => V.int (n : Int)) (g := gName 4) (fun j H' => H' D = some (.lst ((dueS ws (g.take j)).map V.str)) ∧ Same H1 H') ⟨upd_same, Same.new hD⟩ (fun j H' _ h => SqL.of (h.2 _ _ hr2)) ?_ ?_
  · rintro j v H' hv ⟨hc, s2⟩
    rw [List.getElem?_map] at hv
    obtain ⟨n, hn, rfl⟩ : ∃ n, g[j]? = some n ∧ V.int (n : Int) = v := by
      cases zz : g[j]? with
      | none => rw [zz] at hv; cases hv
      | some n => rw [zz] at hv; exact ⟨n, rfl, Option.some.inj hv⟩
    have nlt := glo n (List.mem_of_getElem? hn)
    have tk : g.take (j + 1) = g.take j ++ [n] := by rw [List.take_add_one, hn]; rfl
    refine ⟨rfl, _, rfl, _, rfl, p, _, _, .str (ws.getD n ⟨#[]⟩), rfl, rfl, SqL.of (s2 _ _ (s1 _ _ hp)), atI_nat (by rw [List.getElem?_map, List.getD_eq_getElem?_getD, List.getElem?_eq_getElem nlt]; rfl), _, hc, ?_, ?_, Same.put s2 hD⟩
    · unfold dueS
      rw [List.length_map, List.length_map, List.length_take]
      exact small1 (by omega)
    · rw [upd_same, tk]
      unfold dueS
      rw [List.map_append, List.map_append]
      rfl
  rintro H2 ⟨hD2, s2⟩
  rw [List.length_map, List.take_length] at hD2
  obtain ⟨ds, hds⟩ : ∃ ds, ds = dueS ws g := ⟨_, rfl⟩
  have dl : ds.length ≤ 100 := by rw [hds]; unfold dueS; rw [List.length_map]; exact gl
  rw [← hds] at hD2 kd kf
  have s3 := s1.trans s2
  have lds : (ds.map V.str).length = ds.length := List.length_map ..
  refine ⟨_, rfl, u, _, rfl, SqL.of (s3 _ _ hu), ?_⟩
  refine for_it (walk_enum (K := K) (a := u) (xs := ms.map V.str)) (fun i σ' H' => (∃ o5 o6 : Option V, σ' = [some (.ref p), some (.ref q), some (.ref u), some (.ref D), none, o5, o6]) ∧ Same H H' ∧ H' D = some (.lst (ds.map V.str)) ∧ i ≤ ds.length ∧ ∀ j, j < i → ms[j]? = ds[j]?) ⟨⟨_, _, rfl⟩, s3, hD2, Nat.zero_le _, fun j h => absurd h (Nat.not_lt_zero _)⟩ (fun i σ' H' _ h => SqL.of (h.2.1 _ _ hu)) ?_ ?_
  · rintro i v σ' H3 H4 hi ⟨⟨o5, o6, rfl⟩, s4, hD4, id, hall⟩ ⟨T, x1, y, rfl, hT, rfl, ex, ey⟩
    have ex := (Option.some.inj ex).symm
    subst ex
    obtain ⟨y, hy, rfl⟩ := strAt ey
    have il := (List.getElem?_eq_some_iff.mp hy).1
    have s5 := s4.trans (Same.new (o := .tup [V.int ((i : Nat) : Int), V.str y]) hT)
    have hD5 := Same.new (o := .tup [V.int ((i : Nat) : Int), V.str y]) hT _ _ hD4
    refine ⟨T, _, rfl, SqT.of upd_same, rfl, _, _, rfl, _, _, rfl, rfl, ?_⟩
    generalize upd H3 T (.tup [V.int ((i : Nat) : Int), V.str y]) = H5 at s5 hD5
    refine ⟨_, rfl, _, rfl, D, _, rfl, .inl (SqL.of hD5), rfl, _, rfl, ite2 (fun h1 => ?_) (fun h1 => ?_)⟩
    · have e : i = ds.length := by
        have := V.int.inj (of_decide_eq_true h1)
        rw [lds] at this
        omega
      refine ⟨_, rfl, mk_errI (by constructor <;> omega) ((kd i ⟨hall, ?_⟩ (by omega)).same s5)⟩
      rw [hy, e, List.getElem?_eq_none (Nat.le_refl _)]
      exact fun z => by cases z
    · have lt : i < ds.length := by
        have : ¬ i = ds.length := fun z => h1 (by rw [lds, z]; exact decide_eq_true rfl)
        omega
      obtain ⟨x, hx⟩ : ∃ x, ds[i]? = some x := ⟨_, List.getElem?_eq_getElem lt⟩
      refine ⟨_, rfl, _, rfl, _, rfl, D, _, _, .str x, rfl, rfl, SqL.of hD5, atI_nat (by rw [List.getElem?_map, hx]; rfl), rfl, _, rfl, ite2 (fun h2 => ?_) (fun h2 => ?_)⟩
      · have ne : y ≠ x := fun z => by rw [z] at h2; simp at h2
        refine ⟨_, rfl, mk_errI (by constructor <;> omega) ((kd i ⟨hall, ?_⟩ (by omega)).same s5)⟩
        rw [hy, hx]
        exact fun z => ne (Option.some.inj z)
      · have e : y = x := by
          by_cases q : y = x
          · exact q
          · exfalso
            apply h2
            have : ¬ (V.str y = V.str x) := fun z => q (V.str.inj z)
            rw [decide_eq_false this]
            rfl
        refine ⟨⟨_, _, rfl⟩, s5, hD5, lt, fun j hj => ?_⟩
        by_cases z : j < i
        · exact hall j z
        · obtain rfl : j = i := by omega
          rw [hy, hx, e]
  · rintro σ' H3 ⟨⟨o5, o6, rfl⟩, s4, hD4, id, hall⟩
    rw [List.length_map] at id hall
    refine ⟨_, rfl, u, _, rfl, .inl (SqL.of (s4 _ _ hu)), _, rfl, D, _, rfl, .inl (SqL.of hD4), _, _, rfl, rfl, _, rfl, ite2 (fun h1 => ?_) (fun h1 => ?_)⟩
    · have lt : ms.length < ds.length := by
        have := of_decide_eq_true h1
        rw [lds, List.length_map] at this
        omega
      refine ⟨_, rfl, u, _, rfl, .inl (SqL.of (s4 _ _ hu)), ?_⟩
      have e0 : (((ms.map V.str).length : Nat) : Int) = (ms.length : Int) := by rw [List.length_map]
      rw [e0]
      refine mk_errI (by constructor <;> omega) ((kd ms.length ⟨hall, ?_⟩ (Nat.le_refl _)).same s4)
      rw [List.getElem?_eq_none (Nat.le_refl _), List.getElem?_eq_getElem lt]
      exact fun z => by cases z
    · have ge : ds.length ≤ ms.length := by
        have : ¬ ms.length < ds.length := fun z => h1 (decide_eq_true (by rw [lds, List.length_map]; omega))
        omega
      have e : ms = ds := List.ext_getElem? fun j => by
        by_cases z : j < ms.length
        · exact hall j z
        · rw [List.getElem?_eq_none (by omega), List.getElem?_eq_none (by omega)]
      refine ⟨_, rfl, p, _, rfl, .inl (SqL.of (s4 _ _ hp)), fun rr hrr => ?_⟩
      exact kf e rr _ (Sx.Same.none s4 _ hrr) (s4.trans (Same.new hrr)) upd_same
end
end Sx

set_option Elab.async false
set_option linter.all false
set_option maxRecDepth 100000
set_option maxHeartbeats 2000000
namespace Sx
open PySem PySem.Spec PyProof.Rows L2 SxA SxK PySem.W
def spTold : Sp := fun vs H Q _ => ∃ (p q : Addr) (ws ls : List Str), vs = [.ref p, .ref q] ∧ H p = some (.lst (ws.map V.str)) ∧ H q = some (.lst (ls.map V.str)) ∧ ws.length ≤ 100 ∧ ls.length ≤ 100 ∧
  (∀ g, greedy ws ls 0 = some g → ∀ r H', H r = none → Same H H' → H' r = some (.lst (nI g)) → Q (.ref r) H') ∧
  (∀ k, k < ls.length → (greedy ws (ls.take k) 0).isSome = true → greedy ws (ls.take (k + 1)) 0 = none → ∀ T H', Same H H' → H' T = some (.tup [.str "strange", .int (k : Int)]) → Q (.ref T) H')
section
variable {P : Program} {w : World} {K : PySem.W.Frag} {mg : Str → Option Value} {base : Heap}
abbrev nsLawTold : List Str := ["wanted", "lying", "error"]
theorem scLawTold : FnScope nsLawTold ["wanted", "lying"] (defScope sLawTold) := ⟨rfl, rfl, rfl, by decide +kernel, rfl, by decide +kernel, by decide +kernel⟩
theorem ok_law_told (t : T K mg) (er : ErrC P K mg xStrangeSheet) : Ok P w K mg base 5 "_law_told" ["wanted", "lying"] spTold := by
  refine mkOk t.d_law_told t.g_law_told scLawTold (fun vs H Q E h => ?_) (fun _ _ _ _ _ _ us hl => match us, hl with | [_, _], _ => rfl) fun cdv A outer s H vs Q E hr h => ?_
  · obtain ⟨p, q, ws, ls, rfl, _⟩ := h; rfl
  obtain ⟨p, q, ws, ls, rfl, hp, hq, wl, ll, k1, k2⟩ := h
  refine ⟨_, pss_one (ps_try_first (i := 2) (c := .ref (He.ga K "StrangeSheet")) (tb := fun W => tRet (tCallS (spMiss K) (WE W) (tCons (tVar 0) (tCons (tVar 1) tNil)))) (ts := fun a cls d => tRet (tTup (tCons (tC (.str "strange")) (tCons (tXf a cls d (He.ga K "StrangeSheet") "place" (tVar 2)) tNil))))
    rfl rfl scLawTold.nd rfl rfl ⟨rfl, by decide, .inl er.glob⟩
    (fun W pn xe tk _ => pss_one (ps_ret (pe_okX (ok_missing t er) hr rfl tk (by exact (pa_cons (pv 0) (pa_cons (pv 1) pa_nil))))))
    (fun a oe cls d pn hz2 hf => pss_one (ps_ret (pe_tup (pa_cons pe_str (pa_cons (pe_xf er.xf (er.ats _ (by decide)) hz2 hf (pv 2)) pa_nil)))))), ?_⟩
  refine ⟨_, rfl, _, rfl, p, q, ws, ls, rfl, hp, hq, wl, ll, fun g hg r H' hr' s' h' => k1 g hg r H' hr' s' h', fun kk hk good bad d H' s' hd => ⟨er.exm, fun a ha => ?_⟩⟩
  refine ⟨_, rfl, rfl, rfl, d, _, _, rfl, hd, rfl, (by show 2 ≤ sizeLine; decide), fun T hT => ?_⟩
  exact k2 kk hk good bad T _ (s'.trans (Same.new hT)) upd_same
end
end Sx

set_option Elab.async false
set_option linter.all false
set_option maxRecDepth 100000
set_option maxHeartbeats 2000000
namespace Sx
open PySem PySem.Spec PyProof.Rows L2 SxA SxK PySem.W
def spFD : Sp := fun vs H Q _ => ∃ (p q u r : Addr) (ws ms : List Str), vs = [.ref p, .ref q, .ref u, .ref r] ∧ H p = some (.lst (ws.map V.str)) ∧ H u = some (.lst (ms.map V.str)) ∧ ws.length ≤ 100 ∧ ms.length ≤ 100 ∧
  ((∃ xs, H r = some (.tup xs) ∧ Q (.ref r) H) ∨ ∃ g : List Nat, H r = some (.lst (nI g)) ∧ (∀ i, i ∈ g → i < ws.length) ∧ g.length ≤ 100 ∧ (∀ k, diffAt ms (dueS ws g) k → k ≤ ms.length → ∀ T H', Same H H' → H' T = some (.tup [.str "not", .int (k : Int)]) → Q (.ref T) H') ∧ (ms = dueS ws g → ∀ H', Same H H' → Q (.ref p) H'))
section
variable {P : Program} {w : World} {K : PySem.W.Frag} {mg : Str → Option Value} {base : Heap}
abbrev nsLawFillDue : List Str := ["wanted", "lying", "more", "due", "k"]
theorem scLawFillDue : FnScope nsLawFillDue ["wanted", "lying", "more", "due"] (defScope sLawFillDue) := ⟨rfl, rfl, rfl, by decide +kernel, rfl, by decide +kernel, by decide +kernel⟩
theorem ok_law_fill_due (t : T K mg) : Ok P w K mg base 1 "_law_fill_due" ["wanted", "lying", "more", "due"] spFD := by
  refine mkOk t.d_law_fill_due t.g_law_fill_due scLawFillDue (fun vs H Q E h => ?_) (fun _ _ _ _ _ _ us hl => match us, hl with | [_, _, _, _], _ => rfl) fun cdv A outer s H vs Q E hr h => ?_
  · obtain ⟨p, q, u, r, ws, ms, rfl, _⟩ := h; rfl
  obtain ⟨p, q, u, r, ws, ms, rfl, hp, hu, wl, ml, hd⟩ := h
  refine ⟨_, pss_cons (ps_if (pt_val (pe_callB call_isi rfl t.f_isinstance (by decide +kernel) (pa_cons (pv 3) (pa_cons (pe_bltn (v := .ty "tuple") rfl t.f_tuple (by decide +kernel) rfl) pa_nil))))
      (pss_one (ps_ret (pv 3)))
      pss_nil)
    (pss_cons (ps_for PassesOwn.never rfl (pi_range1 rfl t.f_range (pa_cons (pe_callB call_len_seq rfl t.f_len boot_len (pa_cons (pv 2) pa_nil)) pa_nil)) (pg_name (i := 4) scLawFillDue.nd rfl (Or.inl rfl))
      (pss_one (ps_if (PW.pt (pw_or (pt_cmpR op_ge (pv 4) (pe_callB call_len_seq rfl t.f_len boot_len (pa_cons (pv 3) pa_nil)) (nomark _)) (pw_or1 (pt_cmpR op_ne (pe_ix ix_list (pv 2) (pv 4) (fun _ _ => rfl)) (pe_ix ix_list (pv 0) (pe_ix ix_list (pv 3) (pv 4) (fun _ _ => rfl)) (fun _ _ => rfl)) (nomark _)))))
      (pss_one (ps_ret (pe_tup (pa_cons pe_str (pa_cons (pv 4) pa_nil)))))
      pss_nil)))
    (pss_cons (ps_if (pt_cmpR op_lt (pe_callB call_len_seq rfl t.f_len boot_len (pa_cons (pv 2) pa_nil)) (pe_callB call_len_seq rfl t.f_len boot_len (pa_cons (pv 3) pa_nil)) (nomark _))
      (pss_one (ps_ret (pe_tup (pa_cons pe_str (pa_cons (pe_callB call_len_seq rfl t.f_len boot_len (pa_cons (pv 2) pa_nil)) pa_nil)))))
      pss_nil)
    (pss_one (ps_ret (pv 0))))), ?_⟩
  have lm : (ms.map V.str).length = ms.length := List.length_map ..
  rcases hd with ⟨xs, hT, kT⟩ | ⟨g, hg, glo, gl, kd, kf⟩
  · exact ⟨_, rfl, _, _, _, _, true, rfl, .ty _, .base (.tup hT), kit_ty (by decide +kernel), _, rfl, iteT ⟨_, rfl, kT⟩⟩
  refine ⟨_, rfl, _, _, _, _, false, rfl, .ty _, .base (.lst hg), kit_ty (by decide +kernel), _, rfl, iteF ?_⟩
  have lg : (nI g).length = g.length := List.length_map ..
  have ld : (dueS ws g).length = g.length := List.length_map ..
  refine ⟨_, rfl, u, _, rfl, .inl (SqL.of hu), _, rfl, by rw [lm]; omega, by rw [lm]; omega, ?_⟩
  rw [lm, Int.toNat_natCast]
  refine for_range (lo := 0) (n := ms.length) (fun i σ' H' => (∃ o4 : Option V, σ' = [some (.ref p), some (.ref q), some (.ref u), some (.ref r), o4]) ∧ H = H' ∧ i ≤ g.length ∧ ∀ j, j < i → ms[j]? = (dueS ws g)[j]?) ⟨⟨_, rfl⟩, rfl, Nat.zero_le _, fun j h => absurd h (Nat.not_lt_zero _)⟩ ?_ ?_
  · rintro i σ' H' hi ⟨⟨o4, rfl⟩, rfl, ig, hall⟩
    rw [show (0 : Int) + (i : Int) = (i : Int) by omega]
    obtain ⟨y, hy⟩ : ∃ y, ms[i]? = some y := ⟨_, List.getElem?_eq_getElem hi⟩
    refine ⟨_, rfl, _, rfl, r, _, rfl, .inl (SqL.of hg), _, _, rfl, rfl, _, rfl, ite2 (fun h1 => ?_) (fun h1 => ?_)⟩
    · have e : i = g.length := by
        have := of_decide_eq_true h1
        rw [lg] at this
        omega
      refine ⟨_, rfl, (by show 2 ≤ sizeLine; decide), fun T hT => kd i ⟨hall, ?_⟩ (by omega) T _ (Same.new hT) upd_same⟩
      rw [hy, List.getElem?_eq_none (by rw [ld]; omega)]
      exact fun z => by cases z
    · have lt : i < g.length := by
        have : ¬ g.length ≤ i := fun z => h1 (decide_eq_true (by rw [lg]; omega))
        omega
      obtain ⟨n, hn⟩ : ∃ n, g[i]? = some n := ⟨_, List.getElem?_eq_getElem lt⟩
      have nlt := glo n (List.mem_of_getElem? hn)
      have hds : (dueS ws g)[i]? = some (ws.getD n ⟨#[]⟩) := by unfold dueS; rw [List.getElem?_map, hn]; rfl
      refine ⟨_, rfl, _, rfl, u, _, _, .str y, rfl, rfl, SqL.of hu, atI_nat (by rw [List.getElem?_map, hy]; rfl), _, rfl, _, rfl, _, rfl, r, _, _, .int (n : Int), rfl, rfl, SqL.of hg, atI_nat (by unfold nI; rw [List.getElem?_map, hn]; rfl), p, _, _, .str (ws.getD n ⟨#[]⟩), rfl, rfl, SqL.of hp, atI_nat (by rw [List.getElem?_map, List.getD_eq_getElem?_getD, List.getElem?_eq_getElem nlt]; rfl), rfl, _, rfl, ite2 (fun h2 => ?_) (fun h2 => ?_)⟩
      · have ne : y ≠ ws.getD n ⟨#[]⟩ := fun z => by rw [z] at h2; simp at h2
        refine ⟨_, rfl, (by show 2 ≤ sizeLine; decide), fun T hT => kd i ⟨hall, ?_⟩ (by omega) T _ (Same.new hT) upd_same⟩
        rw [hy, hds]
        exact fun z => ne (Option.some.inj z)
      · have e : y = ws.getD n ⟨#[]⟩ := by
          by_cases q : y = ws.getD n ⟨#[]⟩
          · exact q
          · exfalso
            apply h2
            have : ¬ (V.str y = V.str (ws.getD n ⟨#[]⟩)) := fun z => q (V.str.inj z)
            rw [decide_eq_false this]
            rfl
        refine ⟨⟨_, rfl⟩, rfl, lt, fun j hj => ?_⟩
        by_cases z : j < i
        · exact hall j z
        · obtain rfl : j = i := by omega
          rw [hy, hds, e]
  · rintro σ' H' ⟨⟨o4, rfl⟩, rfl, ig, hall⟩
    refine ⟨_, rfl, u, _, rfl, .inl (SqL.of hu), _, rfl, r, _, rfl, .inl (SqL.of hg), _, _, rfl, rfl, _, rfl, ite2 (fun h1 => ?_) (fun h1 => ?_)⟩
    · have lt : ms.length < g.length := by
        have := of_decide_eq_true h1
        rw [lg, lm] at this
        omega
      refine ⟨_, rfl, u, _, rfl, .inl (SqL.of hu), (by show 2 ≤ sizeLine; decide), fun T hT => ?_⟩
      refine kd ms.length ⟨hall, ?_⟩ (Nat.le_refl _) T _ (Same.new hT) (by rw [upd_same, lm])
      rw [List.getElem?_eq_none (Nat.le_refl _), List.getElem?_eq_getElem (by rw [ld]; exact lt)]
      exact fun z => by cases z
    · have ge : g.length ≤ ms.length := by
        have : ¬ ms.length < g.length := fun z => h1 (decide_eq_true (by rw [lg, lm]; omega))
        omega
      refine ⟨_, rfl, kf (List.ext_getElem? fun j => ?_) _ (Same.refl _)⟩
      by_cases z : j < ms.length
      · exact hall j z
      · rw [List.getElem?_eq_none (by omega), List.getElem?_eq_none (by rw [ld]; omega)]
end
end Sx

set_option Elab.async false
set_option linter.all false
set_option maxRecDepth 100000
set_option maxHeartbeats 4000000
namespace SxK
open PySem PySem.Spec PyProof.Rows L2
/-! ### try with two clauses, both with the same name -/
def wTwo (K : PySem.W.Frag) (c c2 : Value) (i : Nat) (ts ts2 : Addr → Value → Option Addr → TS) (D : Ends) : WX := fun cls d σ H =>
  (PySem.W.exmOne K cls c = some true ∧ ∀ a, H a = none → ts a cls d (dropAt i D) (σ.set i (some (.ref a))) H) ∨ (PySem.W.exmOne K cls c = some false ∧ PySem.W.exmOne K cls c2 = some true ∧ ∀ a, H a = none → ts2 a cls d (dropAt i D) (σ.set i (some (.ref a))) H)
section
variable {X : Cx} {x x2 n : Str} {c c2 : Value} {i : Nat} {body suite suite2 : List Stmt} {b₀ b₂ : Stmt} {np np2 pos pos' pos2 : Pos} {more : List ExceptHandler} {tb : WX → TS} {ts ts2 : Addr → Value → Option Addr → TS}
theorem ps_try_two (st : X.stack = X.env :: X.outer) (fr : X.env.frame = some X.env.locals) (nd : X.N.Nodup) (ni : X.N[i]? = some n) (nl : X.env.kindOf n = some .local) (nc : Names X x c) (nc2 : Names X x2 c2)
    (tryB : ∀ (W : WX) (pn : List (Addr × Obj)) (xe : Value → Shared → Prop), Takes (X.tr pn xe) W → PassesOwn (model X.prog X.w) X.A X.env xe → PSs (X.tr pn xe) body (tb W))
    (suiteB : ∀ (a : Addr) (oe : Obj) (cls : Value) (d : Option Addr) (pn : List (Addr × Obj)), Zc cls d oe → (∃ vs, oe.data = .fields vs) → PSs (X.suite a ((a, oe) :: pn)) (b₀ :: suite) (ts a cls d))
    (suiteB2 : ∀ (a : Addr) (oe : Obj) (cls : Value) (d : Option Addr) (pn : List (Addr × Obj)), Zc cls d oe → (∃ vs, oe.data = .fields vs) → PSs (X.suite a ((a, oe) :: pn)) (b₂ :: suite2) (ts2 a cls d)) :
    PS X (.Try body (.ExceptHandler (some (.Name x np)) (some n) (b₀ :: suite) pos' :: .ExceptHandler (some (.Name x2 np2)) (some n) (b₂ :: suite2) pos2 :: more) [] [] pos) (fun D σ H => tb (wTwo X.K c c2 i ts ts2 D) D σ H) := by
  refine ⟨fun pins s σ H D I h => ?_⟩
  have okX := I.ok
  have afr : X.A.frames = some (X.env :: X.outer) := by rw [okX.frames, st]
  refine wpAny_Try_except (wpAny_mono ((tryB (wTwo X.K c c2 i ts ts2 D) (X.pn ++ pins) _ (fun u s2 y => ?_) PassesOwn.looking).run [] s σ H D (I.toTry _) h) (fun f s1 q => ?_) (fun e s1 q => q))
  · obtain ⟨a, B, sJ, pins2, τ, G, cls, d, rfl, J0, inB, upS, air, free, osJ, gnJ, wish⟩ := y
    have J : Inv X pins τ G sJ := J0.ofTry okX
    have air2 : Sky B (X.env :: X.outer) a (Zc cls d) X.env.locals s2.heap := by rw [← st]; exact air
    show wpAny (model X.prog X.w) X.A (noteFrame (.ref a) X.env) _ _ _
    refine Sky.land Zc.steady afr fr air2 fun hL flL upL => ?_
    have JL : Inv X pins τ G { s2 with heap := hL } := J.landed inB flL.1 (upS.trans upL) osJ gnJ
    obtain ⟨oL, vL, eL, zL, dL⟩ := flL.there
    have off : a ∉ frs (X.env :: X.outer) := fun hm => by
      obtain ⟨_, o', e', hnf⟩ := flL.2.2.1.mem hm
      rw [eL] at e'
      cases e'
      exact hnf _ dL
    have aL : a ≠ X.env.locals := fun z => off (List.mem_filterMap.mpr ⟨X.env, List.mem_cons_self, by rw [fr, z]⟩)
    have aF : a ∉ X.fs := fun hm => by
      obtain ⟨e, he, q⟩ := List.mem_filterMap.mp hm
      exact off (List.mem_filterMap.mpr ⟨e, List.mem_cons_of_mem _ he, q⟩)
    have SL := JL.suite eL dL free aL aF
    have tyL : PySem.W.Looks (model X.prog X.w) hL (typeOf (.ref a)) cls := fun A Q E s k q => wpAny_typeOf_ref (k _ _ eL) (by rw [zL.1]; exact q)
    have named : ∀ {x : Str} {c : Value} {np : Pos}, Names X x c → ∀ {Q : Value → Shared → Prop} {E : Value → Shared → Prop}, Q c { s2 with heap := hL } → wpAny (model X.prog X.w) (X.A.mark (some (.ref a))) (eval (.Name x np) X.env) Q E { s2 with heap := hL } := fun {x c np} nc {Q E} q => by
      rcases nc with ⟨g1, g2, m1 | ⟨m1, m2, m3⟩⟩
      · exact ld_glob (X := X.suite a ((a, oL) :: (X.pn ++ pins))) SL g1 m1 q g2
      · exact ld_blt (X := X.suite a ((a, oL) :: (X.pn ++ pins))) SL g1 m1 m2 q m3 g2
    rcases wish with ⟨mt, wish⟩ | ⟨mf, mt, wish⟩
    · refine wpAny_handleBy_cons (codeAny_handlers_test ?_) (fun q => by cases q)
      have mtL := PySem.W.exm_one (M := model X.prog X.w) JL.kIn tyL mt
      refine named nc (mtL.here (codeAny_handlers_suite_as (HandSPX.lands_againZ flL fun hR flR upR => ?_)))
      have JR : Inv X pins τ G { s2 with heap := hR } := J.landed inB flR.1 ((upS.trans upL).trans upR) osJ gnJ
      obtain ⟨oR, vR, eR, zR, dR⟩ := flR.there
      refine store_ok (X := X.suite a ((a, oR) :: (X.pn ++ pins))) (v := .ref a) (JR.suite eR dR free aL aF) nd ni (.inl nl) rfl (fun s5 S5 => ?_) (.inr nl)
      refine wpAny_mono ((suiteB a oR cls d (X.pn ++ pins) zR ⟨_, dR⟩).run [] s5 _ G _ S5 (wish a free)) (fun f s6 q => ?_) (fun _ _ z => z.elim)
      have goes : ∀ {ρ : L2.St} {F : Hp} {Q : Shared → Prop}, Inv (X.suite a ((a, oR) :: (X.pn ++ pins))) [] ρ F s6 → (∀ s7, Inv X pins (ρ.set i none) F s7 → Q s7) →
          wpAny (model X.prog X.w) X.A (do bindName X.env n .none; unbindBehindTheSuite X.env n pos') (fun _ s7 => Q s7) X.xe s6 := fun {ρ F Q} Sx hq => gone_ok (Sx.unsuite okX) nd ni nl hq
      cases f with
      | ret u =>
        obtain ⟨v, ρ, F, Sx, rv, q⟩ := q
        exact goes Sx fun s7 J7 => ⟨_, _, _, J7, rv, q⟩
      | next =>
        obtain ⟨ρ, F, Sx, q⟩ := q
        exact goes Sx fun s7 J7 => ⟨_, _, J7, q⟩
      | brk =>
        obtain ⟨ρ, F, Sx, q⟩ := q
        exact goes Sx fun s7 J7 => ⟨_, _, J7, q⟩
      | cont =>
        obtain ⟨ρ, F, Sx, q⟩ := q
        exact goes Sx fun s7 J7 => ⟨_, _, J7, q⟩
    · refine wpAny_handleBy_cons (codeAny_handlers_test ?_) (fun q => by cases q)
      have mfL := PySem.W.exm_one (M := model X.prog X.w) JL.kIn tyL mf
      refine named nc (mfL.here ?_)
      show wpAny _ X.A (handleBy (.ref a) X.env (.ExceptHandler (some (.Name x2 np2)) (some n) (b₂ :: suite2) pos2 :: more)) _ _ _
      refine wpAny_handleBy_cons (codeAny_handlers_test ?_) (fun q => by cases q)
      have mtL := PySem.W.exm_one (M := model X.prog X.w) JL.kIn tyL mt
      refine named nc2 (mtL.here (codeAny_handlers_suite_as (HandSPX.lands_againZ flL fun hR flR upR => ?_)))
      have JR : Inv X pins τ G { s2 with heap := hR } := J.landed inB flR.1 ((upS.trans upL).trans upR) osJ gnJ
      obtain ⟨oR, vR, eR, zR, dR⟩ := flR.there
      refine store_ok (X := X.suite a ((a, oR) :: (X.pn ++ pins))) (v := .ref a) (JR.suite eR dR free aL aF) nd ni (.inl nl) rfl (fun s5 S5 => ?_) (.inr nl)
      refine wpAny_mono ((suiteB2 a oR cls d (X.pn ++ pins) zR ⟨_, dR⟩).run [] s5 _ G _ S5 (wish a free)) (fun f s6 q => ?_) (fun _ _ z => z.elim)
      have goes : ∀ {ρ : L2.St} {F : Hp} {Q : Shared → Prop}, Inv (X.suite a ((a, oR) :: (X.pn ++ pins))) [] ρ F s6 → (∀ s7, Inv X pins (ρ.set i none) F s7 → Q s7) →
          wpAny (model X.prog X.w) X.A (do bindName X.env n .none; unbindBehindTheSuite X.env n pos2) (fun _ s7 => Q s7) X.xe s6 := fun {ρ F Q} Sx hq => gone_ok (Sx.unsuite okX) nd ni nl hq
      cases f with
      | ret u =>
        obtain ⟨v, ρ, F, Sx, rv, q⟩ := q
        exact goes Sx fun s7 J7 => ⟨_, _, _, J7, rv, q⟩
      | next =>
        obtain ⟨ρ, F, Sx, q⟩ := q
        exact goes Sx fun s7 J7 => ⟨_, _, J7, q⟩
      | brk =>
        obtain ⟨ρ, F, Sx, q⟩ := q
        exact goes Sx fun s7 J7 => ⟨_, _, J7, q⟩
      | cont =>
        obtain ⟨ρ, F, Sx, q⟩ := q
        exact goes Sx fun s7 J7 => ⟨_, _, J7, q⟩
  · cases f with
    | ret u =>
      obtain ⟨v, τ, G, J, rv, q⟩ := q
      exact ⟨v, τ, G, J.ofTry okX, rv, q⟩
    | next =>
      obtain ⟨τ, G, J, q⟩ := q
      exact wpAny_execs_nil ⟨τ, G, J.ofTry okX, q⟩
    | brk =>
      obtain ⟨τ, G, J, q⟩ := q
      exact ⟨τ, G, J.ofTry okX, q⟩
    | cont =>
      obtain ⟨τ, G, J, q⟩ := q
      exact ⟨τ, G, J.ofTry okX, q⟩
end
end SxK

set_option Elab.async false
set_option linter.all false
set_option maxRecDepth 100000
set_option maxHeartbeats 2000000
namespace Sx
open PySem PySem.Spec PyProof.Rows L2 SxA SxK PySem.W
def spTF : Sp := fun vs H Q _ => ∃ (p q u : Addr) (ws ls ms : List Str), vs = [.ref p, .ref q, .ref u] ∧ H p = some (.lst (ws.map V.str)) ∧ H q = some (.lst (ls.map V.str)) ∧ H u = some (.lst (ms.map V.str)) ∧ ws.length ≤ 100 ∧ ls.length ≤ 100 ∧ ms.length ≤ 100 ∧
  (∀ k, k < ls.length → (greedy ws (ls.take k) 0).isSome = true → greedy ws (ls.take (k + 1)) 0 = none → ∀ T H', Same H H' → H' T = some (.tup [.str "strange", .int (k : Int)]) → Q (.ref T) H') ∧
  (∀ g, greedy ws ls 0 = some g → (∀ k, diffAt ms (dueS ws g) k → k ≤ ms.length → ∀ T H', Same H H' → H' T = some (.tup [.str "not", .int (k : Int)]) → Q (.ref T) H') ∧ (ms = dueS ws g → ∀ r H', H r = none → Same H H' → H' r = some (.lst (ws.map V.str)) → Q (.ref r) H'))
section
variable {P : Program} {w : World} {K : PySem.W.Frag} {mg : Str → Option Value} {base : Heap}
abbrev nsLawFilled : List Str := ["wanted", "lying", "more", "error"]
theorem scLawFilled : FnScope nsLawFilled ["wanted", "lying", "more"] (defScope sLawFilled) := ⟨rfl, rfl, rfl, by decide +kernel, rfl, by decide +kernel, by decide +kernel⟩
theorem ok_law_filled (t : T K mg) (er : ErrC P K mg xStrangeSheet) (er2 : ErrC P K mg xNotMissing) : Ok P w K mg base 6 "_law_filled" ["wanted", "lying", "more"] spTF := by
  refine mkOk t.d_law_filled t.g_law_filled scLawFilled (fun vs H Q E h => ?_) (fun _ _ _ _ _ _ us hl => match us, hl with | [_, _, _], _ => rfl) fun cdv A outer s H vs Q E hr h => ?_
  · obtain ⟨p, q, u, ws, ls, ms, rfl, _⟩ := h; rfl
  obtain ⟨p, q, u, ws, ls, ms, rfl, hp, hq, hu, wl, ll, ml, k1, k2⟩ := h
  refine ⟨_, pss_one (ps_try_two (i := 3) (c := .ref (He.ga K "StrangeSheet")) (c2 := .ref (He.ga K "NotMissing")) (tb := fun W => tRet (tCallS (spFill K) (WE W) (tCons (tVar 0) (tCons (tVar 1) (tCons (tVar 2) tNil))))) (ts := fun a cls d => tRet (tTup (tCons (tC (.str "strange")) (tCons (tXf a cls d (He.ga K "StrangeSheet") "place" (tVar 3)) tNil)))) (ts2 := fun a cls d => tRet (tTup (tCons (tC (.str "not")) (tCons (tXf a cls d (He.ga K "NotMissing") "number" (tVar 3)) tNil))))
    rfl rfl scLawFilled.nd rfl rfl ⟨rfl, by decide, .inl er.glob⟩ ⟨rfl, by decide, .inl er2.glob⟩
    (fun W pn xe tk _ => pss_one (ps_ret (pe_okX (ok_filled t er er2) hr rfl tk (by exact (pa_cons (pv 0) (pa_cons (pv 1) (pa_cons (pv 2) pa_nil)))))))
    (fun a oe cls d pn hz2 hf => pss_one (ps_ret (pe_tup (pa_cons pe_str (pa_cons (pe_xf er.xf (er.ats _ (by decide)) hz2 hf (pv 3)) pa_nil)))))
    (fun a oe cls d pn hz2 hf => pss_one (ps_ret (pe_tup (pa_cons pe_str (pa_cons (pe_xf er2.xf (er2.ats _ (by decide)) hz2 hf (pv 3)) pa_nil)))))), ?_⟩
  refine ⟨_, rfl, _, rfl, _, rfl, p, q, u, ws, ls, ms, rfl, hp, hq, hu, wl, ll, ml, fun kk hk good bad d H' s' hd => .inl ⟨er.exm, fun a ha => ?_⟩, fun g hg => ⟨fun kk hdf kl d H' s' hd => .inr ⟨er2.no _ (by decide), er2.exm, fun a ha => ?_⟩, fun e r H' hr' s' h' => (k2 g hg).2 e r H' hr' s' h'⟩⟩
  · refine ⟨_, rfl, rfl, rfl, d, _, _, rfl, hd, rfl, (by show 2 ≤ sizeLine; decide), fun T hT => ?_⟩
    exact k1 kk hk good bad T _ (s'.trans (Same.new hT)) upd_same
  · refine ⟨_, rfl, rfl, rfl, d, _, _, rfl, hd, rfl, (by show 2 ≤ sizeLine; decide), fun T hT => ?_⟩
    exact (k2 g hg).1 kk hdf kl T _ (s'.trans (Same.new hT)) upd_same
end
end Sx

set_option Elab.async false
set_option linter.all false
set_option maxRecDepth 100000
set_option maxHeartbeats 4000000
namespace Sx
open PySem PySem.Spec PyProof.Rows L2 SxA SxK PySem.W
theorem xyz_at {u : Int} (h0 : 0 ≤ u) (h1 : u < 3) : ∃ c, atI (Str.ofString "xyz").cps.toList u = some c ∧ PyData.strOk ⟨#[c]⟩ = true := by
  have : u = 0 ∨ u = 1 ∨ u = 2 := by omega
  rcases this with rfl | rfl | rfl
  · exact ⟨120, by decide +kernel, by decide +kernel⟩
  · exact ⟨121, by decide +kernel, by decide +kernel⟩
  · exact ⟨122, by decide +kernel, by decide +kernel⟩
theorem xyzw_at {u : Int} (h0 : 0 ≤ u) (h1 : u < 4) : ∃ c, atI (Str.ofString "xyzw").cps.toList u = some c ∧ PyData.strOk ⟨#[c]⟩ = true := by
  have : u = 0 ∨ u = 1 ∨ u = 2 ∨ u = 3 := by omega
  rcases this with rfl | rfl | rfl | rfl
  · exact ⟨120, by decide +kernel, by decide +kernel⟩
  · exact ⟨121, by decide +kernel, by decide +kernel⟩
  · exact ⟨122, by decide +kernel, by decide +kernel⟩
  · exact ⟨119, by decide +kernel, by decide +kernel⟩
theorem OkS.app {a b : List Str} (h : OkS a) (g : OkS b) : OkS (a ++ b) := fun s hs => (List.mem_append.mp hs).elim (h s) (g s)
theorem OkS.one {c : Str} (h : PyData.strOk c = true) : OkS [c] := fun s hs => by rw [List.mem_singleton.mp hs]; exact h
theorem OkS.take {a : List Str} (h : OkS a) (n : Nat) : OkS (a.take n) := fun s hs => h s (List.mem_of_mem_take hs)
theorem OkS.drop {a : List Str} (h : OkS a) (n : Nat) : OkS (a.drop n) := fun s hs => h s (List.mem_of_mem_drop hs)
/-- what is due -/
def DueD (ws ls : List Str) (H : Hp) (dv : Addr) : Prop := (∃ g, greedy ws ls 0 = some g ∧ H dv = some (.lst (nI g))) ∨ ∃ k : Nat, k < ls.length ∧ (greedy ws (ls.take k) 0).isSome = true ∧ greedy ws (ls.take (k + 1)) 0 = none ∧ H dv = some (.tup [.str "strange", .int (k : Int)])
theorem neD_same {K : PySem.W.Frag} {H : Hp} {x y : V} {d : PyData} {Q : VK} (h1 : Dp K H x d) (h2 : Dp K H y d) (hs : SeqAt.shaped d = true) (he : PyData.eqv d d = true) (k : Q (.bl false) H) : rNeD K x y H Q := ⟨d, d, h1, h2, hs, hs, by rw [he]; exact k⟩
theorem eqS_self : ∀ ws : List Str, PyData.eqvAll (ws.map PyData.str) (ws.map PyData.str) = true
  | [] => by simp [PyData.eqvAll]
  | x :: r => by rw [List.map_cons, PyData.eqvAll, eqS_self r]; simp [PyData.eqv]
theorem pStrs_self (ws : List Str) : PyData.eqv (pStrs ws) (pStrs ws) = true := by unfold pStrs; rw [PyData.eqv]; exact eqS_self ws
theorem pI_self (c : List Nat) : PyData.eqv (pI c) (pI c) = true := by
  have := eqv_ints (c.map fun n : Nat => (n : Int)) (c.map fun n : Nat => (n : Int))
  rw [decide_eq_true rfl] at this
  exact this
theorem pI_shaped (c : List Nat) : SeqAt.shaped (pI c) = true := shaped_ints _
def pT (w : Str) (k : Int) : PyData := .tuple [.str w, .int k]
theorem pT_self (w : Str) (k : Int) : PyData.eqv (pT w k) (pT w k) = true := by simp [pT, PyData.eqv, PyData.eqvAll]
theorem pT_shaped {w : Str} (k : Int) (h : PyData.strOk w = true) : SeqAt.shaped (pT w k) = true := by simp [pT, SeqAt.shaped, PyData.canLay0, PyData.canLayAll0, PyData.depth, PyData.depthAll, h]
theorem dp_T {K : PySem.W.Frag} {H : Hp} {T : Addr} {w : Str} {k : Int} (h : H T = some (.tup [.str w, .int k])) : Dp K H (.ref T) (pT w k) := .tup (SqT.of h) (.cons (.str _) (.cons (.int _) .nil))
theorem diff_one {ms ds : List Str} {k j : Nat} (h : diffAt ms ds k) (g : diffAt ms ds j) : k = j := by
  by_cases q : k < j
  · exact absurd (g.1 k q) h.2
  · by_cases q2 : j < k
    · exact absurd (h.1 j q2) g.2
    · omega
theorem Sel.pre {α : Type} [DecidableEq α] {w l : List α} {off : Nat} {c : List Nat} (h : Sel w l off c) : ∀ {l1 l2 : List α}, l = l1 ++ l2 → ∃ c', Sel w l1 off c' := by
  induction h with
  | nil off =>
    intro l1 l2 e
    cases l1 with
    | nil => exact ⟨_, .nil _⟩
    | cons x r => cases e
  | hit h ih =>
    intro l1 l2 e
    cases l1 with
    | nil => exact ⟨_, greedy_sel (greedy_nil _ _)⟩
    | cons y r =>
      injection e with e1 e2
      subst e1
      obtain ⟨c', h'⟩ := ih e2
      exact ⟨_, .hit h'⟩
  | skip h ih =>
    intro l1 l2 e
    obtain ⟨c', h'⟩ := ih e
    exact ⟨_, .skip h'⟩
theorem some_le {ws ls : List Str} {j m : Nat} (h : j ≤ m) (g : (greedy ws (ls.take m) 0).isSome = true) : (greedy ws (ls.take j) 0).isSome = true := by
  obtain ⟨c, hc⟩ := Option.isSome_iff_exists.mp g
  have e : ls.take m = ls.take j ++ (ls.take m).drop j := by
    have := (List.take_append_drop j (ls.take m)).symm
    rw [List.take_take, Nat.min_eq_left h] at this
    exact this
  obtain ⟨c', h'⟩ := (greedy_sel hc).pre e
  obtain ⟨g', hg'⟩ := greedy_some h'
  rw [hg']
  rfl
theorem none_all {ws ls : List Str} {k : Nat} {g : List Nat} (hk : k < ls.length) (h : greedy ws (ls.take (k + 1)) 0 = none) (e : greedy ws ls 0 = some g) : False := by
  have := some_le (ws := ws) (ls := ls) (j := k + 1) (m := ls.length) (by omega) (by rw [List.take_length, e]; rfl)
  rw [h] at this
  cases this
theorem bad_one {ws ls : List Str} {k j : Nat} (h1 : (greedy ws (ls.take k) 0).isSome = true) (h2 : greedy ws (ls.take (k + 1)) 0 = none) (g1 : (greedy ws (ls.take j) 0).isSome = true) (g2 : greedy ws (ls.take (j + 1)) 0 = none) : k = j := by
  by_cases q : k < j
  · have := some_le (j := k + 1) (m := j) (by omega) g1
    rw [h2] at this
    cases this
  · by_cases q2 : j < k
    · have := some_le (j := j + 1) (m := k) (by omega) h1
      rw [g2] at this
      cases this
    · omega
theorem cut_to (xs : List V) (n : Nat) : cutV xs none (some (n : Int)) = xs.take n := by
  unfold cutV
  rw [HT.sIx_nat, HT.sIx_none, List.drop_zero, Nat.sub_zero, ← List.take_eq_take_min]
theorem cut_from (xs : List V) (n : Nat) : cutV xs (some (n : Int)) none = xs.drop n := by
  unfold cutV
  rw [HT.sIx_nat, HT.sIx_none, List.take_of_length_le (by rw [List.length_drop]; omega)]
  by_cases q : n ≤ xs.length
  · rw [Nat.min_eq_left q]
  · rw [Nat.min_eq_right (by omega), List.drop_eq_nil_of_le (Nat.le_refl _), List.drop_eq_nil_of_le (by omega)]
/-- what the law keeps -/
structure Kp (H : Hp) (r W L dv gt g1 g2 : Addr) (ws ls : List Str) : Prop where
  w : H W = some (.lst (ws.map V.str))
  l : H L = some (.lst (ls.map V.str))
  d : DueD ws ls H dv
  t : H gt = some (.tup [.ref g1, .ref g2])
  a : H g1 = some (.lst (ws.map V.str))
  b : H g2 = some (.lst (ls.map V.str))
  n : W ≠ r ∧ L ≠ r ∧ dv ≠ r ∧ gt ≠ r ∧ g1 ≠ r ∧ g2 ≠ r
theorem DueD.same {ws ls : List Str} {H H' : Hp} {dv : Addr} (h : DueD ws ls H dv) (s : ∀ o, H dv = some o → H' dv = some o) : DueD ws ls H' dv := by
  rcases h with ⟨g, h1, h2⟩ | ⟨k, h1, h2, h3, h4⟩
  · exact .inl ⟨g, h1, s _ h2⟩
  · exact .inr ⟨k, h1, h2, h3, s _ h4⟩
theorem Kp.same {H H' : Hp} {r W L dv gt g1 g2 : Addr} {ws ls : List Str} (h : Kp H r W L dv gt g1 g2 ws ls) (s : Same H H') : Kp H' r W L dv gt g1 g2 ws ls := ⟨s _ _ h.w, s _ _ h.l, h.d.same (s _), s _ _ h.t, s _ _ h.a, s _ _ h.b, h.n⟩
theorem Kp.but {H H' : Hp} {r W L dv gt g1 g2 : Addr} {ws ls : List Str} (h : Kp H r W L dv gt g1 g2 ws ls) (s : But r H H') : Kp H' r W L dv gt g1 g2 ws ls := ⟨s _ _ h.w h.n.1, s _ _ h.l h.n.2.1, h.d.same (fun o e => s _ _ e h.n.2.2.1), s _ _ h.t h.n.2.2.2.1, s _ _ h.a h.n.2.2.2.2.1, s _ _ h.b h.n.2.2.2.2.2, h.n⟩
def spLaw (K : PySem.W.Frag) : Sp := fun vs H Q _ => ∃ (a : Addr) (ns : List Int), vs = [.ref a] ∧ SqL K H a (ns.map V.int) ∧ ns.length ≤ 63 ∧ ∀ H', Q (.bl true) H'
section
variable {P : Program} {w : World} {K : PySem.W.Frag} {mg : Str → Option Value} {base : Heap}
abbrev nsLaw : List Str := ["script", "row", "wanted", "k", "lying", "sheet", "due", "given", "more", "turn"]
theorem scLaw : FnScope nsLaw ["script"] (defScope sLaw) := ⟨rfl, rfl, rfl, by decide +kernel, rfl, by decide +kernel, by decide +kernel⟩
theorem ok_law (t : T K mg) (er : ErrC P K mg xStrangeSheet) (er2 : ErrC P K mg xNotMissing) {fd : FuncData} (F : FunD K "law" "law" (defArgs sLaw) (defBody sLaw) (defScope sLaw) [] [] (He.ga K "law") fd) : FnOk P w K mg base CX0 12 (He.ga K "law") fd ["script"] (spLaw K) := by
  refine mkFn F scLaw (fun vs H Q E h => ?_) fun cdv A outer s H vs Q E hr h => ?_
  · obtain ⟨a, ns, rfl, _⟩ := h; rfl
  obtain ⟨sc, zs0, rfl, hS, hlen, k⟩ := h
  have hr1 : Room 1 _ := hr.mono (by decide)
  have hr2 : Room 2 _ := hr.mono (by decide)
  have hr4 : Room 5 _ := hr.mono (by decide)
  have hr5 : Room 6 _ := hr.mono (by decide)
  have hr11 : Room 11 _ := hr.mono (by decide)
  refine ⟨_, pss_cons (ps_set (i := 1) scLaw.nd rfl (Or.inr rfl) (pe_ok (ok_law_numbers t) hr2 rfl (pa_cons (pv 0) (pa_cons pe_int pa_nil))))
    (pss_cons (ps_set (i := 2) scLaw.nd rfl (Or.inr rfl) (pe_lc (own := [("k", 3)]) (g := gName 3) (tt := tYes) rfl scLaw.nd (pi_range1 rfl t.f_range (pa_cons (pe_ok (ok_law_take t) hr1 rfl (pa_cons (pv 1) (pa_cons pe_int pa_nil))) pa_nil)) (blkOk_by (own := [("k", 3)]) (N := nsLaw) (sc := defScope sLaw) (by decide +kernel)) (fun _ _ _ _ _ => pg_name (i := 3) scLaw.nd rfl (Or.inl rfl)) (fun _ _ _ _ _ => pts_nil) (fun _ _ _ _ _ => (pe_ix ix_str pe_str (pe_ok (ok_law_take t) hr1 rfl (pa_cons (pv 1) (pa_cons pe_int pa_nil))) (fun _ _ => rfl)))))
    (pss_cons (ps_setLc (i := 4) (own := [("sheet", 5)]) (g := gName 5) (by rfl) scLaw.nd rfl rfl (sw_true rfl rfl rfl (by decide +kernel)) (pi_list (pv 2)) (blkOk_by (own := [("sheet", 5)]) (N := nsLaw) (sc := defScope sLaw) (by decide +kernel)) (fun _ _ _ _ _ => pg_name (i := 5) scLaw.nd rfl (Or.inl rfl)) (fun _ _ _ _ _ => pts_one (pt_cmpR op_gt (pe_ok (ok_law_take t) hr1 rfl (pa_cons (pv 1) (pa_cons pe_int pa_nil))) pe_int (nomark _))) (fun _ _ _ _ _ => (pv 5)))
    (C8.pss_cut (ps_if (pt_cmpR op_eq (pe_ok (ok_law_take t) hr1 rfl (pa_cons (pv 1) (pa_cons pe_int pa_nil))) pe_int (nomark _))
      (pss_one (ps_expr (pe_bm PySem.F.plainAttrs_list PySem.F.slot_list_insert PySem.F.type_list_insert mt_insert (pv 4) (pa_cons (pe_ok (ok_law_take t) hr1 rfl (pa_cons (pv 1) (pa_cons (pe_op op_add (pe_callB call_len_seq rfl t.f_len boot_len (pa_cons (pv 4) pa_nil)) pe_int) pa_nil))) (pa_cons (pe_ix ix_str pe_str (pe_ok (ok_law_take t) hr1 rfl (pa_cons (pv 1) (pa_cons pe_int pa_nil))) (fun _ _ => rfl)) pa_nil)))))
      pss_nil)
    (C8.pss_cut (ps_set (i := 6) scLaw.nd rfl (Or.inl rfl) (pe_ok (ok_law_due t) hr11 rfl (pa_cons (pv 2) (pa_cons (pv 4) pa_nil))))
    (pss_cons (ps_set (i := 7) scLaw.nd rfl (Or.inl rfl) (pe_tup (pa_cons (pe_callTy call_list_of rfl t.f_list (by decide +kernel) (pa_cons (pv 2) pa_nil)) (pa_cons (pe_callTy call_list_of rfl t.f_list (by decide +kernel) (pa_cons (pv 4) pa_nil)) pa_nil))))
    (C8.pss_cut (ps_if (pt_cmpR (op_neD (hu64 hr)) (pe_ok (ok_law_told t er) hr4 rfl (pa_cons (pe_ix ix_tup (pv 7) pe_int (fun _ _ => rfl)) (pa_cons (pe_ix ix_tup (pv 7) pe_int (fun _ _ => rfl)) pa_nil))) (pv 6) (nomark _))
      (pss_one (ps_ret pe_bl))
      pss_nil)
    (pss_cons (ps_set (i := 8) scLaw.nd rfl (Or.inl rfl) (pe_lst pa_nil))
    (C8.pss_cut (ps_if (pt_val (pe_callB call_isi rfl t.f_isinstance (by decide +kernel) (pa_cons (pv 6) (pa_cons (pe_bltn (v := .ty "list") rfl t.f_list (by decide +kernel) rfl) pa_nil))))
      (pss_one (ps_setLc (i := 8) (own := [("k", 3)]) (g := gName 3) (tt := tYes) (by rfl) scLaw.nd rfl rfl (sw_true rfl rfl rfl (by decide +kernel)) (pi_list (pv 6)) (blkOk_by (own := [("k", 3)]) (N := nsLaw) (sc := defScope sLaw) (by decide +kernel)) (fun _ _ _ _ _ => pg_name (i := 3) scLaw.nd rfl (Or.inl rfl)) (fun _ _ _ _ _ => pts_nil) (fun _ _ _ _ _ => (pe_ix (ix_listK (K := K) rfl) (pv 2) (pv 3) (fun _ _ => rfl)))))
      pss_nil)
    (pss_cons (ps_for PassesOwn.never rfl (pi_range1 rfl t.f_range (pa_cons pe_int pa_nil)) (pg_name (i := 9) scLaw.nd rfl (Or.inl rfl))
      (C8.pss_cut (ps_if (pt_cmpR (op_neD (hu64 hr)) (pe_ok (ok_law_filled t er er2) hr5 rfl (pa_cons (pe_ix ix_tup (pv 7) pe_int (fun _ _ => rfl)) (pa_cons (pe_ix ix_tup (pv 7) pe_int (fun _ _ => rfl)) (pa_cons (pe_callTy call_list_of rfl t.f_list (by decide +kernel) (pa_cons (pv 8) pa_nil)) pa_nil)))) (pe_ok (ok_law_fill_due t) hr1 rfl (pa_cons (pv 2) (pa_cons (pv 4) (pa_cons (pv 8) (pa_cons (pv 6) pa_nil))))) (nomark _))
      (pss_one (ps_ret pe_bl))
      pss_nil)
    (pss_cons (ps_set (i := 3) scLaw.nd rfl (Or.inl rfl) (pe_ok (ok_law_take t) hr1 rfl (pa_cons (pv 1) (pa_cons (pe_op op_add (pe_callB call_len_seq rfl t.f_len boot_len (pa_cons (pv 8) pa_nil)) pe_int) pa_nil))))
    (pss_one (ps_set (i := 8) scLaw.nd rfl (Or.inl rfl) (pe_ix ix_list (pe_lst (pa_cons (pe_op op_cat (pe_slice sl_list (pv 8) po_none (po_some (pv 3))) (pe_slice sl_list (pv 8) (po_some (pe_op op_add (pv 3) pe_int)) po_none)) (pa_cons (pe_op op_cat (pe_op op_cat (pe_slice sl_list (pv 8) po_none (po_some (pv 3))) (pe_lst (pa_cons pe_str pa_nil))) (pe_slice sl_list (pv 8) (po_some (pv 3)) po_none)) (pa_cons (pe_slice sl_list (pv 8) po_none (po_some (pv 3))) pa_nil)))) (pe_ok (ok_law_take t) hr1 rfl (pa_cons (pv 1) (pa_cons pe_int pa_nil))) (fun _ _ => rfl)))))))
    (pss_one (ps_ret (pe_cmpR (op_eqD (hu64 hr)) (pv 7) (pe_tup (pa_cons (pv 2) (pa_cons (pv 4) pa_nil))) (nomark _))))))))))))), ?_⟩
  refine ⟨_, rfl, sc, zs0, 90, rfl, hS, hlen, by decide, by decide, fun r H1 hr0 s1 D1 => ?_⟩
  refine ⟨_, rfl, r, 9, rfl, D1, by decide, fun v H2 v0 v1 D2 B2 => ?_⟩
  refine ⟨v, rfl, by omega, by omega, fun W hW => ?_⟩
  have nrW : r ≠ W := D2.ne hW
  refine lc_range (g := gName 3) (lo := 0) (n := v.toNat) (fun i H' => (∃ ws : List Str, H' W = some (.lst (ws.map V.str)) ∧ ws.length = i ∧ OkS ws) ∧ Dr H' r) ⟨⟨[], upd_same, rfl, fun s h => by cases h⟩, D2.new hW⟩ ?_ ?_
  · rintro i H3 hi ⟨⟨ws, hws, wl, okw⟩, D3⟩
    refine ⟨rfl, ?_⟩
    refine ⟨_, rfl, r, 3, rfl, D3, by decide, fun u H4 u0 u1 D4 B4 => ?_⟩
    obtain ⟨cc, hcc, okc⟩ := xyz_at u0 u1
    have hW4 := B4 _ _ hws nrW.symm
    refine ⟨_, _, cc, rfl, rfl, (by decide +kernel), hcc, _, hW4, by rw [List.length_map]; exact small1 (by omega), ⟨ws ++ [⟨#[cc]⟩], by rw [upd_same, List.map_append]; rfl, by rw [List.length_append, wl]; rfl, okw.app (OkS.one okc)⟩, D4.put nrW⟩
  rintro H3 ⟨⟨ws, hws, wl, okw⟩, D3⟩
  have w8 : ws.length ≤ 8 := by omega
  refine ⟨_, rfl, W, rfl, ⟨_, SqL.of hws⟩, fun L hL => ?_⟩
  have nrL : r ≠ L := D3.ne hL
  have nWL : W ≠ L := ne_of_none hws hL
  refine lc_list (K := K) (a := W) (xs := ws.map V.str) (g := gName 5) (fun j H' => (∃ ls : List Str, H' L = some (.lst (ls.map V.str)) ∧ ls.length ≤ j ∧ OkS ls) ∧ Dr H' r ∧ H' W = some (.lst (ws.map V.str))) ⟨⟨[], upd_same, Nat.le_refl _, fun s h => by cases h⟩, D3.new hL, by rw [upd_ne nWL]; exact hws⟩ (fun j H' _ q => SqL.of q.2.2) ?_ ?_
  · rintro j x H5 hx ⟨⟨ls, hls, ll, okl⟩, D5, hW5⟩
    obtain ⟨y, hy, rfl⟩ := strAt hx
    have jl := (List.getElem?_eq_some_iff.mp hy).1
    refine ⟨rfl, _, rfl, r, 3, rfl, D5, by decide, fun u H6 u0 u1 D6 B6 => ?_⟩
    have hL6 := B6 _ _ hls nrL.symm
    have hW6 := B6 _ _ hW5 nrW.symm
    refine ⟨_, _, rfl, rfl, _, rfl, ite2 (fun h1 => ?_) (fun h1 => ?_)⟩
    · exact ⟨_, rfl, _, hL6, by rw [List.length_map]; exact small1 (by omega), ⟨ls ++ [y], by rw [upd_same, List.map_append]; rfl, by rw [List.length_append]; exact Nat.succ_le_succ ll, okl.app (OkS.one (okw y (List.mem_of_getElem? hy)))⟩, D6.put nrL, by rw [upd_ne nWL]; exact hW6⟩
    · exact ⟨⟨ls, hL6, by omega, okl⟩, D6, hW6⟩
  rintro H5 ⟨⟨ls, hls, ll, okl⟩, D5, hW5⟩
  rw [List.length_map] at ll
  refine ⟨fun σ2 H6 => σ2 = [some (.ref sc), some (.ref r), some (.ref W), none, some (.ref L), none, none, none, none, none] ∧ (∃ ls : List Str, H6 L = some (.lst (ls.map V.str)) ∧ ls.length ≤ 9 ∧ OkS ls) ∧ Dr H6 r ∧ H6 W = some (.lst (ws.map V.str)), ?_, ?_⟩
  · refine ⟨_, rfl, r, 3, rfl, D5, by decide, fun u H6 u0 u1 D6 B6 => ?_⟩
    have hL6 := B6 _ _ hls nrL.symm
    have hW6 := B6 _ _ hW5 nrW.symm
    refine ⟨rfl, _, rfl, ite2 (fun h1 => ?_) (fun h1 => ⟨rfl, ⟨ls, hL6, by omega, okl⟩, D6, hW6⟩)⟩
    refine ⟨_, rfl, .inl ⟨rfl, _, SqL.of hL6⟩, _, rfl, _, rfl, L, _, rfl, .inl (SqL.of hL6), _, _, rfl, rfl, r, _, rfl, D6, by rw [List.length_map]; omega, fun i H7 i0 i1 D7 B7 => ?_⟩
    refine ⟨_, rfl, r, 4, rfl, D7, by decide, fun u2 H8 w0 w1 D8 B8 => ?_⟩
    obtain ⟨cc, hcc, okc⟩ := xyzw_at w0 w1
    have hL8 := B8 _ _ (B7 _ _ hL6 nrL.symm) nrL.symm
    have hW8 := B8 _ _ (B7 _ _ hW6 nrW.symm) nrW.symm
    rw [List.length_map] at i1
    refine ⟨_, _, cc, rfl, rfl, (by decide +kernel), hcc, L, _, i, _, rfl, rfl, hL8, by rw [List.length_map]; exact small1 (by omega), i0, by omega, rfl, ⟨ls.take i.toNat ++ [⟨#[cc]⟩] ++ ls.drop i.toNat, ?_, ?_, ((okl.take _).app (OkS.one okc)).app (okl.drop _)⟩, D8.put nrL, by rw [upd_ne nWL]; exact hW8⟩
    · rw [upd_same, List.map_append, List.map_append, List.map_take, List.map_drop]
      rfl
    · rw [List.length_append, List.length_append, List.length_take, List.length_drop]
      show _ + 1 + _ ≤ 9
      omega
  rintro σ2 H6 ⟨rfl, ⟨ls, hls, l9, okl⟩, D6, hW6⟩
  refine ⟨fun σ2 H7 => ∃ dv : Addr, σ2 = [some (.ref sc), some (.ref r), some (.ref W), none, some (.ref L), none, some (.ref dv), none, none, none] ∧ Same H6 H7 ∧ DueD ws ls H7 dv ∧ dv ≠ r, ?_, ?_⟩
  · have nr : ∀ {T : Addr}, H6 T = none → T ≠ r := fun h z => by
      obtain ⟨ns, e⟩ := D6
      rw [z, e] at h
      cases h
    exact ⟨_, rfl, _, rfl, W, L, ws, ls, rfl, hW6, hls, w8, by omega, okw, okl, fun g hg rr H' hr' s' h' => ⟨rr, rfl, s', .inl ⟨g, hg, h'⟩, nr hr'⟩, fun k hk good bad T H' hT s' h' => ⟨T, rfl, s', .inr ⟨k, hk, good, bad, h'⟩, nr hT⟩⟩
  rintro σ2 H7 ⟨dv, rfl, s7, hdv, ndr⟩
  have D7 := D6.same s7
  refine ⟨_, rfl, W, _, rfl, .inl (SqL.of (s7 _ _ hW6)), fun g1 hg1 => ⟨_, rfl, L, _, rfl, .inl (SqL.of ((Same.new hg1) _ _ (s7 _ _ hls))), fun g2 hg2 => ⟨(by show 2 ≤ sizeLine; decide), fun gt hgt => ?_⟩⟩⟩
  have u1 := Same.new (o := .lst (ws.map V.str)) hg1
  have u2 := u1.trans (Same.new (o := .lst (ls.map V.str)) hg2)
  have u3 := u2.trans (Same.new (o := .tup [V.ref g1, V.ref g2]) hgt)
  have K8 : Kp (upd (upd (upd H7 g1 (.lst (ws.map V.str))) g2 (.lst (ls.map V.str))) gt (.tup [V.ref g1, V.ref g2])) r W L dv gt g1 g2 ws ls := ⟨u3 _ _ (s7 _ _ hW6), u3 _ _ (s7 _ _ hls), hdv.same (u3 _), upd_same, (Same.new hgt) _ _ ((Same.new hg2) _ _ upd_same), (Same.new hgt) _ _ upd_same, nrW.symm, nrL.symm, ndr, fun z => (D7.same u2).ne hgt z.symm, fun z => D7.ne hg1 z.symm, fun z => (D7.same u1).ne hg2 z.symm⟩
  have D8 := D7.same u3
  generalize upd (upd (upd H7 g1 (.lst (ws.map V.str))) g2 (.lst (ls.map V.str))) gt (.tup [V.ref g1, V.ref g2]) = H8 at K8 D8 u3
  refine ⟨fun σ2 H9 => σ2 = [some (.ref sc), some (.ref r), some (.ref W), none, some (.ref L), none, some (.ref dv), some (.ref gt), none, none] ∧ Same H8 H9, ?_, ?_⟩
  · refine ⟨_, rfl, gt, _, _, .ref g1, rfl, rfl, SqT.of K8.t, atI_nat (j := 0) rfl, _, rfl, gt, _, _, .ref g2, rfl, rfl, SqT.of K8.t, atI_nat (j := 1) rfl, g1, g2, ws, ls, rfl, K8.a, K8.b, by omega, by omega, fun g hg rr H' hr' s' h' => ?_, fun k hk good bad T H' s' hT => ?_⟩
    · rcases K8.d with ⟨g', e, h2⟩ | ⟨k, _, _, h3, _⟩
      · rw [hg] at e
        obtain rfl := Option.some.inj e
        exact ⟨_, rfl, neD_same (dp_nI h') (dp_nI (s' _ _ h2)) (pI_shaped g) (pI_self g) ⟨_, rfl, iteF ⟨rfl, s'⟩⟩⟩
      · rename_i hk' _ _
        exact (none_all (by assumption) h3 hg).elim
    · rcases K8.d with ⟨g', e, h2⟩ | ⟨k', hk', good', bad', h2⟩
      · exact (none_all hk bad e).elim
      · have ek : k = k' := bad_one good bad good' bad'
        rw [← ek] at h2
        exact ⟨_, rfl, neD_same (dp_T hT) (dp_T (s' _ _ h2)) (pT_shaped _ (by decide +kernel)) (pT_self _ _) ⟨_, rfl, iteF ⟨rfl, s'⟩⟩⟩
  rintro σ2 H9 ⟨rfl, s9⟩
  have K9 := K8.same s9
  have D9 := D8.same s9
  refine ⟨(by show 0 ≤ sizeLine; decide), fun M0 hM0 => ?_⟩
  have v1 := Same.new (o := .lst []) hM0
  have hM0' := upd_same (H := H9) (a := M0) (o := .lst [])
  have K10 := K9.same v1
  have D10 := D9.same v1
  have nM0 : M0 ≠ r := fun z => D9.ne hM0 z.symm
  generalize upd H9 M0 (.lst []) = H10 at v1 hM0' K10 D10
  refine ⟨fun σ2 H11 => ∃ (M : Addr) (ms : List Str), σ2 = [some (.ref sc), some (.ref r), some (.ref W), none, some (.ref L), none, some (.ref dv), some (.ref gt), some (.ref M), none] ∧ H11 M = some (.lst (ms.map V.str)) ∧ ms.length ≤ 8 ∧ OkS ms ∧ M ≠ r ∧ Same H10 H11, ?_, ?_⟩
  · rcases K10.d with ⟨g, hg, h2⟩ | ⟨k, hk, good, bad, h2⟩
    · refine ⟨_, rfl, _, _, _, _, true, rfl, .ty _, .base (.lst h2), kit_ty (by decide +kernel), _, rfl, iteT ?_⟩
      have glo := gr_lo hg
      have gl : g.length ≤ 8 := by have := (greedy_sel hg).len; omega
      refine ⟨_, rfl, dv, rfl, ⟨_, SqL.of h2⟩, fun D hD => ?_⟩
      refine lc_list (K := K) (a := dv) (xs := nI g) (g := gName 3) (fun j H' => H' D = some (.lst ((dueS ws (g.take j)).map V.str)) ∧ Same H10 H') ⟨upd_same, Same.new hD⟩ (fun j H' _ h => SqL.of (h.2 _ _ h2)) ?_ ?_
      · rintro j v H' hv ⟨hc, s2⟩
        unfold nI at hv
        rw [List.getElem?_map] at hv
        obtain ⟨n, hn, rfl⟩ : ∃ n, g[j]? = some n ∧ V.int (n : Int) = v := by
          cases zz : g[j]? with
          | none => rw [zz] at hv; cases hv
          | some n => rw [zz] at hv; exact ⟨n, rfl, Option.some.inj hv⟩
        have nlt := glo n (List.mem_of_getElem? hn)
        have tk : g.take (j + 1) = g.take j ++ [n] := by rw [List.take_add_one, hn]; rfl
        refine ⟨rfl, _, rfl, _, rfl, W, _, _, .str (ws.getD n ⟨#[]⟩), rfl, rfl, SqL.of (s2 _ _ K10.w), atI_nat (by rw [List.getElem?_map, List.getD_eq_getElem?_getD, List.getElem?_eq_getElem nlt]; rfl), _, hc, ?_, ?_, Same.put s2 hD⟩
        · unfold dueS
          rw [List.length_map, List.length_map, List.length_take]
          exact small1 (by omega)
        · rw [upd_same, tk]
          unfold dueS
          rw [List.map_append, List.map_append]
          rfl
      rintro H' ⟨hc, s2⟩
      rw [show (nI g).length = g.length from List.length_map .., List.take_length] at hc
      refine ⟨D, dueS ws g, rfl, hc, by unfold dueS; rw [List.length_map]; exact gl, fun s hs => ?_, fun z => D10.ne hD z.symm, s2⟩
      obtain ⟨n, hn, rfl⟩ := List.mem_map.mp hs
      have nlt := glo n hn
      rw [List.getD_eq_getElem?_getD, List.getElem?_eq_getElem nlt]
      exact okw _ (List.getElem_mem nlt)
    · exact ⟨_, rfl, _, _, _, _, false, rfl, .ty _, .base (.tup h2), kit_ty (by decide +kernel), _, rfl, iteF ⟨M0, [], rfl, hM0', Nat.zero_le _, (fun s h => by cases h), nM0, Same.refl _⟩⟩
  rintro σ2 H11 ⟨M, ms, rfl, hM, m8, okm, nMr, s11⟩
  have K11 := K10.same s11
  have D11 := D10.same s11
  refine ⟨3, rfl, by decide, by decide, ?_⟩
  refine for_range (lo := 0) (n := 3) (fun i σ' H' => (∃ (M : Addr) (ms : List Str) (o3 o9 : Option V), σ' = [some (.ref sc), some (.ref r), some (.ref W), o3, some (.ref L), none, some (.ref dv), some (.ref gt), some (.ref M), o9] ∧ H' M = some (.lst (ms.map V.str)) ∧ ms.length ≤ 8 + i ∧ OkS ms ∧ M ≠ r) ∧ Dr H' r ∧ Kp H' r W L dv gt g1 g2 ws ls) ⟨⟨M, ms, _, _, rfl, hM, m8, okm, nMr⟩, D11, K11⟩ ?_ ?_
  · rintro i σ' H12 hi ⟨⟨M, ms, o3, o9, rfl, hM, ml, okm, nMr⟩, D12, K12⟩
    refine ⟨fun σ2 H13 => σ2 = [some (.ref sc), some (.ref r), some (.ref W), o3, some (.ref L), none, some (.ref dv), some (.ref gt), some (.ref M), some (.int (0 + (i : Int)))] ∧ Same H12 H13, ?_, ?_⟩
    · refine ⟨_, rfl, gt, _, _, .ref g1, rfl, rfl, SqT.of K12.t, atI_nat (j := 0) rfl, _, rfl, gt, _, _, .ref g2, rfl, rfl, SqT.of K12.t, atI_nat (j := 1) rfl, _, rfl, M, _, rfl, .inl (SqL.of hM), fun Mc hMc => ?_⟩
      have u1 := Same.new (o := .lst (ms.map V.str)) hMc
      have K13 := K12.same u1
      have hM13 := u1 _ _ hM
      have hMc13 := upd_same (H := H12) (a := Mc) (o := .lst (ms.map V.str))
      generalize upd H12 Mc (.lst (ms.map V.str)) = H13 at u1 K13 hM13 hMc13
      refine ⟨g1, g2, Mc, ws, ls, ms, rfl, K13.a, K13.b, hMc13, by omega, by omega, by omega, fun k hk good bad T H' s' hT => ?_, fun g hg => ⟨fun k hdf kl T H' s' hT => ?_, fun e r' H' hr' s' h' => ?_⟩⟩
      · have K' := K13.same s'
        rcases K'.d with ⟨g', e, h2⟩ | ⟨k', hk', good', bad', h2⟩
        · exact (none_all hk bad e).elim
        · have ek : k = k' := bad_one good bad good' bad'
          rw [← ek] at h2
          exact ⟨_, rfl, _, rfl, _, rfl, _, rfl, W, L, M, dv, ws, ms, rfl, K'.w, s' _ _ hM13, by omega, by omega, .inl ⟨_, h2, neD_same (dp_T hT) (dp_T h2) (pT_shaped _ (by decide +kernel)) (pT_self _ _) ⟨_, rfl, iteF ⟨rfl, u1.trans s'⟩⟩⟩⟩
      · have K' := K13.same s'
        rcases K'.d with ⟨g', e, h2⟩ | ⟨k', hk', good', bad', h2⟩
        · rw [hg] at e
          obtain rfl := Option.some.inj e
          have gl : g.length ≤ 100 := by have := (greedy_sel hg).len; omega
          refine ⟨_, rfl, _, rfl, _, rfl, _, rfl, W, L, M, dv, ws, ms, rfl, K'.w, s' _ _ hM13, by omega, by omega, .inr ⟨g, h2, gr_lo hg, gl, fun k2 hdf2 kl2 T2 H2 s2 hT2 => ?_, fun e => absurd (by rw [e]) hdf.2⟩⟩
          have ek := diff_one hdf2 hdf
          rw [ek] at hT2
          exact neD_same (dp_T (s2 _ _ hT)) (dp_T hT2) (pT_shaped _ (by decide +kernel)) (pT_self _ _) ⟨_, rfl, iteF ⟨rfl, (u1.trans s').trans s2⟩⟩
        · exact (none_all hk' bad' hg).elim
      · have K' := K13.same s'
        rcases K'.d with ⟨g', e', h2⟩ | ⟨k', hk', good', bad', h2⟩
        · rw [hg] at e'
          obtain rfl := Option.some.inj e'
          have gl : g.length ≤ 100 := by have := (greedy_sel hg).len; omega
          refine ⟨_, rfl, _, rfl, _, rfl, _, rfl, W, L, M, dv, ws, ms, rfl, K'.w, s' _ _ hM13, by omega, by omega, .inr ⟨g, h2, gr_lo hg, gl, fun k2 hdf2 kl2 T2 H2 s2 hT2 => absurd (by rw [e]) hdf2.2, fun _ H2 s2 => ?_⟩⟩
          exact neD_same (dp_strs (s2 _ _ h')) (dp_strs (s2 _ _ K'.w)) (shaped_strs okw) (pStrs_self ws) ⟨_, rfl, iteF ⟨rfl, (u1.trans s').trans s2⟩⟩
        · exact (none_all hk' bad' hg).elim
    rintro σ2 H13 ⟨rfl, s13⟩
    have hM := s13 _ _ hM
    have D13 := D12.same s13
    have K13 := K12.same s13
    refine ⟨_, rfl, _, rfl, M, _, rfl, .inl (SqL.of hM), _, _, rfl, rfl, r, _, rfl, D13, by rw [List.length_map]; omega, fun kv H14 k0 k1 D14 B14 => ?_⟩
    have K14 := K13.but B14
    have hM := B14 _ _ hM nMr
    obtain ⟨n, rfl⟩ : ∃ n : Nat, kv = (n : Int) := ⟨kv.toNat, by omega⟩
    rw [List.length_map] at k1
    have small : ∀ q, q ≤ 1000 → q < sizeLine := fun q h => small1 (by omega)
    refine ⟨_, rfl, _, rfl, _, rfl, M, _, rfl, SqL.of hM, fun a1 ha1 => ?_⟩
    rw [cut_to, ← List.map_take]
    have t1 := Same.new (o := .lst ((ms.take n).map V.str)) ha1
    have ea1 := upd_same (H := H14) (a := a1) (o := .lst ((ms.take n).map V.str))
    generalize upd H14 a1 (.lst ((ms.take n).map V.str)) = G1 at t1 ea1 ⊢
    have u := t1
    have hM := t1 _ _ hM
    refine ⟨_, rfl, _, rfl, _, _, rfl, rfl, ((n + 1 : Nat) : Int), rfl, M, _, rfl, SqL.of hM, fun a2 ha2 => ?_⟩
    rw [cut_from, ← List.map_drop]
    have t2 := Same.new (o := .lst ((ms.drop (n + 1)).map V.str)) ha2
    have ea2 := upd_same (H := G1) (a := a2) (o := .lst ((ms.drop (n + 1)).map V.str))
    generalize upd G1 a2 (.lst ((ms.drop (n + 1)).map V.str)) = G2 at t2 ea2 ⊢
    have u := u.trans t2
    have hM := t2 _ _ hM
    have ea1 := t2 _ _ ea1
    refine ⟨a1, a2, _, _, rfl, rfl, ea1, ea2, Nat.le_of_lt (small _ (by simp; omega)), fun a3 ha3 => ?_⟩
    have na3 : a3 ≠ r := fun z => (D14.same u).ne ha3 z.symm
    have t3 := Same.new (o := .lst ((ms.take n).map V.str ++ (ms.drop (n + 1)).map V.str)) ha3
    have ea3 := upd_same (H := G2) (a := a3) (o := .lst ((ms.take n).map V.str ++ (ms.drop (n + 1)).map V.str))
    generalize upd G2 a3 (.lst ((ms.take n).map V.str ++ (ms.drop (n + 1)).map V.str)) = G3 at t3 ea3 ⊢
    have u := u.trans t3
    have hM := t3 _ _ hM
    have ea1 := t3 _ _ ea1
    have ea2 := t3 _ _ ea2
    refine ⟨_, rfl, _, rfl, _, rfl, M, _, rfl, SqL.of hM, fun b1 hb1 => ?_⟩
    rw [cut_to, ← List.map_take]
    have t4 := Same.new (o := .lst ((ms.take n).map V.str)) hb1
    have eb1 := upd_same (H := G3) (a := b1) (o := .lst ((ms.take n).map V.str))
    generalize upd G3 b1 (.lst ((ms.take n).map V.str)) = G4 at t4 eb1 ⊢
    have u := u.trans t4
    have hM := t4 _ _ hM
    have ea3 := t4 _ _ ea3
    refine ⟨(by show 1 ≤ sizeLine; decide), fun b2 hb2 => ?_⟩
    have t5 := Same.new (o := .lst [V.str (Str.ofString "x")]) hb2
    have eb2 := upd_same (H := G4) (a := b2) (o := .lst [V.str (Str.ofString "x")])
    generalize upd G4 b2 (.lst [V.str (Str.ofString "x")]) = G5 at t5 eb2 ⊢
    have u := u.trans t5
    have hM := t5 _ _ hM
    have ea3 := t5 _ _ ea3
    have eb1 := t5 _ _ eb1
    refine ⟨b1, b2, _, _, rfl, rfl, eb1, eb2, Nat.le_of_lt (small _ (by simp; omega)), fun b3 hb3 => ?_⟩
    have t6 := Same.new (o := .lst ((ms.take n).map V.str ++ [V.str (Str.ofString "x")])) hb3
    have eb3 := upd_same (H := G5) (a := b3) (o := .lst ((ms.take n).map V.str ++ [V.str (Str.ofString "x")]))
    generalize upd G5 b3 (.lst ((ms.take n).map V.str ++ [V.str (Str.ofString "x")])) = G6 at t6 eb3 ⊢
    have u := u.trans t6
    have hM := t6 _ _ hM
    have ea3 := t6 _ _ ea3
    have eb1 := t6 _ _ eb1
    have eb2 := t6 _ _ eb2
    refine ⟨_, rfl, _, rfl, _, rfl, M, _, rfl, SqL.of hM, fun b4 hb4 => ?_⟩
    rw [cut_from, ← List.map_drop]
    have t7 := Same.new (o := .lst ((ms.drop n).map V.str)) hb4
    have eb4 := upd_same (H := G6) (a := b4) (o := .lst ((ms.drop n).map V.str))
    generalize upd G6 b4 (.lst ((ms.drop n).map V.str)) = G7 at t7 eb4 ⊢
    have u := u.trans t7
    have hM := t7 _ _ hM
    have ea3 := t7 _ _ ea3
    have eb1 := t7 _ _ eb1
    have eb2 := t7 _ _ eb2
    have eb3 := t7 _ _ eb3
    refine ⟨b3, b4, _, _, rfl, rfl, eb3, eb4, Nat.le_of_lt (small _ (by simp; omega)), fun b5 hb5 => ?_⟩
    have nb5 : b5 ≠ r := fun z => (D14.same u).ne hb5 z.symm
    have t8 := Same.new (o := .lst ((ms.take n).map V.str ++ [V.str (Str.ofString "x")] ++ (ms.drop n).map V.str)) hb5
    have eb5 := upd_same (H := G7) (a := b5) (o := .lst ((ms.take n).map V.str ++ [V.str (Str.ofString "x")] ++ (ms.drop n).map V.str))
    generalize upd G7 b5 (.lst ((ms.take n).map V.str ++ [V.str (Str.ofString "x")] ++ (ms.drop n).map V.str)) = G8 at t8 eb5 ⊢
    have u := u.trans t8
    have hM := t8 _ _ hM
    have ea3 := t8 _ _ ea3
    have eb1 := t8 _ _ eb1
    have eb2 := t8 _ _ eb2
    have eb3 := t8 _ _ eb3
    have eb4 := t8 _ _ eb4
    refine ⟨_, rfl, _, rfl, _, rfl, M, _, rfl, SqL.of hM, fun c1 hc1 => ?_⟩
    rw [cut_to, ← List.map_take]
    have nc1 : c1 ≠ r := fun z => (D14.same u).ne hc1 z.symm
    have t9 := Same.new (o := .lst ((ms.take n).map V.str)) hc1
    have ec1 := upd_same (H := G8) (a := c1) (o := .lst ((ms.take n).map V.str))
    generalize upd G8 c1 (.lst ((ms.take n).map V.str)) = G9 at t9 ec1 ⊢
    have u := u.trans t9
    have hM := t9 _ _ hM
    have ea3 := t9 _ _ ea3
    have eb5 := t9 _ _ eb5
    refine ⟨(by show 3 ≤ sizeLine; decide), fun lst3 hl3 => ?_⟩
    have u := u.trans (Same.new (o := .lst [V.ref a3, V.ref b5, V.ref c1]) hl3)
    have nn := Same.new (o := .lst [V.ref a3, V.ref b5, V.ref c1]) hl3
    refine ⟨_, rfl, r, 3, rfl, D14.same u, by decide, fun kv2 H15 w0 w1 D15 B15 => ?_⟩
    have K15 := (K14.same u).but B15
    have nl3 : lst3 ≠ r := fun z => by
      obtain ⟨ns, e⟩ := D14.same u
      rw [← z, upd_same] at e
      cases ns with
      | nil => cases e
      | cons q r => cases e
    have hl15 := B15 _ _ upd_same nl3
    have fa := B15 _ _ (nn _ _ ea3) na3
    have fb := B15 _ _ (nn _ _ eb5) nb5
    have fc := B15 _ _ (nn _ _ ec1) nc1
    have : kv2 = 0 ∨ kv2 = 1 ∨ kv2 = 2 := by omega
    rcases this with rfl | rfl | rfl
    · refine ⟨lst3, _, _, .ref a3, rfl, rfl, SqL.of hl15, atI_nat (j := 0) rfl, ⟨a3, ms.take n ++ ms.drop (n + 1), _, _, rfl, by rw [fa]; simp, ?_, (okm.take n).app (okm.drop (n + 1)), na3⟩, D15, K15⟩
      rw [List.length_append, List.length_take, List.length_drop]
      omega
    · refine ⟨lst3, _, _, .ref b5, rfl, rfl, SqL.of hl15, atI_nat (j := 1) rfl, ⟨b5, (ms.take n ++ [Str.ofString "x"]) ++ ms.drop n, _, _, rfl, by rw [fb]; simp, ?_, ((okm.take n).app (OkS.one (by decide +kernel))).app (okm.drop n), nb5⟩, D15, K15⟩
      rw [List.length_append, List.length_append, List.length_take, List.length_drop]
      show _ + 1 + _ ≤ _
      omega
    · refine ⟨lst3, _, _, .ref c1, rfl, rfl, SqL.of hl15, atI_nat (j := 2) rfl, ⟨c1, ms.take n, _, _, rfl, fc, ?_, okm.take n, nc1⟩, D15, K15⟩
      rw [List.length_take]
      omega
  · rintro σ' H12 ⟨⟨M, ms, o3, o9, rfl, hM, ml, okm, nMr⟩, D12, K12⟩
    refine ⟨_, rfl, _, rfl, _, rfl, (by show 2 ≤ sizeLine; decide), fun T hT => ?_⟩
    have K13 := K12.same (Same.new (o := .tup [V.ref W, V.ref L]) hT)
    refine ⟨.tuple [pStrs ws, pStrs ls], .tuple [pStrs ws, pStrs ls], .tup (SqT.of K13.t) (.cons (dp_strs K13.a) (.cons (dp_strs K13.b) .nil)), .tup (SqT.of upd_same) (.cons (dp_strs K13.w) (.cons (dp_strs K13.l) .nil)), ?_, ?_, ?_⟩
    · have h1 := dep_strs ws
      have h2 := dep_strs ls
      unfold SeqAt.shaped pStrs
      simp [PyData.canLay0, PyData.canLayAll0, PyData.depth, PyData.depthAll, lay_strs okw, lay_strs okl]
      omega
    · have h1 := dep_strs ws
      have h2 := dep_strs ls
      unfold SeqAt.shaped pStrs
      simp [PyData.canLay0, PyData.canLayAll0, PyData.depth, PyData.depthAll, lay_strs okw, lay_strs okl]
      omega
    · have e : PyData.eqv (.tuple [pStrs ws, pStrs ls]) (.tuple [pStrs ws, pStrs ls]) = true := by
        simp [PyData.eqv, PyData.eqvAll, pStrs_self]
      rw [e]
      exact k _
end
end Sx

set_option Elab.async false
set_option linter.all false
set_option maxRecDepth 100000
set_option maxHeartbeats 0
namespace Sx
open PySem PySem.Spec PyProof.Rows L2 SxK
theorem facts {P : Program} (hfile : P.main.file = xStrangeSheet.file) (htop : (P.main.scope.names.lookup ("super" : Str)).isSome = false) {w : World} {K : PySem.W.Frag} {h : Heap} {mg : Str → Option Value} {f : Addr} (X : K.In h) (G : h.Ns mainGlobals mg) (hfa : mg ("law" : Str) = some (.ref f)) (c : SxK.SaysX fa fn xs K) :
    ∃ fd : FuncData, (∀ (s : Shared) (v : Value), BindsTo s fd ⟨[v], []⟩ [("script", v)]) ∧ ∀ base : Heap, K.In base → base.Ns mainGlobals mg → FnOk P w K mg base CX0 12 f fd ["script"] (spLaw K) := by
  have t : T K mg := ⟨c, h, X, G⟩
  obtain ⟨fd, F⟩ := t.d_law
  have e := hfa.symm.trans t.g_law
  cases e
  have b := FunD.bindsA (ps := ["script"]) F fun _ _ _ _ _ _ us hl => match us, hl with | [_], _ => rfl
  exact ⟨fd, fun s v => b s [v] rfl, fun base _ _ => ok_law t (t.e_StrangeSheet hfile htop) (t.e_NotMissing hfile htop) F⟩
end Sx
open PySem PySem.W PySem.Calls PyProof.Rows
set_option maxRecDepth 100000 in
set_option maxHeartbeats 0 in
theorem PySem.Challenge.cw_sixdot_k51_missing_sheets_of_a_heap_holds : PySem.Challenge.rw_sixdot_k51_missing_sheets_of_a_heap.Holds := by
  w_on; o_law
  refine HandSHeadRun.head_any (r := OpenLaw.row PySem.Challenge.rw_sixdot_k51_missing_sheets_of_a_heap) (q := view (OpenLaw.row PySem.Challenge.rw_sixdot_k51_missing_sheets_of_a_heap).prog [21]) (H := Sx.hk) (ob := Sx.ob) (M := 4000) (loose := Sx.loose) (d := HandSHeadRun.topDef (OpenLaw.row PySem.Challenge.rw_sixdot_k51_missing_sheets_of_a_heap).prog 21) (kwd := []) Sx.ob_eq
    (by kernel_rfl) (fun s => by kernel_rfl) Sx.run (by kernel_rfl) (by kernel_rfl) (by kernel_rfl) (by rfl) (by first | assumption | decide +kernel) (by decide +kernel) ⟨rfl, rfl, rfl, rfl, rfl, by decide +kernel⟩ ?hw ?hc
  case hw => w_witness2
  case hc =>
    refine L2.walk_ofE (l := PySem.Challenge.rw_sixdot_k51_missing_sheets_of_a_heap) (n := 63) (k := 12) (x := "script") (CX := L2.CX0) rfl (by decide) (by kernel_rfl) ⟨rfl, by decide, by decide⟩ ?F (fun _ _ _ _ z => z)
    intro w mg fa h Y G hmg0
    obtain ⟨K, KX, c⟩ := Y
    have hmg : mg ("law" : PySem.Str) = some (.ref fa) := by
      have e : (HandSHeadRun.topDef (OpenLaw.row PySem.Challenge.rw_sixdot_k51_missing_sheets_of_a_heap).prog 21).name = ("law" : PySem.Str) := by kernel_rfl
      rw [← e]
      exact hmg0
    obtain ⟨fd, hb, hF⟩ := Sx.facts (P := (PySem.Challenge.rw_sixdot_k51_missing_sheets_of_a_heap).prog) (w := w) (by kernel_rfl) (by kernel_rfl) KX G hmg c
    exact ⟨K, fd, Sx.spLaw K, KX, hb, fun H a ns hl _ hS => ⟨a, ns, rfl, hS, hl, fun _ => rfl⟩, hF⟩
