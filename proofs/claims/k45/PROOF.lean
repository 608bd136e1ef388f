import PyProof.Rows.All
import Wide.All
import OpenK.AllK
import Wide.FinOn
import PyProof.Rows.SetFrom
import PyProof.StrWalks
import KE.KRevIter
import HandS.ForMost
import HandS.Rev
import HandS.RevTup
import HandS.Style
import HandS.Flow
import HandS.WideBits
import HandS.Codes
import HandS.IsInst
import HandS.Head0
import HandS.Head1
import HandS.Head2
import HandS.HeadEnd
import HandS.HeadHook1
import HandS.HeadHook2
import HandS.Defaults
import HandS.MakeKwOnly
import KE.KStateDown
import HandS.ForDict
import HandS.More
import HandS.Zip
import HandS.RevRange
import HandS.TupAny
import PySem.Challenge.RW_sixdot_k45_labels_between_others
set_option Elab.async false
set_option linter.all false
set_option maxRecDepth 100000
set_option maxHeartbeats 4000000
/-! rules that the layer lacks: len(set(text)), text * int, list(reversed(list)) -/
namespace SxA
open PySem PySem.Spec PyProof.Rows L2

/-! ### the different signs of a text, in the order in which they come -/
def stepD (acc : List Nat) (c : Nat) : List Nat := if c ∈ acc then acc else acc ++ [c]
def firsts (l : List Nat) : List Nat := l.foldl stepD []
theorem firsts_snoc (l : List Nat) (c : Nat) : firsts (l ++ [c]) = stepD (firsts l) c := by
  unfold firsts; rw [List.foldl_append]; rfl
theorem mem_step (acc : List Nat) (c k : Nat) : k ∈ stepD acc c ↔ k ∈ acc ∨ k = c := by
  unfold stepD
  by_cases h : c ∈ acc
  · rw [if_pos h]
    exact ⟨Or.inl, fun q => q.elim id fun e => by rw [e]; exact h⟩
  · rw [if_neg h, List.mem_append, List.mem_singleton]
theorem mem_fold : ∀ (l acc : List Nat) (k : Nat), k ∈ l.foldl stepD acc ↔ k ∈ acc ∨ k ∈ l
  | [], acc, k => by simp
  | c :: l, acc, k => by
    rw [List.foldl_cons, mem_fold l, mem_step, List.mem_cons]
    constructor
    · rintro ((h | h) | h)
      · exact .inl h
      · exact .inr (.inl h)
      · exact .inr (.inr h)
    · rintro (h | h | h)
      · exact .inl (.inl h)
      · exact .inl (.inr h)
      · exact .inr h
theorem mem_firsts (l : List Nat) (k : Nat) : k ∈ firsts l ↔ k ∈ l := by
  unfold firsts; rw [mem_fold]; simp
theorem firsts_take {l : List Nat} {i c : Nat} (h : l[i]? = some c) : firsts (l.take (i + 1)) = stepD (firsts (l.take i)) c := by
  rw [List.take_add_one, h]; exact firsts_snoc _ _
theorem firsts_count : ∀ (l : List Nat) (i : Nat), i ≤ l.length → (firsts (l.take i)).length ≤ i ∧ ((firsts (l.take i)).length = i ↔ (l.take i).Nodup)
  | l, 0, _ => by simp [firsts]
  | l, i + 1, hi => by
    have hc : l[i]? = some l[i] := List.getElem?_eq_getElem hi
    obtain ⟨a, b⟩ := firsts_count l i (by omega)
    rw [firsts_take hc]
    have et : l.take (i + 1) = l.take i ++ [l[i]] := by rw [List.take_add_one, hc]; rfl
    unfold stepD
    by_cases hm : l[i] ∈ firsts (l.take i)
    · rw [if_pos hm]
      refine ⟨by omega, fun q => by omega, fun nd => ?_⟩
      rw [et, List.nodup_append] at nd
      exact absurd rfl (nd.2.2 _ ((mem_firsts _ _).mp hm) _ (List.mem_singleton.mpr rfl))
    · rw [if_neg hm, List.length_append, List.length_singleton]
      refine ⟨by omega, ?_⟩
      rw [et, List.nodup_append]
      constructor
      · intro q
        refine ⟨b.mp (by omega), by simp, fun x hx y hy e => hm ?_⟩
        rw [List.mem_singleton] at hy
        rw [← hy, ← e]
        exact (mem_firsts _ _).mpr hx
      · intro q
        have := b.mpr q.1
        omega
/-- len(set(text)) -/
def kinds (z : Str) : Nat := (firsts z.cps.toList).length
theorem kinds_eq (z : Str) : kinds z = z.length ↔ z.cps.toList.Nodup := by
  have h := firsts_count z.cps.toList z.cps.toList.length (Nat.le_refl _)
  rw [List.take_length] at h
  have e : z.length = z.cps.toList.length := by simp [Str.length]
  unfold kinds
  rw [e]
  exact h.2
theorem kinds_le (z : Str) : kinds z ≤ z.length := by
  have h := firsts_count z.cps.toList z.cps.toList.length (Nat.le_refl _)
  rw [List.take_length] at h
  have e : z.length = z.cps.toList.length := by simp [Str.length]
  unfold kinds
  rw [e]
  exact h.1

/-! ### set(text) on the machine -/
abbrev sg (c : Nat) : Str := ⟨#[c]⟩
theorem sg_inj {a b : Nat} (h : sg a = sg b) : a = b := by
  have e : (#[a] : Array Nat) = #[b] := congrArg Str.cps h
  simpa using e
def hasD (l : List Nat) (k : Str) : Bool := l.any fun c => decide (k = sg c)
theorem hasD_sg (l : List Nat) (c : Nat) : hasD l (sg c) = decide (c ∈ l) := by
  unfold hasD
  by_cases h : c ∈ l
  · rw [decide_eq_true h]
    exact List.any_eq_true.mpr ⟨c, h, decide_eq_true rfl⟩
  · rw [decide_eq_false h]
    refine Bool.eq_false_iff.mpr fun q => ?_
    obtain ⟨d, hd, e⟩ := List.any_eq_true.mp q
    rw [sg_inj (of_decide_eq_true e)] at h
    exact h hd
theorem hasD_step (l : List Nat) (c : Nat) (k : Str) : hasD (stepD l c) k = (hasD l k || decide (k = sg c)) := by
  unfold stepD
  by_cases h : c ∈ l
  · rw [if_pos h]
    by_cases e : k = sg c
    · rw [e, hasD_sg, decide_eq_true h]
      rfl
    · rw [decide_eq_false e, Bool.or_false]
  · rw [if_neg h]
    unfold hasD
    rw [List.any_append]
    simp
theorem len_step (l : List Nat) (c : Nat) : (stepD l c).length = if hasD l (sg c) = true then l.length else l.length + 1 := by
  rw [hasD_sg]
  unfold stepD
  by_cases h : c ∈ l
  · rw [if_pos h, if_pos (decide_eq_true h)]
  · rw [if_neg h, if_neg (by rw [decide_eq_false h]; exact Bool.false_ne_true), List.length_append, List.length_singleton]
section
variable {prog : Program} {w : World} {A : Around} {E : Value → Shared → Prop}
/-- the set at S holds the signs l -/
def SetS (prog : Program) (w : World) (h : Heap) (S : Addr) (l : List Nat) : Prop := h.SetOf (strKind prog w) S (hasD l) l.length
theorem SetS.keep {h h' : Heap} {S : Addr} {l : List Nat} (p : SetS prog w h S l) (k : ∀ o, h.get? S = some o → h'.get? S = some o) : SetS prog w h' S l := by
  obtain ⟨o, es, ep, t, ho, r⟩ := p
  exact ⟨o, es, ep, t, k o ho, r⟩
theorem loopS {R : Result → Shared → Prop} {I : Addr} {fp wr : List Addr} {G : Array GenState → Array GenState → Prop} {x : Str} {St : Nat → Shared → Prop}
    (W : WalksS prog w A.in1 I fp wr G x.cps.size (SignAt x) St) (S : Addr) (away : S ∉ fp) (small : x.cps.size + 1 < scanBound) : ∀ (k i : Nat) (s : Shared), x.cps.size - i = k → i ≤ x.cps.size → St i s →
      SetS prog w s.heap S (firsts (x.cps.toList.take i)) → (∀ s', Moved (S :: wr) G s s' → SetS prog w s'.heap S (firsts x.cps.toList) → R (.ok (.ret .none)) s') →
      codeAny (model prog w) A (.builtin "set.update.loop" ⟨[.ref S, .ref I], []⟩) R s := by
  have awr : S ∉ wr := fun q => away (W.sub _ q)
  have more : ∀ b ∈ wr, b ∈ S :: wr := fun b hb => .tail _ hb
  intro k
  induction k with
  | zero =>
    intro i s hk hi st hS done
    obtain rfl : i = x.cps.size := by omega
    refine codeAny_builtin F.entry_set_update_loop ?_
    rw [Around.under_plainId F.plain_set_update_loop _]
    show wpAny _ A.in1 (pyNext (.ref I) >>= _) _ _ s
    refine wpAny_bind (W.done s _ _ st fun s' mv => ?_)
    show wpAny _ A.in1 (ret Value.none) _ _ s'
    have e : x.cps.toList.take x.cps.size = x.cps.toList := List.take_of_length_le (by simp)
    rw [e] at hS
    exact wpAny_pure (done s' (mv.mono more) (hS.keep fun o q => mv.heap S o awr q))
  | succ k ih =>
    intro i s hk hi st hS done
    have lt : i < x.cps.size := by omega
    refine codeAny_builtin F.entry_set_update_loop ?_
    rw [Around.under_plainId F.plain_set_update_loop _]
    show wpAny _ A.in1 (pyNext (.ref I) >>= _) _ _ s
    refine wpAny_bind (W.item i s _ _ lt st fun v s' hv st' mv => ?_)
    obtain ⟨c, u, hc, rfl⟩ := hv
    have hS' := hS.keep (h' := s'.heap) fun o q => mv.heap S o awr q
    show wpAny _ A.in1 (holding [Value.str (sg c) u] (setAdd S (.str (sg c) u)) >>= _) _ _ s'
    refine wpAny_bind (wpAny_holding ?_)
    unfold setAdd
    refine wpAny_holding ?_
    refine wpAny_bind ((strKind prog w).pyHash (k := sg c) (strKind_is _ _ _ _) ?_)
    have cnt := (firsts_count x.cps.toList i (by simp; omega)).1
    refine wpAny_setAddHashed_of (knd := strKind prog w) (s := { s' with toks := s'.toks + 1 }) (strKind_is _ _ _ _) rfl hS' (by omega) fun h' sb hS2 => ?_
    have hc2 : x.cps.toList[i]? = some c := by rw [Array.getElem?_toList]; exact hc
    have hS3 : SetS prog w h' S (firsts (x.cps.toList.take (i + 1))) := by
      rw [firsts_take hc2]
      exact SetOf_congr hS2 (fun k => (hasD_step _ c k).symm) (len_step _ c).symm
    refine wpAny_pure ⟨plainId_quiet F.plain_set_update_loop _, ih (i + 1) _ (by omega) lt (W.frame _ s' _ _ st' (Nat.le_succ _) fun b hb o e => ?_) hS3 fun s'' mv' hS'' => done s'' (Moved.trans W.gtrans ((mv.mono more).then_heap (Nat.le_succ _) fun b o hb e => ?_) mv') hS''⟩
    · rw [sb.2 b fun q : b = S => away (by rw [← q]; exact hb)]; exact e
    · rw [sb.2 b fun q : b = S => hb (by rw [q]; exact .head _)]; exact e
variable {s : Shared}
theorem sub_str_set : isSubtype (.type "str") (.type "set") = pure false := by rw [isSubtype_type]; kernel_rfl
theorem sub_str_frozenset : isSubtype (.type "str") (.type "frozenset") = pure false := by rw [isSubtype_type]; kernel_rfl
theorem call_set_text {x : Str} {tx : Tok} {Q : Value → Shared → Prop} (hh : A.handled = none) (small : x.cps.size + 1 < scanBound)
    (h : ∀ (h' : Heap) (tk : Nat), SetS prog w h' s.heap.objs.size (firsts x.cps.toList) → (∀ b o, b < s.heap.objs.size → s.heap.get? b = some o → h'.get? b = some o) → Q (.ref s.heap.objs.size) { s with heap := h', toks := tk }) :
    wpAny (model prog w) A (call (.type "set") [.str x tx]) Q E s := by
  obtain ⟨c, tl, hmro⟩ := F.called_set.mro
  have hmade := F.called_set.made
  have hsub := F.called_set.sub
  refine wpAny_call (codeAny_of_tree ?_)
  show wpAny _ _ (callAny (.type "set") _) _ _ _
  refine wpAny_pure ⟨Code.quiet_builtin _ (by decide +kernel), codeAny_builtin F.entry_type_call ?_⟩
  rw [Around.under_plain (weight_type_call_type "set" [.str x tx] []) rfl]
  have h1 := F.called_set.notType
  have h2 := F.called_set.canCreate
  have hct := PySem.F.typeCall_set_1 (.str x tx)
  repeat (any_goals (first | assumption | wp_step))
  refine codeAny_mono (code_set_new_1 (.str x tx) (E := E) (Q₁ := fun v s₁ => ∃ led : Bool, v = .ref s.heap.objs.size ∧ s₁ = { s with heap := s.heap.push { cls := .type "set", dict := none, data := .set #[] 0 (.fresh 0 0 led) } }) fun led => ⟨led, rfl, rfl⟩) fun r s₁ hr => ?_
  cases r with
  | error e => exact hr
  | ok fl =>
    cases fl with
    | ret v =>
      obtain ⟨led, rfl, rfl⟩ := hr
      have hS : (s.heap.push { cls := .type "set", dict := none, data := .set #[] 0 (.fresh 0 0 led) }).get? s.heap.objs.size = some { cls := .type "set", dict := none, data := .set #[] 0 (.fresh 0 0 led) } := Heap.get?_push_size _ rfl
      have hT : Shared.TypeIs { s with heap := s.heap.push { cls := .type "set", dict := none, data := .set #[] 0 (.fresh 0 0 led) } } (.ref s.heap.objs.size) "set" := ⟨_, hS, rfl⟩
      have hli := F.called_set.init.lookup
      have hbi := F.called_set.init.bind (.ref s.heap.objs.size)
      repeat (any_goals (first | assumption | wp_step))
      refine codeAny_mono (codeAny_call_builtin (R := wants (fun r s₂ => r = .none ∧ ∃ h' tk, s₂ = { s with heap := h', toks := tk } ∧ SetS prog w h' s.heap.objs.size (firsts x.cps.toList) ∧
          (∀ b o, b < s.heap.objs.size → s.heap.get? b = some o → h'.get? b = some o)) E) F.called_set.init.plain F.entry_set_init (check_set_init_1 hT ?_)) fun r₂ s₂ hr₂ => ?_
      · have hsls := sub_str_set
        have hslf := sub_str_frozenset
        have hne : (Value.type "str" == Value.type "dict") = false := by decide
        unfold Builtin.«set.__init__» noKeywords Builtin.Frozenset.updateFrom
        generalize hPI : pyIter = PI
        wp_walk
        subst hPI
        refine wpAny_pyIter_str fun o St W st => ?_
        refine wpAny_bind (wpAny_runValue ?_)
        have hh3 : A.in1.in1.in1.handled = none := by simp [hh]
        have away : s.heap.objs.size ∉ [(s.heap.push { cls := .type "set", dict := none, data := .set #[] 0 (.fresh 0 0 led) }).objs.size] := by
          rw [Heap.size_push, List.mem_singleton]
          exact Nat.ne_of_lt (Nat.lt_succ_self _)
        refine loopS ((W _ hh3).toS) s.heap.objs.size away small (x.cps.size - 0) 0 _ (by omega) (Nat.zero_le _) st ?hS0 ?hR
        case hS0 =>
          exact SetOf_congr ((PyProof.Rows.setObjOf_fresh (knd := strKind prog w) led).setOf (Heap.get?_push_of_some _ hS) (by unfold scanBound; omega)) (fun _ => rfl) rfl
        case hR =>
          intro s' mv hS'
          obtain ⟨h', g', d', tk', os'⟩ := s'
          have eg : g' = s.gens := mv.gens
          have ed : d' = s.drawn := mv.drawn
          have eo : os' = s.os := mv.os
          subst eg; subst ed; subst eo
          show wpAny _ _ _ _ _ _
          refine wpAny_pure ?_
          show wpAny _ _ (ret Value.none) _ _ _
          refine wpAny_pure ⟨rfl, h', tk', rfl, hS', fun b o hb e => ?_⟩
          have n1 : b ≠ s.heap.objs.size := Nat.ne_of_lt hb
          have n2 : b ≠ (s.heap.push { cls := .type "set", dict := none, data := .set #[] 0 (.fresh 0 0 led) }).objs.size := by
            rw [Heap.size_push]; exact Nat.ne_of_lt (Nat.lt_succ_of_lt hb)
          exact mv.heap b o (by simp only [List.mem_cons, List.mem_singleton, List.not_mem_nil, or_false, not_or]; exact ⟨n1, n2⟩) (Heap.get?_push_of_some _ (Heap.get?_push_of_some _ e))
      · cases r₂ with
        | error e => exact hr₂
        | ok fl₂ =>
          cases fl₂ with
          | ret r =>
            obtain ⟨rfl, h', tk, rfl, hS', hk'⟩ := hr₂
            repeat (any_goals (first | assumption | wp_step))
            exact h _ _ hS' hk'
          | _ => exact hr₂.elim
    | _ => exact hr.elim
end
/-! ### the rules -/
/-- len(set(text)) -/
def tKinds (ta : TE) : TE := fun σ H Q => ta σ H fun v H1 => ∃ z : Str, v = .str z ∧ z.length ≤ 4000 ∧ Q (.int (kinds z : Nat)) H1
theorem pe_kinds {X : Cx} {a : Expr} {ta : TE} {p p2 q pos : Pos} (hg : Gl X "len") (hm : X.mg "len" = none) (hg2 : Gl X "set") (hm2 : X.mg "set" = none) (ha : PE X a ta) (hc : X.calm = true := by rfl)
    (na : starEach [a] X.env = (false, eval a X.env) :: starEach [] X.env := by rfl) : PE X (.Call (.Name "len" p) [.Call (.Name "set" p2) [a] [] q] [] pos) (tKinds ta) := by
  constructor
  intro pins s σ H Q I h
  refine Call_ (ld_blt I hg hm boot_len (PyProof.Rows.callWith_builtin1 (PyProof.Rows.args_cons (Call_ (ld_blt I hg2 hm2 boot_set ?_)) rfl) rfl rfl))
  refine PyProof.Rows.callWith_type1 (PyProof.Rows.args_cons (thn (ha.run pins s σ H _ I h) fun v s1 ⟨y, H1, I1, r1, q1⟩ => PyProof.Rows.args_nil ?_) na) na rfl
  obtain ⟨z, rfl, hl, q1⟩ := q1
  obtain ⟨t, rfl⟩ := r1
  have hs : z.cps.size = z.length := rfl
  refine call_set_text (I1.ok.hd hc) (by rw [hs]; unfold scanBound; omega) fun h' tk hS hk => PyProof.Rows.args_nil ?_
  have kl := kinds_le z
  obtain ⟨o, es, ep, t2, ho, hex, hd, _, _, _, hf, hn⟩ := hS
  have hn2 : es.size = kinds z := hn
  have I2 : Inv X pins σ H1 { s1 with heap := h', toks := tk } := I1.kept fun b o e => hk b o (Heap.lt_size e) e
  exact call_len_set ho hex hd hf (by rw [hn2]; omega) ⟨.int (kinds z : Nat), H1, I2.tok _, ⟨_, by rw [hn2]⟩, q1⟩
/-- text * n -/
def rMulS : R2 := fun x y H Q => ∃ (z : Str) (n : Int), x = .str z ∧ y = .int n ∧ MulOk z n ∧ Q (.str (Txt.mul z n)) H
theorem op_mulS {X : Cx} : OpR X (binaryOp .Mult) rMulS := by
  intro pins s σ H x y v u Q I rx ry h
  obtain ⟨z, n, rfl, rfl, hz, q⟩ := h
  obtain ⟨t, rfl⟩ := rx
  obtain ⟨t', rfl⟩ := ry
  exact SB.mul hz fun t2 tk => ⟨.str (Txt.mul z n), H, I.tok _, ⟨_, rfl⟩, q⟩
end SxA

set_option Elab.async false
set_option linter.all false
set_option maxRecDepth 100000
set_option maxHeartbeats 4000000
namespace SxA
open PySem PySem.Spec PyProof.Rows L2
section
variable {prog : Program} {w : World} {A : Around} {E : Value → Shared → Prop} {s : Shared}
/-- list(it), it what reversed(a list) gave -/
theorem call_list_rev {it l : Addr} {items : Array Value} {Q : Value → Shared → Prop} (hh : A.handled = none) (hit : s.heap.IsRevIter it l ((items.size : Int) - 1)) (hl : s.heap.IsList l items) (hne : l ≠ it) (hn : items.size ≤ sizeLine)
    (hQ : ∀ (h' : Heap) (tk : Nat) (acc : Array Value) (c : Nat), (∀ b o, b ≠ it → s.heap.get? b = some o → h'.get? b = some o) → h'.get? s.heap.objs.size = some { cls := .type "list", dict := none, data := .seq acc c, slots := #[] } →
      ItemsOf (fun i v => items[items.size - 1 - i]? = some v) acc items.size → Q (.ref s.heap.objs.size) { s with heap := h', toks := tk }) :
    wpAny (model prog w) A (call (.type "list") [.ref it]) Q E s := by
  obtain ⟨oi, hoi, _⟩ := id hit
  obtain ⟨ol, hol, _⟩ := id hl
  have ni : s.heap.objs.size ≠ it := Nat.ne_of_gt (Heap.lt_size hoi)
  have nl : s.heap.objs.size ≠ l := Nat.ne_of_gt (Heap.lt_size hol)
  have away : s.heap.objs.size ∉ [it, l] := by
    simp only [List.mem_cons, List.not_mem_nil, or_false, not_or]
    exact ⟨ni, nl⟩
  refine callType_codes (Q₁ := fun v s₁ => v = .ref s.heap.objs.size ∧ s₁ = { s with heap := s.heap.push { cls := .type "list", data := .seq #[] } }) F.called_list (F.typeCall_list_1 _) F.entry_list_init (code_list_new _ ⟨rfl, rfl⟩) fun v s₁ h₁ => ?_
  obtain ⟨rfl, rfl⟩ := h₁
  have hS : (s.heap.push { cls := .type "list", data := .seq #[] }).get? s.heap.objs.size = some { cls := .type "list", data := .seq #[] } := Heap.get?_push_size _ rfl
  refine ⟨⟨_, hS, rfl⟩, F.args_list_init_2 _ _, ?_⟩
  show wpAny _ _ (do let old ← Builtin.List.listItems (.ref s.heap.objs.size); Builtin.List.listUpdate (.ref s.heap.objs.size) (fun _ => #[]); letGo old.toList.reverse; Builtin.List.listExtendWith (.ref s.heap.objs.size) (.ref it) .none) _ _ _
  refine wpAny_bind ?_
  unfold Builtin.List.listItems
  refine wpAny_bind (wpAny_seqItems hS rfl (wpAny_pure ?_))
  show wpAny _ _ (updateSeq s.heap.objs.size (fun _ => #[]) >>= fun _ => letGo (#[] : Array Value).toList.reverse >>= fun _ => Builtin.List.listExtendWith (.ref s.heap.objs.size) (.ref it) .none) _ _ _
  refine wpAny_bind (wpAny_updateSeq hS rfl ?_)
  have hS₂ := Heap.get?_update_self (Obj.mapSeq (fun _ => (#[] : Array Value))) hS rfl
  have oth : ∀ b o, b ≠ s.heap.objs.size → s.heap.get? b = some o → ((s.heap.push { cls := .type "list", data := .seq #[] }).update s.heap.objs.size (Obj.mapSeq (fun _ => (#[] : Array Value)))).get? b = some o :=
    fun b o hb e => (Heap.get?_update_other _ _ (Ne.symm hb)).trans (Heap.get?_push_of_some _ e)
  refine wpAny_bind (wpAny_letGo ?_)
  generalize hgh : (s.heap.push { cls := .type "list", data := .seq #[] }).update s.heap.objs.size (Obj.mapSeq (fun _ => (#[] : Array Value))) = g at hS₂ oth
  have hit1 : g.IsRevIter it l ((items.size : Int) - 1) := hit.at fun o e => oth _ _ ni.symm e
  have hl1 : g.IsList l items := hl.at fun o e => oth _ _ nl.symm e
  have hT : ({ s with heap := g } : Shared).TypeIs (.ref it) "list_reverseiterator" := Heap.IsRevIter.typeIs (s := { s with heap := g }) hit1
  have h1 : Builtin.List.listSameRef (.ref s.heap.objs.size) (.ref it) = false := by simp [Builtin.List.listSameRef, ni]
  have hh2 : A.in1.in1.handled = none := by simp [hh]
  have W := (Walks.listRev (prog := prog) (w := w) (A := A.in1.in1) hh2 it l hne items).toS
  unfold Builtin.List.listExtendWith
  refine wpAny_bind (wpAny_typeOf hT ?_)
  rw [if_neg (by rw [h1]; decide)]
  refine wpAny_bind (wpAny_pyIter_revIter (s := { s with heap := g }) hit1 (wpAny_bind (wpAny_holding ?_)))
  unfold Builtin.List.listLengthHint
  refine wpAny_bind (wpAny_specialOf hT RT.nolen_lri ?_)
  show wpAny _ _ (specialOf (Value.ref it) (Str.ofString "__length_hint__") >>= _) _ _ _
  refine wpAny_bind (wpAny_specialOf hT RT.hint_lri ?_)
  generalize hid : ("list_reverseiterator.__length_hint__" : String) = nm
  wp_delta
  rw [show splitId nm = some ("list_reverseiterator", "__length_hint__") from by subst hid; decide +kernel]
  subst hid
  refine wpAny_bind (wpAny_isInstance (b := true) hT (by rw [isSubtype_type]; kernel_rfl) (wpAny_pure ?_))
  rw [if_neg (by decide)]
  have e0 : ((items.size : Nat) : Int) - 1 - ((0 : Nat) : Int) = (items.size : Int) - 1 := by omega
  refine wpAny_pure ⟨plainId_quiet F.plain_extend_loop _, codeAny_extend_loopS W hn _ away _ items.size 0 _ _ _ rfl (Nat.zero_le _) ⟨Nat.zero_le _, by rw [e0]; exact hit1, hl1⟩ hS₂ (ItemsOf.nil _) fun s' acc' c' mv hS' hacc => ?_⟩
  rw [Moved.eq_with mv]
  refine ⟨rfl, hQ s'.heap s'.toks acc' c' (fun b o hb e => mv.heap b o (fun hmem => ?_) ?_) hS' hacc⟩
  · rcases List.mem_cons.mp hmem with e' | hmem
    · exact absurd (Heap.lt_size e) (by rw [e']; exact Nat.lt_irrefl _)
    · exact hb (List.mem_singleton.mp hmem)
  · exact oth b o (Nat.ne_of_lt (Heap.lt_size e)) e
end
/-- list(reversed(x)), x a list -/
def tListRev (K : PySem.W.Frag) (te : TE) : TE := fun σ H Q => te σ H fun v H1 => ∃ (a : Addr) (xs : List V), v = .ref a ∧ SqL K H1 a xs ∧ ∀ q, H1 q = none → Q (.ref q) (upd H1 q (.lst xs.reverse))
theorem pe_listRev {X : Cx} {e : Expr} {te : TE} {p p2 pos pos2 : Pos} (hg : Gl X "list") (hm : X.mg "list" = none) (hg2 : Gl X "reversed") (hm2 : X.mg "reversed" = none) (he : PE X e te) (hc : X.calm = true := by rfl)
    (hs : starEach [e] X.env = (false, eval e X.env) :: starEach [] X.env := by rfl)
    (hs2 : starEach [.Call (.Name "reversed" p2) [e] [] pos2] X.env = (false, eval (.Call (.Name "reversed" p2) [e] [] pos2) X.env) :: starEach [] X.env := by rfl) :
    PE X (.Call (.Name "list" p) [.Call (.Name "reversed" p2) [e] [] pos2] [] pos) (tListRev X.K te) := by
  constructor
  intro pins s σ H Q I h
  refine Call_ (ld_blt I hg hm boot_list (PyProof.Rows.callWith_type1 (args_cons (Call_ (ld_blt I hg2 hm2 PyProof.Rows.boot_reversed (PyProof.Rows.callWith_type1 (args_cons (thn (he.run pins s σ H _ I h) fun u s1 ⟨v, H1, I1, r1, q1⟩ => args_nil ?_) hs) hs rfl))) hs2) hs2 rfl))
  obtain ⟨a, xs, rfl, hq, q⟩ := q1
  obtain rfl : u = Value.ref a := r1
  obtain ⟨its, rv, pl, hz⟩ := I1.list hq
  refine call_reversed_list pl.isList (args_nil ?_)
  have hl := pl.isList
  obtain ⟨ol, hol, _⟩ := id hl
  have hne : a ≠ s1.heap.objs.size := Nat.ne_of_lt (Heap.lt_size hol)
  have hn : its.toArray.size ≤ sizeLine := by rw [List.size_toArray, ← rv.length]; exact hz
  have sz : (s1.heap.push (revObj a ((its.toArray.size : Int) - 1))).objs.size = s1.heap.objs.size + 1 := Heap.size_push _ _
  refine call_list_rev (s := { s1 with heap := s1.heap.push (revObj a ((its.toArray.size : Int) - 1)) }) (I1.ok.hd hc) ⟨_, Heap.get?_push_size _ rfl, rfl, rfl⟩ (hl.push _) hne hn fun h' tk acc c hk hS hi => ?_
  have e1 : acc.toList.toArray = acc := by simp
  refine ⟨.ref (s1.heap.push (revObj a ((its.toArray.size : Int) - 1))).objs.size, upd H1 _ (.lst xs.reverse), I1.laid (t' := tk) (fun b o e => hk b o (Nat.ne_of_lt (Heap.lt_size e)) (Heap.get?_push_of_some _ e)) (by rw [sz]; exact Nat.le_succ _)
    (show ObjOk X.prog X.w _ h' _ (.lst xs.reverse) from ⟨by rw [List.length_reverse]; exact hz, acc.toList, c, RT.vals_rev rv hi, by rw [e1]; exact hS⟩), rfl, q _ (I1.hok.fresh (by rw [sz]; exact Nat.le_succ _))⟩
end SxA

set_option Elab.async false
set_option linter.all false
set_option maxRecDepth 100000
set_option maxHeartbeats 1000000
namespace Sx
open PySem PySem.Spec PyProof.Rows L2 SxA
/-- a def of the top -/
abbrev Fd (K : PySem.W.Frag) (x : Str) (st : Stmt) : Prop := ∃ fd, FunD K x x (defArgs st) (defBody st) (defScope st) [] [] (He.ga K x) fd
section
variable {P : Program} {w : World} {K : PySem.W.Frag} {mg : Str → Option Value} {base : Heap}
def Ok (P : Program) (w : World) (K : PySem.W.Frag) (mg : Str → Option Value) (base : Heap) (k : Nat) (x : Str) (ps : List Str) (sp : Sp) : Prop :=
  ∃ fd, FnOk P w K mg base CX0 k (He.ga K x) fd ps sp ∧ Binds K fd ps [] ∧ PySem.W.keepIn K (.ref (He.ga K x)) = true ∧ mg x = some (.ref (He.ga K x))
theorem mkOk {x : Str} {st : Stmt} {N ps : List Str} {k : Nat} {sp : Sp} (d : Fd K x st) (hx : mg x = some (.ref (He.ga K x))) (S : FnScope N ps (defScope st)) (len : ∀ vs H Q E, sp vs H Q E → vs.length = ps.length)
    (bnd : ∀ (kV doc pm : Value) (an : Option Addr) (cdv ct : Value) (us : List Value), us.length = ps.length → bindArgs (PySem.W.fnOf x x (defArgs st) (defBody st) (defScope st) .none kV doc pm an cdv ct) ⟨us, []⟩ = pure (ps.zip us))
    (body : ∀ (cdv : Value) (A : Around) (outer : List Env) (s : Shared) (H0 : Hp) (vs : List V) (Q : VK) (E : XK), Room k (A.deeper (envOfC x (defScope st) s.heap.objs.size (He.ga K x) cdv)) → sp vs H0 Q E →
      ∃ t, PSs (cxOf CX0 P w K mg base N x (defScope st) (He.ga K x) cdv A outer s H0 E).nox (defBody st) t ∧ t { nx := fun _ H' => Q .non H', rt := Q } (start N vs) H0) : Ok P w K mg base (k + 1) x ps sp := by
  obtain ⟨fd, F⟩ := d
  refine ⟨fd, F.ok S len fun cdv A outer s H vs Q E hr h => ?_, F.bindsN bnd, F.kp, hx⟩
  obtain ⟨t, h1, h2⟩ := body cdv A outer s H vs Q E hr h
  exact ⟨t, h1.nox, h2⟩
theorem pe_ok {X : Cx} {k : Nat} {x : Str} {ps : List Str} {sp : Sp} {p pos : Pos} {e : Expr} {es : List Expr} {t : TA} (o : Ok X.prog X.w X.K X.mg X.base k x ps sp) (hr : Room k X.A) (hg : Gl X x) (ha : PA X (e :: es) t)
    (hdb : (x == ("__debug__" : Str)) = false := by decide) (hs : starEach (e :: es) X.env = (false, eval e X.env) :: starEach es X.env := by rfl) (hpl : ((backTo pos (starEach es X.env)).any (·.1)) = false := by rfl) :
    PE X (.Call (.Name x p) (e :: es) [] pos) (tCall sp [] E0 t) := by
  obtain ⟨fd, F, b, kp, hm⟩ := o
  exact pe_call F hr hg hm kp b .nil pass0 ha hdb hs hpl
def But (a : Addr) (H H' : Hp) : Prop := ∀ b o, H b = some o → b ≠ a → H' b = some o
theorem But.of {a : Addr} {H H' : Hp} (s : Same H H') : But a H H' := fun b o e _ => s b o e
theorem Same.new {H : Hp} {p : Addr} {o : HO} (h : H p = none) : Same H (upd H p o) := fun b o e => by
  rw [upd_ne (ne_of_none e h)]
  exact e
theorem Same.put {H0 H : Hp} {p : Addr} {o : HO} (s : Same H0 H) (h : H0 p = none) : Same H0 (upd H p o) := fun b o e => by
  rw [upd_ne (ne_of_none e h)]
  exact s b o e
theorem lc_text {z : Str} {ys : List V} {te : TE} {i0 : Nat} {vs : List Nat} {σ : L2.St} {H1 : Hp} {D : Addr} {Qd : Hp → Prop} (hD : H1 D = none) (hl : ys.length = z.cps.toList.length) (hz : ys.length ≤ sizeLine)
    (hw : ∀ c : Nat, wipe ((wipe σ vs).set i0 (some (.str (sg c)))) vs = wipe σ vs)
    (he : ∀ (i c : Nat) (y : V) (H : Hp) (Q : VK), z.cps.toList[i]? = some c → ys[i]? = some y → Same H1 H → (∀ H', Same H H' → Q y H') → te ((wipe σ vs).set i0 (some (.str (sg c)))) H Q)
    (hd : ∀ H, Same H1 H → H D = some (.lst ys) → Qd H) :
    ∃ W : Nat → Nat → Hp → Prop, (∃ m, W 0 m (upd H1 D (.lst []))) ∧ ∀ i m H, W i m H → ((Its z).stop i H ∧ Qd H) ∨ ((Its z).go i H ∧ ∃ Nx : Hp → Prop, (∀ H', Nx H' → ∃ m', m' < m ∧ W (i + 1) m' H') ∧
      ∀ x H', (Its z).yld i H x H' → (gName i0) x (wipe σ vs) H' fun σ2 H2 => wipe σ2 vs = wipe σ vs ∧ tYes σ2 H2 fun b H3 => if b = true then te σ2 H3 fun y H4 => ∃ acc, H4 D = some (.lst acc) ∧ acc.length < sizeLine ∧ Nx (upd H4 D (.lst (acc ++ [y]))) else Nx H3) := by
  have hsz : z.cps.size = ys.length := by rw [hl]; simp
  refine ⟨fun i m H => m = ys.length - i ∧ i ≤ ys.length ∧ Same H1 H ∧ H D = some (.lst (ys.take i)), ⟨ys.length, rfl, Nat.zero_le _, Same.new hD, upd_same⟩, ?_⟩
  rintro i m H ⟨rfl, hi, sm, hH⟩
  by_cases lt : i < ys.length
  · refine .inr ⟨by show i < z.cps.size; omega, fun H' => Same H1 H' ∧ H' D = some (.lst (ys.take (i + 1))), fun H' q => ⟨ys.length - (i + 1), by omega, rfl, lt, q.1, q.2⟩, ?_⟩
    rintro x H' ⟨rfl, c, hc, rfl⟩
    have hc2 : z.cps.toList[i]? = some c := by rw [Array.getElem?_toList]; exact hc
    have hy : ys[i]? = some ys[i] := List.getElem?_eq_getElem lt
    refine ⟨hw c, ?_⟩
    show te _ _ _
    refine he i c _ _ _ hc2 hy sm fun H4 s4 => ⟨ys.take i, s4 _ _ hH, ?_, ?_, ?_⟩
    · rw [List.length_take]; omega
    · exact Same.put (sm.trans s4) hD
    · rw [upd_same, List.take_add_one, hy]; rfl
  · have e : i = ys.length := by omega
    subst e
    refine .inl ⟨by show z.cps.size ≤ ys.length; omega, hd H sm ?_⟩
    rw [hH, List.take_length]
theorem lc_known {a : Addr} {xs ys : List V} {te : TE} {i0 : Nat} {vs : List Nat} {σ : L2.St} {H1 : Hp} {D : Addr} {Qd : Hp → Prop} (hD : H1 D = none) (hq : SqL K H1 a xs) (hl : ys.length = xs.length) (hz : ys.length ≤ sizeLine)
    (hw : ∀ v : V, wipe ((wipe σ vs).set i0 (some v)) vs = wipe σ vs)
    (he : ∀ (i : Nat) (x y : V) (H : Hp) (Q : VK), xs[i]? = some x → ys[i]? = some y → Same H1 H → (∀ H', Same H H' → Q y H') → te ((wipe σ vs).set i0 (some x)) H Q)
    (hd : ∀ H, Same H1 H → H D = some (.lst ys) → Qd H) :
    ∃ W : Nat → Nat → Hp → Prop, (∃ m, W 0 m (upd H1 D (.lst []))) ∧ ∀ i m H, W i m H → ((Itl K a).stop i H ∧ Qd H) ∨ ((Itl K a).go i H ∧ ∃ Nx : Hp → Prop, (∀ H', Nx H' → ∃ m', m' < m ∧ W (i + 1) m' H') ∧
      ∀ x H', (Itl K a).yld i H x H' → (gName i0) x (wipe σ vs) H' fun σ2 H2 => wipe σ2 vs = wipe σ vs ∧ tYes σ2 H2 fun b H3 => if b = true then te σ2 H3 fun y H4 => ∃ acc, H4 D = some (.lst acc) ∧ acc.length < sizeLine ∧ Nx (upd H4 D (.lst (acc ++ [y]))) else Nx H3) := by
  refine lc_list (K := K) (a := a) (xs := xs) (g := gName i0) (tt := tYes) (te := te) (fun i H => Same H1 H ∧ H D = some (.lst (ys.take i))) ⟨Same.new hD, upd_same⟩ (fun i H _ p => p.1.seq hq) ?_ ?_
  · rintro i x H hx ⟨sm, hH⟩
    have lt : i < ys.length := by rw [hl]; exact (List.getElem?_eq_some_iff.mp hx).1
    have hy : ys[i]? = some ys[i] := List.getElem?_eq_getElem lt
    refine ⟨hw x, ?_⟩
    show te _ _ _
    refine he i x _ _ _ hx hy sm fun H4 s4 => ⟨ys.take i, s4 _ _ hH, ?_, Same.put (sm.trans s4) hD, ?_⟩
    · rw [List.length_take]; omega
    · rw [upd_same, List.take_add_one, hy]; rfl
  · rintro H ⟨sm, hH⟩
    rw [← hl, List.take_length] at hH
    exact hd H sm hH
abbrev sl (z : Str) : List Nat := z.cps.toList
theorem sl_len (z : Str) : z.length = (sl z).length := by simp [Str.length]
theorem lt1 (a b : Nat) : decide ((⟨#[a]⟩ : Str).cps.toList < (⟨#[b]⟩ : Str).cps.toList) = decide (a < b) := by
  rw [decide_eq_decide]
  show [a] < [b] ↔ a < b
  rw [List.cons_lt_cons_iff]
  constructor
  · rintro (h | ⟨_, h⟩)
    · exact h
    · exact absurd h (List.not_lt_nil _)
  · exact Or.inl
theorem eq_sg (c e : Nat) : decide (V.str (sg c) = V.str (sg e)) = decide (c = e) := by
  rw [decide_eq_decide]
  exact ⟨fun h => sg_inj (V.str.inj h), fun h => by rw [h]⟩
theorem mkFn {x : Str} {st : Stmt} {N ps : List Str} {k : Nat} {sp : Sp} {fd : FuncData} (F : FunD K x x (defArgs st) (defBody st) (defScope st) [] [] (He.ga K x) fd) (S : FnScope N ps (defScope st)) (len : ∀ vs H Q E, sp vs H Q E → vs.length = ps.length)
    (body : ∀ (cdv : Value) (A : Around) (outer : List Env) (s : Shared) (H0 : Hp) (vs : List V) (Q : VK) (E : XK), Room k (A.deeper (envOfC x (defScope st) s.heap.objs.size (He.ga K x) cdv)) → sp vs H0 Q E →
      ∃ t, PSs (cxOf CX0 P w K mg base N x (defScope st) (He.ga K x) cdv A outer s H0 E).nox (defBody st) t ∧ t { nx := fun _ H' => Q .non H', rt := Q } (start N vs) H0) : FnOk P w K mg base CX0 (k + 1) (He.ga K x) fd ps sp := by
  refine F.ok S len fun cdv A outer s H vs Q E hr h => ?_
  obtain ⟨t, h1, h2⟩ := body cdv A outer s H vs Q E hr h
  exact ⟨t, h1.nox, h2⟩
theorem pgi {X : Cx} {x : Str} {i : Int} {k : Tok} {pos : Pos} (hg : Gl X x) (hm : X.mg x = some (.int i k)) (hd : (x == ("__debug__" : Str)) = false := by decide) : PE X (.Name x pos) (tC (.int i)) := pe_glob (v := .int i) hg hm ⟨_, rfl⟩ hd
theorem pgs {X : Cx} {x z : Str} {k : Tok} {pos : Pos} (hg : Gl X x) (hm : X.mg x = some (.str z k)) (hd : (x == ("__debug__" : Str)) = false := by decide) : PE X (.Name x pos) (tC (.str z)) := pe_glob (v := .str z) hg hm ⟨_, rfl⟩ hd
theorem op_notInK {X : Cx} {K : PySem.W.Frag} (h : X.K = K) : OpR X (compareOp .NotIn) (rIn K true) := by
  subst h
  exact op_notIn_seq
theorem small4 {n : Nat} (h : n ≤ 4000) : n ≤ sizeLine := Nat.le_trans h (by decide)
theorem sqD {D : Addr} {H : Hp} {ys : List V} (h : H D = some (.lst ys)) : SqL K H D ys := SqL.of h
theorem big6 {n : Nat} (h : n ≤ 1000000) : n ≤ sizeLine := Nat.le_trans h (by decide)
def off (a : Addr) (H : Hp) : Hp := fun b => if b = a then none else H b
def fresh (H H' : Hp) : Hp := fun b => match H b with
  | none => H' b
  | some _ => none
theorem off_ne {a b : Addr} {H : Hp} (h : b ≠ a) : off a H b = H b := if_neg h
theorem off_some {a b : Addr} {H : Hp} {o : HO} (h : off a H b = some o) : b ≠ a ∧ H b = some o := by
  unfold off at h
  by_cases e : b = a
  · rw [if_pos e] at h; cases h
  · rw [if_neg e] at h; exact ⟨e, h⟩
theorem fresh_of {H H' : Hp} {b : Addr} (h : H b = none) : fresh H H' b = H' b := by
  unfold fresh; rw [h]
theorem fresh_some {H H' : Hp} {b : Addr} {o : HO} (h : fresh H H' b = some o) : H b = none ∧ H' b = some o := by
  unfold fresh at h
  cases e : H b with
  | none => rw [e] at h; exact ⟨rfl, h⟩
  | some u => rw [e] at h; cases h
theorem off_le {a : Addr} {H : Hp} : Same (off a H) H := fun b o h => (off_some h).2
theorem off_up {a : Addr} {H H' : Hp} (s : Same H H') : Same (off a H) (off a H') := fun b o h => by
  obtain ⟨h1, h2⟩ := off_some h
  rw [off_ne h1]
  exact s _ _ h2
theorem off_but {a : Addr} {H H' : Hp} (s : But a H H') : Same (off a H) (off a H') := fun b o h => by
  obtain ⟨h1, h2⟩ := off_some h
  rw [off_ne h1]
  exact s _ _ h2 h1
theorem off_put (a : Addr) (H : Hp) (o : HO) : off a (upd H a o) = off a H := by
  funext b
  unfold off
  by_cases e : b = a
  · rw [if_pos e, if_pos e]
  · rw [if_neg e, if_neg e, upd_ne e]
theorem off_in {a : Addr} {H0 H : Hp} (s : Same H0 H) (h : H0 a = none) : Same H0 (off a H) := fun b o e => by
  rw [off_ne (ne_of_none e h)]
  exact s _ _ e
theorem fresh_le {H H' : Hp} : Same (fresh H H') H' := fun b o h => (fresh_some h).2
theorem fresh_off {a : Addr} {H H' : Hp} {u : HO} (h : H a = some u) : Same (fresh H H') (off a H') := fun b o e => by
  obtain ⟨h1, h2⟩ := fresh_some e
  rw [off_ne fun q => by rw [q, h] at h1; cases h1]
  exact h2
theorem fresh_up {H H1 H' H2 : Hp} (s : ∀ b, H1 b = none → H b = none) (s2 : Same H' H2) : Same (fresh H1 H') (fresh H H2) := fun b o e => by
  obtain ⟨h1, h2⟩ := fresh_some e
  rw [fresh_of (s b h1)]
  exact s2 _ _ h2
theorem Same.none {H H' : Hp} (s : Same H H') : ∀ b, H' b = Option.none → H b = Option.none := fun b h => s.free h
theorem put_new (f : Str) (v : V) : ∀ fs : List (Str × V), (∀ q ∈ fs, q.1 ≠ f) → putF f v fs = fs ++ [(f, v)]
  | [], _ => rfl
  | (g, x) :: r, h => by
    show (if g = f then (g, v) :: r else (g, x) :: putF f v r) = _
    rw [if_neg (h (g, x) (.head _)), put_new f v r fun q hq => h q (.tail _ hq)]
    rfl
theorem len_put (f : Str) (v : V) : ∀ fs : List (Str × V), (putF f v fs).length ≤ fs.length + 1
  | [] => Nat.le_refl _
  | (g, x) :: r => by
    show (if g = f then (g, v) :: r else (g, x) :: putF f v r).length ≤ _
    by_cases h : g = f
    · rw [if_pos h]; exact Nat.le_succ _
    · rw [if_neg h]; exact Nat.succ_le_succ (len_put f v r)
theorem len_put_lt {f : Str} {v : V} {fs : List (Str × V)} {n : Nat} (h : fs.length ≤ n) : (putF f v fs).length ≤ n + 1 := Nat.le_trans (len_put f v fs) (Nat.succ_le_succ h)
theorem lc_rel {a : Addr} {xs : List V} {te : TE} {i0 : Nat} {vs : List Nat} {σ : L2.St} {H1 : Hp} {D : Addr} {Qd : Hp → Prop} (Rel : Nat → V → Hp → Prop) (hm : ∀ i v H H', Rel i v H → Same H H' → Rel i v H') (hD : H1 D = none) (hq : SqL K H1 a xs) (hz : xs.length ≤ sizeLine)
    (hw : ∀ v : V, wipe ((wipe σ vs).set i0 (some v)) vs = wipe σ vs)
    (he : ∀ (i : Nat) (x : V) (H : Hp) (Q : VK) (acc : List V), xs[i]? = some x → Same H1 H → H D = some (.lst acc) → (∀ y H', Same H H' → Rel i y (fresh H H') → Q y H') → te ((wipe σ vs).set i0 (some x)) H Q)
    (hd : ∀ H ys, Same H1 H → H D = some (.lst ys) → ys.length = xs.length → (∀ i y, ys[i]? = some y → Rel i y (fresh H1 (off D H))) → Qd H) :
    ∃ W : Nat → Nat → Hp → Prop, (∃ m, W 0 m (upd H1 D (.lst []))) ∧ ∀ i m H, W i m H → ((Itl K a).stop i H ∧ Qd H) ∨ ((Itl K a).go i H ∧ ∃ Nx : Hp → Prop, (∀ H', Nx H' → ∃ m', m' < m ∧ W (i + 1) m' H') ∧
      ∀ x H', (Itl K a).yld i H x H' → (gName i0) x (wipe σ vs) H' fun σ2 H2 => wipe σ2 vs = wipe σ vs ∧ tYes σ2 H2 fun b H3 => if b = true then te σ2 H3 fun y H4 => ∃ acc, H4 D = some (.lst acc) ∧ acc.length < sizeLine ∧ Nx (upd H4 D (.lst (acc ++ [y]))) else Nx H3) := by
  refine lc_list (K := K) (a := a) (xs := xs) (g := gName i0) (tt := tYes) (te := te) (fun i H => Same H1 H ∧ ∃ ys, H D = some (.lst ys) ∧ ys.length = i ∧ ∀ j y, ys[j]? = some y → Rel j y (fresh H1 (off D H)))
    ⟨Same.new hD, [], upd_same, rfl, fun j y h => by simp at h⟩ (fun i H _ p => p.1.seq hq) ?_ ?_
  · rintro i x H hx ⟨sm, ys, hH, hl, hr⟩
    have lt : i < xs.length := (List.getElem?_eq_some_iff.mp hx).1
    refine ⟨hw x, ?_⟩
    show te _ _ _
    refine he i x _ _ ys hx sm hH fun y H4 s4 r4 => ⟨ys, s4 _ _ hH, by omega, Same.put (sm.trans s4) hD, ys ++ [y], upd_same, by rw [List.length_append, hl]; rfl, fun j v hj => ?_⟩
    rw [off_put]
    by_cases hji : j < ys.length
    · rw [List.getElem?_append_left hji] at hj
      exact hm _ _ _ _ (hr j v hj) (fresh_up (fun b h => h) (off_up s4))
    · rw [List.getElem?_append_right (by omega)] at hj
      have hj0 : j - ys.length = 0 := by
        have := (List.getElem?_eq_some_iff.mp hj).1
        rw [List.length_singleton] at this
        omega
      rw [hj0] at hj
      obtain rfl : y = v := Option.some.inj hj
      have e : j = i := by omega
      rw [e]
      refine hm _ _ _ _ r4 fun b o e => ?_
      obtain ⟨h1, h2⟩ := fresh_some e
      have hb : b ≠ D := fun q => by rw [q, hH] at h1; cases h1
      rw [fresh_of (Sx.Same.none sm b h1), off_ne hb]
      exact h2
  · rintro H ⟨sm, ys, hH, hl, hr⟩
    exact hd H ys sm hH hl hr
def pInts (cs : List Int) : PyData := .list (cs.map PyData.int)
theorem eqvAll_ints : ∀ xs ys : List Int, PyData.eqvAll (xs.map PyData.int) (ys.map PyData.int) = decide (xs = ys)
  | [], [] => rfl
  | [], y :: ys => by simp [PyData.eqvAll]
  | x :: xs, [] => by simp [PyData.eqvAll]
  | x :: xs, y :: ys => by
    rw [List.map_cons, List.map_cons, PyData.eqvAll, eqvAll_ints xs ys, PyData.eqv]
    by_cases h : x = y
    · subst h; simp
    · simp [h]
theorem eqv_ints (xs ys : List Int) : PyData.eqv (pInts xs) (pInts ys) = decide (xs = ys) := by
  unfold pInts
  rw [PyData.eqv]
  exact eqvAll_ints xs ys
theorem lay_ints : ∀ xs : List Int, PyData.canLayAll0 (xs.map PyData.int) = true
  | [] => rfl
  | x :: xs => by
    rw [List.map_cons, PyData.canLayAll0, lay_ints xs]
    rfl
theorem dep_ints : ∀ xs : List Int, PyData.depthAll (xs.map PyData.int) ≤ 1
  | [] => Nat.zero_le _
  | x :: xs => by
    rw [List.map_cons, PyData.depthAll]
    exact Nat.max_le.mpr ⟨by rw [PyData.depth]; decide, dep_ints xs⟩
theorem shaped_ints (xs : List Int) : SeqAt.shaped (pInts xs) = true := by
  unfold SeqAt.shaped pInts
  rw [PyData.canLay0, lay_ints, PyData.depth]
  have := dep_ints xs
  simp
  omega
theorem dpAll_ints (K : PySem.W.Frag) (H : Hp) : ∀ xs : List Int, DpAll K H (xs.map V.int) (xs.map PyData.int)
  | [] => .nil
  | x :: xs => .cons (.int x) (dpAll_ints K H xs)
theorem dp_ints {K : PySem.W.Frag} {H : Hp} {a : Addr} {xs : List Int} (h : SqL K H a (xs.map V.int)) : Dp K H (.ref a) (pInts xs) := .lst h (dpAll_ints K H xs)
theorem hu64 {A : Around} {k : Nat} (hr : Room k A) : A.units + 64 < cLine := by
  have := hr.un
  omega
theorem lc_zip {a b : Addr} {xs ys zs : List V} {te : TE} {i0 j0 : Nat} {vs : List Nat} {σ : L2.St} {H1 : Hp} {D : Addr} {Qd : Hp → Prop} (hD : H1 D = none) (hx : SqL K H1 a xs) (hy : SqL K H1 b ys) (hl : ys.length = xs.length) (hz : zs.length = xs.length) (hb : zs.length ≤ sizeLine)
    (hw : ∀ u v : V, wipe (((wipe σ vs).set i0 (some u)).set j0 (some v)) vs = wipe σ vs)
    (he : ∀ (i : Nat) (x y z : V) (H : Hp) (Q : VK), xs[i]? = some x → ys[i]? = some y → zs[i]? = some z → Same H1 H → (∀ H', Same H H' → Q z H') → te (((wipe σ vs).set i0 (some x)).set j0 (some y)) H Q)
    (hd : ∀ H, Same H1 H → H D = some (.lst zs) → Qd H) :
    ∃ W : Nat → Nat → Hp → Prop, (∃ m, W 0 m (upd H1 D (.lst []))) ∧ ∀ i m H, W i m H → ((Itz K a b).stop i H ∧ Qd H) ∨ ((Itz K a b).go i H ∧ ∃ Nx : Hp → Prop, (∀ H', Nx H' → ∃ m', m' < m ∧ W (i + 1) m' H') ∧
      ∀ x H', (Itz K a b).yld i H x H' → (gTup K 2 (gCons (gName i0) (gCons (gName j0) gNil))) x (wipe σ vs) H' fun σ2 H2 => wipe σ2 vs = wipe σ vs ∧ tYes σ2 H2 fun b H3 => if b = true then te σ2 H3 fun y H4 => ∃ acc, H4 D = some (.lst acc) ∧ acc.length < sizeLine ∧ Nx (upd H4 D (.lst (acc ++ [y]))) else Nx H3) := by
  refine ⟨fun i m H => m = zs.length - i ∧ i ≤ zs.length ∧ Same H1 H ∧ H D = some (.lst (zs.take i)), ⟨zs.length, rfl, Nat.zero_le _, Same.new hD, upd_same⟩, ?_⟩
  rintro i m H ⟨rfl, hi, sm, hH⟩
  by_cases lt : i < zs.length
  · have ex : xs[i]? = some (xs[i]'(by omega)) := List.getElem?_eq_getElem _
    have ey : ys[i]? = some (ys[i]'(by omega)) := List.getElem?_eq_getElem _
    have ez : zs[i]? = some zs[i] := List.getElem?_eq_getElem lt
    refine .inr ⟨⟨xs, ys, _, _, sm.seq hx, sm.seq hy, ex, ey⟩, fun H' => Same H1 H' ∧ H' D = some (.lst (zs.take (i + 1))), fun H' q => ⟨zs.length - (i + 1), by omega, rfl, lt, q.1, q.2⟩, ?_⟩
    rintro v H' ⟨T, x, y, rfl, hT, rfl, h1, h2⟩
    have hx2 := h1 _ (sm.seq hx)
    have hy2 := h2 _ (sm.seq hy)
    refine ⟨T, [x, y], rfl, SqT.of upd_same, rfl, x, _, rfl, y, _, rfl, rfl, hw x y, ?_⟩
    show te _ _ _
    have nDT : D ≠ T := ne_of_none hH hT
    refine he i x y _ _ _ hx2 hy2 ez (sm.trans (Same.new hT)) fun H4 s4 => ⟨zs.take i, s4 _ _ (by rw [upd_ne nDT]; exact hH), ?_, ?_, ?_⟩
    · rw [List.length_take]; omega
    · exact Same.put ((sm.trans (Same.new hT)).trans s4) hD
    · rw [upd_same, List.take_add_one, ez]; rfl
  · have e : i = zs.length := by omega
    subst e
    refine .inl ⟨⟨xs, ys, sm.seq hx, sm.seq hy, .inl (by omega)⟩, hd H sm ?_⟩
    rw [hH, List.take_length]
theorem lc_rangeF {lo : Int} {n : Nat} {f : Nat → Bool} {F : Nat → V} {tt : TT} {te : TE} {i0 : Nat} {vs : List Nat} {σ : L2.St} {H1 : Hp} {D : Addr} {Qd : Hp → Prop} (hD : H1 D = none) (hn : n ≤ sizeLine)
    (hw : ∀ u : V, wipe ((wipe σ vs).set i0 (some u)) vs = wipe σ vs)
    (ht : ∀ (i : Nat) (H : Hp) (Q : Bool → Hp → Prop), i < n → Same H1 H → Q (f i) H → tt ((wipe σ vs).set i0 (some (.int (lo + (i : Nat))))) H Q)
    (he : ∀ (i : Nat) (H : Hp) (Q : VK), i < n → Same H1 H → Q (F i) H → te ((wipe σ vs).set i0 (some (.int (lo + (i : Nat))))) H Q)
    (hd : ∀ H, Same H1 H → H D = some (.lst (((List.range n).filter f).map F)) → Qd H) :
    ∃ W : Nat → Nat → Hp → Prop, (∃ m, W 0 m (upd H1 D (.lst []))) ∧ ∀ i m H, W i m H → ((Itr lo n).stop i H ∧ Qd H) ∨ ((Itr lo n).go i H ∧ ∃ Nx : Hp → Prop, (∀ H', Nx H' → ∃ m', m' < m ∧ W (i + 1) m' H') ∧
      ∀ x H', (Itr lo n).yld i H x H' → (gName i0) x (wipe σ vs) H' fun σ2 H2 => wipe σ2 vs = wipe σ vs ∧ tt σ2 H2 fun b H3 => if b = true then te σ2 H3 fun y H4 => ∃ acc, H4 D = some (.lst acc) ∧ acc.length < sizeLine ∧ Nx (upd H4 D (.lst (acc ++ [y]))) else Nx H3) := by
  have step : ∀ i, ((List.range (i + 1)).filter f).map F = ((List.range i).filter f).map F ++ (if f i = true then [F i] else []) := fun i => by
    rw [List.range_succ, List.filter_append, List.map_append]
    by_cases h : f i = true
    · rw [if_pos h]; simp [List.filter_cons, h]
    · rw [if_neg h]; simp [List.filter_cons, h]
  have small : ∀ i, i < n → (((List.range i).filter f).map F).length < sizeLine := fun i h => by
    rw [List.length_map]
    have := List.length_filter_le f (List.range i)
    rw [List.length_range] at this
    omega
  refine lc_range (g := gName i0) (tt := tt) (te := te) (fun i H => Same H1 H ∧ H D = some (.lst (((List.range i).filter f).map F))) ⟨Same.new hD, upd_same⟩ ?_ (fun H q => hd H q.1 q.2)
  rintro i H hi ⟨sm, hH⟩
  refine ⟨hw _, ht i H _ hi sm ?_⟩
  by_cases h : f i = true
  · rw [if_pos h]
    refine he i H _ hi sm ⟨_, hH, small i hi, Same.put sm hD, ?_⟩
    rw [upd_same, step, if_pos h]
  · rw [if_neg h]
    exact ⟨sm, by rw [hH, step, if_neg h, List.append_nil]⟩
theorem eq_int (a b : Int) : decide (V.int a = V.int b) = decide (a = b) := by
  rw [decide_eq_decide]
  exact ⟨V.int.inj, congrArg V.int⟩
theorem eq_str (a b : Str) : decide (V.str a = V.str b) = decide (a = b) := by
  rw [decide_eq_decide]
  exact ⟨V.str.inj, congrArg V.str⟩
theorem lc_rangeS {lo : Int} {n : Nat} {f : Nat → Bool} {F : Nat → V} {tt : TT} {te : TE} {i0 : Nat} {vs : List Nat} {σ : L2.St} {H1 : Hp} {D : Addr} {Qd : Hp → Prop} (hD : H1 D = none) (hn : n ≤ sizeLine)
    (hw : ∀ u : V, wipe ((wipe σ vs).set i0 (some u)) vs = wipe σ vs)
    (ht : ∀ (i : Nat) (H : Hp) (Q : Bool → Hp → Prop), i < n → Same H1 H → (∀ H', Same H H' → Q (f i) H') → tt ((wipe σ vs).set i0 (some (.int (lo + (i : Nat))))) H Q)
    (he : ∀ (i : Nat) (H : Hp) (Q : VK), i < n → Same H1 H → Q (F i) H → te ((wipe σ vs).set i0 (some (.int (lo + (i : Nat))))) H Q)
    (hd : ∀ H, Same H1 H → H D = some (.lst (((List.range n).filter f).map F)) → Qd H) :
    ∃ W : Nat → Nat → Hp → Prop, (∃ m, W 0 m (upd H1 D (.lst []))) ∧ ∀ i m H, W i m H → ((Itr lo n).stop i H ∧ Qd H) ∨ ((Itr lo n).go i H ∧ ∃ Nx : Hp → Prop, (∀ H', Nx H' → ∃ m', m' < m ∧ W (i + 1) m' H') ∧
      ∀ x H', (Itr lo n).yld i H x H' → (gName i0) x (wipe σ vs) H' fun σ2 H2 => wipe σ2 vs = wipe σ vs ∧ tt σ2 H2 fun b H3 => if b = true then te σ2 H3 fun y H4 => ∃ acc, H4 D = some (.lst acc) ∧ acc.length < sizeLine ∧ Nx (upd H4 D (.lst (acc ++ [y]))) else Nx H3) := by
  have step : ∀ i, ((List.range (i + 1)).filter f).map F = ((List.range i).filter f).map F ++ (if f i = true then [F i] else []) := fun i => by
    rw [List.range_succ, List.filter_append, List.map_append]
    by_cases h : f i = true
    · rw [if_pos h]; simp [List.filter_cons, h]
    · rw [if_neg h]; simp [List.filter_cons, h]
  have small : ∀ i, i < n → (((List.range i).filter f).map F).length < sizeLine := fun i h => by
    rw [List.length_map]
    have := List.length_filter_le f (List.range i)
    rw [List.length_range] at this
    omega
  refine lc_range (g := gName i0) (tt := tt) (te := te) (fun i H => Same H1 H ∧ H D = some (.lst (((List.range i).filter f).map F))) ⟨Same.new hD, upd_same⟩ ?_ (fun H q => hd H q.1 q.2)
  rintro i H hi ⟨sm, hH⟩
  refine ⟨hw _, ht i H _ hi sm fun H' s' => ?_⟩
  have hH' := s' _ _ hH
  have sm' := sm.trans s'
  by_cases h : f i = true
  · rw [if_pos h]
    refine he i H' _ hi sm' ⟨_, hH', small i hi, Same.put sm' hD, ?_⟩
    rw [upd_same, step, if_pos h]
  · rw [if_neg h]
    exact ⟨sm', by rw [hH', step, if_neg h, List.append_nil]⟩
theorem pe_fldK {X : Cx} {K : PySem.W.Frag} {e : Expr} {f : Str} {pos : Pos} {ta : TE} (h : X.K = K) (ha : PE X e ta) (hb : attributeBase e f X.env (eval e X.env) = eval e X.env := by rfl) : PE X (.Attribute e f pos) (tFld K ta f) := by
  subst h
  exact pe_fld ha hb
def tTru (K : PySem.W.Frag) (ta : TE) : TT := fun σ H Q => ta σ H fun x H' => ∃ k, TruV K x H' k ∧ Q k H'
theorem pt_truthK {X : Cx} {K : PySem.W.Frag} {a : Expr} {ta : TE} (h : X.K = K) (ha : PE X a ta) (he : ∀ whole, isTrue a X.env whole = (do let v ← whole; standAt a.pos; holding [v] (truthy v)) := by intro _; rfl) :
    PT X a (tTru K ta) := by
  subst h
  exact pt_truth ha he
theorem op_inK {X : Cx} {K : PySem.W.Frag} (h : X.K = K) : OpR X (compareOp .In) (rIn K false) := by
  subst h
  exact op_in_seq
theorem But.refl (a : Addr) (H : Hp) : But a H H := fun _ _ e _ => e
theorem But.trans {a : Addr} {H H1 H2 : Hp} (x : But a H H1) (y : But a H1 H2) : But a H H2 := fun b o e hb => y b o (x b o e hb) hb
theorem But.put (a : Addr) (H : Hp) (o : HO) : But a H (upd H a o) := fun b u e hb => by rw [upd_ne hb]; exact e
theorem ix_tupK {X : Cx} {K : PySem.W.Frag} (h : X.K = K) : IxR X (rIxT K) := by
  subst h
  exact ix_tup
theorem ix_listK {X : Cx} {K : PySem.W.Frag} (h : X.K = K) : IxR X (rIxL K) := by
  subst h
  exact ix_list
theorem But.none {a b : Addr} {H H' : Hp} {o : HO} (s : But a H H') (h : H' a = some o) (hb : H' b = Option.none) : H b = Option.none := by
  cases e : H b with
  | none => rfl
  | some u =>
    have n : b ≠ a := fun q => by rw [q, h] at hb; cases hb
    rw [s b u e n] at hb
    cases hb
theorem sl_app (a b : Str) : sl (a ++ b) = sl a ++ sl b := by
  show (a.cps ++ b.cps).toList = _
  simp
theorem sl_sg (c : Nat) : sl (sg c) = [c] := rfl
theorem sl_mt : sl (Str.ofString "") = [] := by decide +kernel
theorem len_app (a b : Str) : (a ++ b).length = a.length + b.length := by
  rw [sl_len, sl_len, sl_len, sl_app, List.length_append]
theorem sl_ext {a b : Str} (h : sl a = sl b) : a = b := by
  obtain ⟨a⟩ := a
  obtain ⟨b⟩ := b
  have : a = b := by
    apply Array.ext'
    exact h
  rw [this]
theorem join_sg : ∀ zs : List Nat, sl (Txt.join (Str.ofString "") (zs.map sg)) = zs := by
  intro zs
  have e : Txt.join (Str.ofString "") (zs.map sg) = Str.join (Str.ofString "") (zs.map sg) := eq_of_beq (join_plain_closes _ _)
  rw [e]
  have e0 : Str.ofString "" = ⟨#[]⟩ := by decide +kernel
  rw [e0]
  induction zs with
  | nil => rfl
  | cons c r ih =>
    cases r with
    | nil => rfl
    | cons d r =>
      have e2 : Str.join ⟨#[]⟩ ((c :: d :: r).map sg) = sg c ++ ⟨#[]⟩ ++ Str.join ⟨#[]⟩ ((d :: r).map sg) := rfl
      rw [e2, sl_app, ih (eq_of_beq (join_plain_closes _ _)), sl_app]
      rfl
theorem lc_signs {z : Str} {tt : TT} {te : TE} {i0 : Nat} {vs : List Nat} {σ : L2.St} {H1 : Hp} {D : Addr} {Qd : Hp → Prop} (Pv : Nat → Hp → Prop) (h0 : Pv 0 (upd H1 D (.lst [])))
    (hs : ∀ (i c : Nat) (H : Hp), (sl z)[i]? = some c → Pv i H → wipe ((wipe σ vs).set i0 (some (.str (sg c)))) vs = wipe σ vs ∧ tt ((wipe σ vs).set i0 (some (.str (sg c)))) H fun b H3 => if b = true then te ((wipe σ vs).set i0 (some (.str (sg c)))) H3 fun y H4 => ∃ acc, H4 D = some (.lst acc) ∧ acc.length < sizeLine ∧ Pv (i + 1) (upd H4 D (.lst (acc ++ [y]))) else Pv (i + 1) H3)
    (hd : ∀ H, Pv (sl z).length H → Qd H) :
    ∃ W : Nat → Nat → Hp → Prop, (∃ m, W 0 m (upd H1 D (.lst []))) ∧ ∀ i m H, W i m H → ((Its z).stop i H ∧ Qd H) ∨ ((Its z).go i H ∧ ∃ Nx : Hp → Prop, (∀ H', Nx H' → ∃ m', m' < m ∧ W (i + 1) m' H') ∧
      ∀ x H', (Its z).yld i H x H' → (gName i0) x (wipe σ vs) H' fun σ2 H2 => wipe σ2 vs = wipe σ vs ∧ tt σ2 H2 fun b H3 => if b = true then te σ2 H3 fun y H4 => ∃ acc, H4 D = some (.lst acc) ∧ acc.length < sizeLine ∧ Nx (upd H4 D (.lst (acc ++ [y]))) else Nx H3) := by
  have hsz : z.cps.size = (sl z).length := by simp
  refine ⟨fun i m H => m = (sl z).length - i ∧ i ≤ (sl z).length ∧ Pv i H, ⟨(sl z).length, rfl, Nat.zero_le _, h0⟩, ?_⟩
  rintro i m H ⟨rfl, hi, p⟩
  by_cases lt : i < (sl z).length
  · refine .inr ⟨by show i < z.cps.size; omega, Pv (i + 1), fun H' q => ⟨(sl z).length - (i + 1), by omega, rfl, lt, q⟩, ?_⟩
    rintro x H' ⟨rfl, c, hc, rfl⟩
    exact hs i c _ (by rw [Array.getElem?_toList]; exact hc) p
  · have e : i = (sl z).length := by omega
    subst e
    exact .inl ⟨by show z.cps.size ≤ (sl z).length; omega, hd H p⟩
theorem for_signs {z : Str} {g : TG} {tb : TS} {D : Ends} {σ : L2.St} {H : Hp} (Pv : Nat → L2.St → Hp → Prop) (h0 : Pv 0 σ H)
    (hs : ∀ (i c : Nat) (σ : L2.St) (H : Hp), (sl z)[i]? = some c → Pv i σ H → g (.str (sg c)) σ H fun σ2 H2 => tb { D with nx := Pv (i + 1), ct := Pv (i + 1), bk := D.nx } σ2 H2) (hd : ∀ σ H, Pv (sl z).length σ H → D.nx σ H) :
    ∃ W : Nat → Nat → L2.St → Hp → Prop, (∃ m, W 0 m σ H) ∧ ∀ i m σ H, W i m σ H → ((Its z).stop i H ∧ D.nx σ H) ∨ ((Its z).go i H ∧ ∃ N : L2.St → Hp → Prop, (∀ σ' H', N σ' H' → ∃ m', m' < m ∧ W (i + 1) m' σ' H') ∧
      ∀ v H', (Its z).yld i H v H' → g v σ H' fun σ2 H2 => tb { D with nx := N, ct := N, bk := D.nx } σ2 H2) := by
  have hsz : z.cps.size = (sl z).length := by simp
  refine ⟨fun i m σ H => m = (sl z).length - i ∧ i ≤ (sl z).length ∧ Pv i σ H, ⟨(sl z).length, rfl, Nat.zero_le _, h0⟩, ?_⟩
  rintro i m σ H ⟨rfl, hi, p⟩
  by_cases lt : i < (sl z).length
  · refine .inr ⟨by show i < z.cps.size; omega, Pv (i + 1), fun σ' H' q => ⟨(sl z).length - (i + 1), by omega, rfl, lt, q⟩, ?_⟩
    rintro x H' ⟨rfl, c, hc, rfl⟩
    exact hs i c σ _ (by rw [Array.getElem?_toList]; exact hc) p
  · have e : i = (sl z).length := by omega
    subst e
    exact .inl ⟨by show z.cps.size ≤ (sl z).length; omega, hd σ H p⟩
theorem RZat {l : List Nat} {u : Int} (h : u.toNat < l.length) (h0 : 0 ≤ u) : atI l u = some l[u.toNat] := by
  have h2 := atI_nat (xs := l) (j := u.toNat) (List.getElem?_eq_getElem h)
  have e : ((u.toNat : Nat) : Int) = u := by omega
  rw [e] at h2
  exact h2
theorem map_snoc {α β : Type} (f : α → β) (l : List α) (x : α) : (l ++ [x]).map f = l.map f ++ [f x] := by simp
end
end Sx

set_option Elab.async false
set_option linter.all false
set_option maxRecDepth 100000
set_option maxHeartbeats 1000000
namespace Sx
open PySem PySem.Spec PyProof.Rows L2 SxA
/-! ### classes: methods that do not raise, and what is made -/
section
variable {P : Program} {w : World} {K : PySem.W.Frag} {mg : Str → Option Value} {base : Heap}
def Met (P : Program) (w : World) (K : PySem.W.Frag) (mg : Str → Option Value) (base : Heap) (k : Nat) (C m : Str) (ps : List Str) (sp : Sp) : Prop :=
  ∃ fd, FnOk P w K mg base CX0 k (He.ma K (He.ga K C) m) fd ps sp ∧ Binds K fd ps []
theorem mkMet {C m qual : Str} {st : Stmt} {N ps : List Str} {k : Nat} {sp : Sp} (d : ∃ fd, FunD K m qual (defArgs st) (defBody st) (defScope st) [] [] (He.ma K (He.ga K C) m) fd) (S : FnScope N ps (defScope st)) (len : ∀ vs H Q E, sp vs H Q E → vs.length = ps.length)
    (bnd : ∀ (kV doc pm : Value) (an : Option Addr) (cdv ct : Value) (us : List Value), us.length = ps.length → bindArgs (PySem.W.fnOf m qual (defArgs st) (defBody st) (defScope st) .none kV doc pm an cdv ct) ⟨us, []⟩ = pure (ps.zip us))
    (body : ∀ (cdv : Value) (A : Around) (outer : List Env) (s : Shared) (H0 : Hp) (vs : List V) (Q : VK) (E : XK), Room k (A.deeper (envOfC qual (defScope st) s.heap.objs.size (He.ma K (He.ga K C) m) cdv)) → sp vs H0 Q E →
      ∃ t, PSs (cxOf CX0 P w K mg base N qual (defScope st) (He.ma K (He.ga K C) m) cdv A outer s H0 E).nox (defBody st) t ∧ t { nx := fun _ H' => Q .non H', rt := Q } (start N vs) H0) : Met P w K mg base (k + 1) C m ps sp := by
  obtain ⟨fd, F⟩ := d
  refine ⟨fd, F.ok S len fun cdv A outer s H vs Q E hr h => ?_, F.bindsN bnd⟩
  obtain ⟨t, h1, h2⟩ := body cdv A outer s H vs Q E hr h
  exact ⟨t, h1.nox, h2⟩
theorem pe_met {X : Cx} {k : Nat} {C m : Str} {ps : List Str} {sp : Sp} {apos pos : Pos} {o e : Expr} {es : List Expr} {ta : TE} {t : TA} {pl : Sem Bool} (M : Met X.prog X.w X.K X.mg X.base k C m ps sp) (c : Cls X.K (He.ga X.K C)) (hm : Meth X.K (He.ga X.K C) m (He.ma X.K (He.ga X.K C) m))
    (hr : Room k X.A) (he : PE X o ta) (ha : PA X (e :: es) t)
    (hst : starEach (e :: es) X.env = (false, eval e X.env) :: starEach es X.env := by rfl) (hpl : (backTo pos (starEach es X.env)).any (·.1) = false := by rfl)
    (ht : eval (.Call (.Attribute o m apos) (e :: es) [] pos) X.env = (do
      let ov ← eval o X.env
      standAt apos.atName
      let (f, first) ← holding [ov] (getMethod ov m pl)
      callWith pos f first (backTo pos (starEach (e :: es) X.env)) (backToKw pos (keywordEach [] X.env))) := by rfl) :
    PE X (.Call (.Attribute o m apos) (e :: es) [] pos) (tMeth (He.ga X.K C) m sp [] E0 ta t) := by
  obtain ⟨fd, F, b⟩ := M
  exact pe_meth he c hm F hr b .nil pass0 ha hst hpl ht
theorem pe_met0 {X : Cx} {k : Nat} {C m : Str} {ps : List Str} {sp : Sp} {apos pos : Pos} {o : Expr} {ta : TE} {pl : Sem Bool} (M : Met X.prog X.w X.K X.mg X.base k C m ps sp) (c : Cls X.K (He.ga X.K C)) (hm : Meth X.K (He.ga X.K C) m (He.ma X.K (He.ga X.K C) m))
    (hr : Room k X.A) (he : PE X o ta)
    (ht : eval (.Call (.Attribute o m apos) [] [] pos) X.env = (do
      let ov ← eval o X.env
      standAt apos.atName
      let (f, first) ← holding [ov] (getMethod ov m pl)
      callWith pos f first (backTo pos (starEach [] X.env)) (backToKw pos (keywordEach [] X.env))) := by rfl) :
    PE X (.Call (.Attribute o m apos) [] [] pos) (tMeth (He.ga X.K C) m sp [] E0 ta tNil) := by
  obtain ⟨fd, F, b⟩ := M
  exact pe_meth0 he c hm F hr b .nil pass0 ht
theorem pe_metK {X : Cx} {K : PySem.W.Frag} {k : Nat} {C m : Str} {ps : List Str} {sp : Sp} {apos pos : Pos} {o e : Expr} {es : List Expr} {ta : TE} {t : TA} {pl : Sem Bool} (h : X.K = K) (M : Met X.prog X.w K X.mg X.base k C m ps sp) (c : Cls K (He.ga K C)) (hm : Meth K (He.ga K C) m (He.ma K (He.ga K C) m))
    (hr : Room k X.A) (he : PE X o ta) (ha : PA X (e :: es) t)
    (hst : starEach (e :: es) X.env = (false, eval e X.env) :: starEach es X.env := by rfl) (hpl : (backTo pos (starEach es X.env)).any (·.1) = false := by rfl)
    (ht : eval (.Call (.Attribute o m apos) (e :: es) [] pos) X.env = (do
      let ov ← eval o X.env
      standAt apos.atName
      let (f, first) ← holding [ov] (getMethod ov m pl)
      callWith pos f first (backTo pos (starEach (e :: es) X.env)) (backToKw pos (keywordEach [] X.env))) := by rfl) :
    PE X (.Call (.Attribute o m apos) (e :: es) [] pos) (tMeth (He.ga K C) m sp [] E0 ta t) := by
  subst h
  exact pe_met M c hm hr he ha hst hpl ht
theorem pe_met0K {X : Cx} {K : PySem.W.Frag} {k : Nat} {C m : Str} {ps : List Str} {sp : Sp} {apos pos : Pos} {o : Expr} {ta : TE} {pl : Sem Bool} (h : X.K = K) (M : Met X.prog X.w K X.mg X.base k C m ps sp) (c : Cls K (He.ga K C)) (hm : Meth K (He.ga K C) m (He.ma K (He.ga K C) m))
    (hr : Room k X.A) (he : PE X o ta)
    (ht : eval (.Call (.Attribute o m apos) [] [] pos) X.env = (do
      let ov ← eval o X.env
      standAt apos.atName
      let (f, first) ← holding [ov] (getMethod ov m pl)
      callWith pos f first (backTo pos (starEach [] X.env)) (backToKw pos (keywordEach [] X.env))) := by rfl) :
    PE X (.Call (.Attribute o m apos) [] [] pos) (tMeth (He.ga K C) m sp [] E0 ta tNil) := by
  subst h
  exact pe_met0 M c hm hr he ht
theorem pe_mk {X : Cx} {k : Nat} {C : Str} {ps : List Str} {sp : Sp} {p pos : Pos} {e : Expr} {es : List Expr} {t : TA} (M : Met X.prog X.w X.K X.mg X.base k C "__init__" ps sp) (m : Mk X.K (He.ga X.K C) (He.ma X.K (He.ga X.K C) "__init__")) (hm : X.mg C = some (.ref (He.ga X.K C)))
    (hr : Room (k + 1) X.A) (hg : Gl X C) (ha : PA X (e :: es) t)
    (hdb : (C == ("__debug__" : Str)) = false := by decide) (he : starEach (e :: es) X.env = (false, eval e X.env) :: starEach es X.env := by rfl) (hpl : (backTo pos (starEach es X.env)).any (·.1) = false := by rfl) :
    PE X (.Call (.Name C p) (e :: es) [] pos) (tMake (He.ga X.K C) sp [] E0 t) := by
  obtain ⟨fd, F, b⟩ := M
  exact pe_make m F hr hg hm b .nil pass0 ha hdb he hpl
end
end Sx

set_option Elab.async false
set_option linter.all false
set_option maxRecDepth 100000
set_option maxHeartbeats 0
namespace Sx
open PySem PySem.Spec PyProof.Rows L2
/-! ### the text by places -/
def top (i : Nat) : Stmt := PySem.Challenge.pw_sixdot_k45_labels_between_others.main.body.getD i (.Pass ⟨0, 0, 0, 0⟩)
abbrev sLabelsBetween : Stmt := top 1
abbrev sLawDraws : Stmt := top 3
abbrev sLawTake : Stmt := top 4
abbrev sLawSame : Stmt := top 5
abbrev sLawLabel : Stmt := top 6
abbrev sLawDue : Stmt := top 7
abbrev sLaw : Stmt := top 8
/-! ### the head: facts by names, the run -/
def dLabelsBetween : He.DefD := ⟨("labels_between", none), "labels_between", "labels_between", defArgs sLabelsBetween, defBody sLabelsBetween, defScope sLabelsBetween, [], []⟩
def dLawDraws : He.DefD := ⟨("_law_draws", none), "_law_draws", "_law_draws", defArgs sLawDraws, defBody sLawDraws, defScope sLawDraws, [], []⟩
def dLawTake : He.DefD := ⟨("_law_take", none), "_law_take", "_law_take", defArgs sLawTake, defBody sLawTake, defScope sLawTake, [], []⟩
def dLawSame : He.DefD := ⟨("_law_same", none), "_law_same", "_law_same", defArgs sLawSame, defBody sLawSame, defScope sLawSame, [], []⟩
def dLawLabel : He.DefD := ⟨("_law_label", none), "_law_label", "_law_label", defArgs sLawLabel, defBody sLawLabel, defScope sLawLabel, [], []⟩
def dLawDue : He.DefD := ⟨("_law_due", none), "_law_due", "_law_due", defArgs sLawDue, defBody sLawDue, defScope sLawDue, [], []⟩
def dLaw : He.DefD := ⟨("law", none), "law", "law", defArgs sLaw, defBody sLaw, defScope sLaw, [], []⟩
def fn : List He.DefD := [dLabelsBetween, dLawDraws, dLawTake, dLawSame, dLawLabel, dLawDue, dLaw]
def fa : List He.Fa := [.glo "labels_between", .glo "_law_draws", .glo "_law_take", .glo "_law_same", .glo "_law_label", .glo "_law_due", .glo "law", .free "abs", .free "bool", .free "int", .free "isinstance", .free "len", .free "list", .free "range", .free "reversed", .free "str", .free "tuple"]
def loose0 : List Str := ["labels_between", "_law_draws", "_law_take", "_law_same", "_law_label", "_law_due"]
abbrev loose : List Str := loose0
abbrev R : PySem.W.OpenRow := PySem.W.OpenLaw.row PySem.Challenge.rw_sixdot_k45_labels_between_others
abbrev hk : PySem.W.Hook := He.hookD 5 fa fn
def ob (s : PySem.W.SharedT) : He.AlD := He.obsDG 5 fa fn (HandSHeadRun.getT s)
theorem ob_eq (s : PySem.W.SharedT) : ob s = hk.obs s.abs := He.obsDG_eq (HandSHeadRun.getT_eq s)
theorem run (w : World) : HandSHeadRun.RunEq R (PySem.W.view R.prog [8]) hk ob 4000 loose w := by
  intro os
  kernel_rfl
end Sx

set_option Elab.async false
set_option linter.all false
set_option maxRecDepth 100000
set_option maxHeartbeats 4000000
namespace Sx
open PySem PySem.Spec PyProof.Rows L2
/-- what stands behind the top -/
structure T (K : PySem.W.Frag) (mg : Str → Option Value) : Prop where
  c : He.SaysD fa fn K
  g : ∃ h : Heap, K.In h ∧ h.Ns mainGlobals mg
section
variable {K : PySem.W.Frag} {mg : Str → Option Value}

theorem T.g_labels_between (t : T K mg) : mg "labels_between" = some (.ref (He.ga K "labels_between")) := by
  obtain ⟨h, X, G⟩ := t.g
  exact He.glo_ok X G (t.c.fact 0 (f := .glo "labels_between") rfl)
theorem T.g_law_draws (t : T K mg) : mg "_law_draws" = some (.ref (He.ga K "_law_draws")) := by
  obtain ⟨h, X, G⟩ := t.g
  exact He.glo_ok X G (t.c.fact 1 (f := .glo "_law_draws") rfl)
theorem T.g_law_take (t : T K mg) : mg "_law_take" = some (.ref (He.ga K "_law_take")) := by
  obtain ⟨h, X, G⟩ := t.g
  exact He.glo_ok X G (t.c.fact 2 (f := .glo "_law_take") rfl)
theorem T.g_law_same (t : T K mg) : mg "_law_same" = some (.ref (He.ga K "_law_same")) := by
  obtain ⟨h, X, G⟩ := t.g
  exact He.glo_ok X G (t.c.fact 3 (f := .glo "_law_same") rfl)
theorem T.g_law_label (t : T K mg) : mg "_law_label" = some (.ref (He.ga K "_law_label")) := by
  obtain ⟨h, X, G⟩ := t.g
  exact He.glo_ok X G (t.c.fact 4 (f := .glo "_law_label") rfl)
theorem T.g_law_due (t : T K mg) : mg "_law_due" = some (.ref (He.ga K "_law_due")) := by
  obtain ⟨h, X, G⟩ := t.g
  exact He.glo_ok X G (t.c.fact 5 (f := .glo "_law_due") rfl)
theorem T.g_law (t : T K mg) : mg "law" = some (.ref (He.ga K "law")) := by
  obtain ⟨h, X, G⟩ := t.g
  exact He.glo_ok X G (t.c.fact 6 (f := .glo "law") rfl)
theorem T.f_abs (t : T K mg) : mg "abs" = none := by
  obtain ⟨h, X, G⟩ := t.g
  exact He.free_ok X G (t.c.fact 7 (f := .free "abs") rfl)
theorem T.f_bool (t : T K mg) : mg "bool" = none := by
  obtain ⟨h, X, G⟩ := t.g
  exact He.free_ok X G (t.c.fact 8 (f := .free "bool") rfl)
theorem T.f_int (t : T K mg) : mg "int" = none := by
  obtain ⟨h, X, G⟩ := t.g
  exact He.free_ok X G (t.c.fact 9 (f := .free "int") rfl)
theorem T.f_isinstance (t : T K mg) : mg "isinstance" = none := by
  obtain ⟨h, X, G⟩ := t.g
  exact He.free_ok X G (t.c.fact 10 (f := .free "isinstance") rfl)
theorem T.f_len (t : T K mg) : mg "len" = none := by
  obtain ⟨h, X, G⟩ := t.g
  exact He.free_ok X G (t.c.fact 11 (f := .free "len") rfl)
theorem T.f_list (t : T K mg) : mg "list" = none := by
  obtain ⟨h, X, G⟩ := t.g
  exact He.free_ok X G (t.c.fact 12 (f := .free "list") rfl)
theorem T.f_range (t : T K mg) : mg "range" = none := by
  obtain ⟨h, X, G⟩ := t.g
  exact He.free_ok X G (t.c.fact 13 (f := .free "range") rfl)
theorem T.f_reversed (t : T K mg) : mg "reversed" = none := by
  obtain ⟨h, X, G⟩ := t.g
  exact He.free_ok X G (t.c.fact 14 (f := .free "reversed") rfl)
theorem T.f_str (t : T K mg) : mg "str" = none := by
  obtain ⟨h, X, G⟩ := t.g
  exact He.free_ok X G (t.c.fact 15 (f := .free "str") rfl)
theorem T.f_tuple (t : T K mg) : mg "tuple" = none := by
  obtain ⟨h, X, G⟩ := t.g
  exact He.free_ok X G (t.c.fact 16 (f := .free "tuple") rfl)
theorem T.d_labels_between (t : T K mg) : Fd K "labels_between" sLabelsBetween := t.c.def_ 0 (d := dLabelsBetween) rfl
theorem T.d_law_draws (t : T K mg) : Fd K "_law_draws" sLawDraws := t.c.def_ 1 (d := dLawDraws) rfl
theorem T.d_law_take (t : T K mg) : Fd K "_law_take" sLawTake := t.c.def_ 2 (d := dLawTake) rfl
theorem T.d_law_same (t : T K mg) : Fd K "_law_same" sLawSame := t.c.def_ 3 (d := dLawSame) rfl
theorem T.d_law_label (t : T K mg) : Fd K "_law_label" sLawLabel := t.c.def_ 4 (d := dLawLabel) rfl
theorem T.d_law_due (t : T K mg) : Fd K "_law_due" sLawDue := t.c.def_ 5 (d := dLawDue) rfl
theorem T.d_law (t : T K mg) : Fd K "law" sLaw := t.c.def_ 6 (d := dLaw) rfl
end
end Sx

set_option Elab.async false
set_option linter.all false
set_option maxRecDepth 100000
set_option maxHeartbeats 1000000
namespace Sx
open PySem PySem.Spec PyProof.Rows L2 SxA
/-! ### draws: a list of ints, of which one is taken -/
def Dr (H : Hp) (a : Addr) : Prop := ∃ ns : List Int, H a = some (.lst (ns.map V.int))
def DrL (H : Hp) (a : Addr) (n : Nat) : Prop := ∃ ns : List Int, H a = some (.lst (ns.map V.int)) ∧ ns.length ≤ n
theorem Dr.has {H : Hp} {a : Addr} (h : Dr H a) : ∃ o, H a = some o := ⟨_, h.choose_spec⟩
theorem Dr.ne {H : Hp} {a D : Addr} (h : Dr H a) (hD : H D = none) : a ≠ D := ne_of_none h.choose_spec hD
theorem Dr.put {H : Hp} {a D : Addr} {o : HO} (h : Dr H a) (n : a ≠ D) : Dr (upd H D o) a := by
  obtain ⟨ns, e⟩ := h
  exact ⟨ns, by rw [upd_ne n]; exact e⟩
theorem Dr.new {H : Hp} {a D : Addr} {o : HO} (h : Dr H a) (hD : H D = none) : Dr (upd H D o) a := h.put (h.ne hD)
theorem Dr.same {H H' : Hp} {a : Addr} (h : Dr H a) (s : Same H H') : Dr H' a := by
  obtain ⟨ns, e⟩ := h
  exact ⟨ns, s _ _ e⟩
theorem But.new {a : Addr} {H H' : Hp} {p : Addr} {o : HO} (b : But a H H') (hp : H p = Option.none) : But a H (upd H' p o) := fun c u e n => by
  rw [upd_ne (ne_of_none e hp)]
  exact b c u e n
theorem But.same {a : Addr} {H H1 H2 : Hp} (b : But a H H1) (s : Same H1 H2) : But a H H2 := b.trans (But.of s)
def spTake : Sp := fun vs H Q _ => ∃ (a : Addr) (m : Int), vs = [.ref a, .int m] ∧ Dr H a ∧ 0 < m ∧ ∀ v H', 0 ≤ v → v < m → Dr H' a → But a H H' → Q (.int v) H'
def spDraws (K : PySem.W.Frag) : Sp := fun vs H Q _ => ∃ (a : Addr) (ns : List Int), vs = [.ref a] ∧ SqL K H a (ns.map V.int) ∧ ns.length ≤ 63 ∧ ∀ p H', H p = none → Same H H' → Dr H' p → Q (.ref p) H'
section
variable {P : Program} {w : World} {K : PySem.W.Frag} {mg : Str → Option Value} {base : Heap}
abbrev nsLawTake : List Str := ["draws", "bound"]
theorem scLawTake : FnScope nsLawTake ["draws", "bound"] (defScope sLawTake) := ⟨rfl, rfl, rfl, by decide +kernel, rfl, by decide +kernel, by decide +kernel⟩
theorem ok_law_take (t : T K mg) : Ok P w K mg base 1 "_law_take" ["draws", "bound"] spTake := by
  refine mkOk t.d_law_take t.g_law_take scLawTake (fun vs H Q E h => ?_) (fun _ _ _ _ _ _ us hl => match us, hl with | [_, _], _ => rfl) fun cdv A outer s H vs Q E hr h => ?_
  · obtain ⟨a, m, rfl, _⟩ := h; rfl
  obtain ⟨a, m, rfl, ⟨ns, hn⟩, m0, k⟩ := h
  refine ⟨_, pss_cons (ps_if (pt_cmpR op_eq (pe_callB call_len_seq rfl t.f_len boot_len (pa_cons (pv 0) pa_nil)) pe_int (nomark _))
      (pss_one (ps_ret pe_int))
      pss_nil)
    (pss_one (ps_ret (pe_op op_mod (pe_callTy call_int1 rfl t.f_int (by decide +kernel) (pa_cons (pe_bm0 PySem.F.plainAttrs_list PySem.F.slot_list_pop PySem.F.type_list_pop mt_pop (pv 0)) pa_nil)) (pv 1)))), ?_⟩
  refine ⟨_, rfl, a, _, rfl, .inl (SqL.of hn), rfl, _, rfl, ?_⟩
  refine ite2 (fun h1 => k 0 H (Int.le_refl _) m0 ⟨ns, hn⟩ (But.refl _ _)) (fun h1 => ?_)
  have hl : 0 < ns.length := by
    cases ns with
    | nil => exact absurd rfl h1
    | cons x r => exact Nat.succ_pos _
  have hlast : (ns.map V.int)[(ns.map V.int).length - 1]? = some (.int (ns[ns.length - 1]'(by omega))) := by
    rw [List.length_map, List.getElem?_map, List.getElem?_eq_getElem (by omega)]
    rfl
  refine ⟨_, rfl, .inl ⟨rfl, _, SqL.of hn⟩, a, _, _, rfl, rfl, hn, hlast, .inl ⟨_, rfl, ?_⟩⟩
  refine ⟨_, rfl, _, _, rfl, rfl, m0, k _ _ (Int.emod_nonneg _ (by omega)) (Int.emod_lt_of_pos _ m0) ⟨ns.dropLast, ?_⟩ (But.put _ _ _)⟩
  rw [upd_same, List.map_dropLast]
abbrev nsLawDraws : List Str := ["script", "draws", "cell", "number", "first", "k", "seed"]
theorem scLawDraws : FnScope nsLawDraws ["script"] (defScope sLawDraws) := ⟨rfl, rfl, rfl, by decide +kernel, rfl, by decide +kernel, by decide +kernel⟩
theorem DrL.push {H : Hp} {D : Addr} {ns : List Int} {z : Int} {n : Nat} (h : ns.length ≤ n) : DrL (upd H D (.lst (ns.map V.int ++ [V.int z]))) D (n + 1) := ⟨ns ++ [z], by rw [upd_same, List.map_append]; rfl, by rw [List.length_append]; exact Nat.succ_le_succ h⟩
theorem smallL {ns : List Int} {n : Nat} (h : ns.length ≤ n) (hn : n ≤ 100000) : (ns.map V.int).length < sizeLine := by
  rw [List.length_map]
  exact Nat.lt_of_le_of_lt h (Nat.lt_of_le_of_lt hn (by decide))
theorem ok_law_draws (t : T K mg) : Ok P w K mg base 1 "_law_draws" ["script"] (spDraws K) := by
  refine mkOk t.d_law_draws t.g_law_draws scLawDraws (fun vs H Q E h => ?_) (fun _ _ _ _ _ _ us hl => match us, hl with | [_], _ => rfl) fun cdv A outer s H vs Q E hr h => ?_
  · obtain ⟨a, ns, rfl, _⟩ := h; rfl
  obtain ⟨sc, zs, rfl, hS, hlen, k⟩ := h
  refine ⟨_, pss_cons (ps_set (i := 1) scLawDraws.nd rfl (Or.inl rfl) (pe_lst pa_nil))
    (pss_cons (ps_for PassesOwn.never rfl (pi_list (pv 0)) (pg_name (i := 2) scLawDraws.nd rfl (Or.inl rfl))
      (pss_cons (ps_set (i := 3) scLawDraws.nd rfl (Or.inl rfl) (pe_callB call_abs rfl t.f_abs (by decide +kernel) (pa_cons (pv 2) pa_nil)))
    (C8.pss_cut (ps_if (pt_cmpR op_lt (pv 3) (pe_op op_pow pe_int pe_int) (nomark _))
      (pss_cons (ps_set (i := 4) scLawDraws.nd rfl (Or.inl rfl) (pe_op op_mod (pe_callTy call_int1 rfl t.f_int (by decide +kernel) (pa_cons (pe_op op_add (pe_op op_mul (pv 3) pe_int) pe_int) pa_nil)) pe_int))
    (pss_cons (ps_expr (pe_bm PySem.F.plainAttrs_list PySem.F.slot_list_append PySem.F.type_list_append mt_append (pv 1) (pa_cons (pe_op op_mod (pe_callTy call_int1 rfl t.f_int (by decide +kernel) (pa_cons (pe_op op_add (pe_op op_mul (pv 4) pe_int) (pv 3)) pa_nil)) pe_int) pa_nil)))
    (pss_cons (ps_expr (pe_bm PySem.F.plainAttrs_list PySem.F.slot_list_append PySem.F.type_list_append mt_append (pv 1) (pa_cons (pe_op op_mod (pe_callTy call_int1 rfl t.f_int (by decide +kernel) (pa_cons (pe_op op_add (pv 4) (pe_op op_fdiv (pv 3) pe_int)) pa_nil)) pe_int) pa_nil)))
    (pss_one (ps_set (i := 3) scLawDraws.nd rfl (Or.inl rfl) pe_int)))))
      pss_nil)
    (pss_one (ps_for PassesOwn.never rfl (pi_range1 rfl t.f_range (pa_cons pe_int pa_nil)) (pg_name (i := 5) scLawDraws.nd rfl (Or.inl rfl))
      (pss_one (ps_if (pt_cmpR op_gt (pv 3) pe_int (nomark _))
      (pss_cons (ps_expr (pe_bm PySem.F.plainAttrs_list PySem.F.slot_list_append PySem.F.type_list_append mt_append (pv 1) (pa_cons (pe_op op_mod (pe_callTy call_int1 rfl t.f_int (by decide +kernel) (pa_cons (pv 3) pa_nil)) pe_int) pa_nil)))
    (pss_one (ps_set (i := 3) scLawDraws.nd rfl (Or.inl rfl) (pe_op op_fdiv (pv 3) pe_int))))
      pss_nil)))))))
    (pss_cons (ps_set (i := 6) scLawDraws.nd rfl (Or.inl rfl) pe_int)
    (C8.pss_cut (ps_if (pt_cmpR op_gt (pe_callB call_len_seq rfl t.f_len boot_len (pa_cons (pv 0) pa_nil)) pe_int (nomark _))
      (pss_one (ps_set (i := 6) scLawDraws.nd rfl (Or.inl rfl) (pe_op op_add pe_int (pe_callB call_abs rfl t.f_abs (by decide +kernel) (pa_cons (pe_ix ix_list (pv 0) pe_int (fun _ _ => rfl)) pa_nil)))))
      pss_nil)
    (pss_cons (ps_for PassesOwn.never rfl (pi_range1 rfl t.f_range (pa_cons pe_int pa_nil)) (pg_name (i := 5) scLawDraws.nd rfl (Or.inl rfl))
      (pss_cons (ps_set (i := 6) scLawDraws.nd rfl (Or.inl rfl) (pe_op op_mod (pe_callTy call_int1 rfl t.f_int (by decide +kernel) (pa_cons (pe_op op_add (pe_op op_mul (pv 6) pe_int) pe_int) pa_nil)) pe_int))
    (pss_one (ps_expr (pe_bm PySem.F.plainAttrs_list PySem.F.slot_list_append PySem.F.type_list_append mt_append (pv 1) (pa_cons (pe_op op_fdiv (pv 6) pe_int) pa_nil))))))
    (pss_one (ps_ret (pe_listRev rfl t.f_list rfl t.f_reversed (pv 1)))))))), ?_⟩
  refine ⟨(by show 0 ≤ sizeLine; decide), fun D hD => ?_⟩
  refine ⟨_, rfl, sc, rfl, ⟨_, (Same.new hD).seq hS⟩, ?_⟩
  refine for_list (K := K) (a := sc) (xs := zs.map V.int) (fun i σ' H' => (∃ o2 o3 o4 o5 : Option V, σ' = [some (.ref sc), some (.ref D), o2, o3, o4, o5, none]) ∧ DrL H' D (62 * i) ∧ Same H H') ⟨⟨_, _, _, _, rfl⟩, ⟨[], upd_same, Nat.le_refl _⟩, Same.new hD⟩ (fun i σ' H' _ p => p.2.2.seq hS) ?_ ?_
  · rintro i x σ' H' hx ⟨⟨o2, o3, o4, o5, rfl⟩, ⟨ds, hds, hdl⟩, s1⟩
    obtain ⟨z, rfl⟩ : ∃ z : Int, x = .int z := by
      rw [List.getElem?_map] at hx
      cases q : zs[i]? with
      | none => rw [q] at hx; cases hx
      | some z => rw [q] at hx; exact ⟨z, (Option.some.inj hx).symm⟩
    have il : i < 63 := by
      have := (List.getElem?_eq_some_iff.mp hx).1
      rw [List.length_map] at this
      omega
    refine ⟨_, rfl, _, rfl, ?_⟩
    generalize (if z < 0 then -z else z) = n
    refine ⟨fun σ2 H2 => (∃ (m : Int) (o4 : Option V), σ2 = [some (.ref sc), some (.ref D), some (.int z), some (.int m), o4, o5, none]) ∧ DrL H2 D (62 * i + 2) ∧ Same H H2, ?_, ?_⟩
    · refine ⟨_, rfl, _, _, rfl, rfl, ⟨by decide, by decide, by decide⟩, _, _, rfl, rfl, _, rfl, ?_⟩
      refine ite2 (fun h1 => ?_) (fun h1 => ⟨⟨_, _, rfl⟩, ⟨ds, hds, by omega⟩, s1⟩)
      refine ⟨_, rfl, _, _, rfl, rfl, .inr (by decide), _, _, rfl, rfl, .inl ⟨_, rfl, ?_⟩⟩
      refine ⟨_, _, rfl, rfl, (by show (0 : Int) < 2147483647; decide), ?_⟩
      refine ⟨_, rfl, .inl ⟨rfl, _, SqL.of hds⟩, _, rfl, _, _, rfl, rfl, .inr (by decide), _, rfl, _, _, rfl, rfl, .inl ⟨_, rfl, ?_⟩⟩
      refine ⟨_, _, rfl, rfl, (by show (0 : Int) < 2147483629; decide), ?_⟩
      refine ⟨D, _, _, rfl, rfl, hds, smallL hdl (by omega), ?_⟩
      refine ⟨_, rfl, .inl ⟨rfl, _, SqL.of upd_same⟩, _, rfl, _, rfl, _, _, rfl, rfl, ⟨by decide, by decide⟩, _, _, rfl, rfl, .inl ⟨_, rfl, ?_⟩⟩
      refine ⟨_, _, rfl, rfl, (by show (0 : Int) < 1000003; decide), ?_⟩
      refine ⟨D, _, _, rfl, rfl, upd_same, ?_, ⟨⟨_, _, rfl⟩, ⟨ds ++ [_] ++ [_], by rw [upd_same, List.map_append, List.map_append]; rfl, by rw [List.length_append, List.length_append]; simp; omega⟩, ?_⟩⟩
      · rw [List.length_append]
        have := smallL (n := 62 * i) hdl (by omega)
        have e : (62 * i + 1) < sizeLine := Nat.lt_of_le_of_lt (show 62 * i + 1 ≤ 100000 by omega) (by decide)
        rw [List.length_map]
        exact Nat.lt_of_le_of_lt (Nat.succ_le_succ hdl) e
      · exact Same.put (Same.put s1 hD) hD
    · rintro σ2 H2 ⟨⟨m, o4, rfl⟩, ⟨ds, hds, hdl⟩, s1⟩
      refine ⟨60, rfl, by decide, by decide, ?_⟩
      refine for_range (lo := 0) (n := 60) (fun j σ3 H3 => (∃ (m : Int) (o5 : Option V), σ3 = [some (.ref sc), some (.ref D), some (.int z), some (.int m), o4, o5, none]) ∧ DrL H3 D (62 * i + 2 + j) ∧ Same H H3) ⟨⟨_, _, rfl⟩, ⟨ds, hds, hdl⟩, s1⟩ ?_ ?_
      · rintro j σ3 H3 hj ⟨⟨m, o5, rfl⟩, ⟨ds, hds, hdl⟩, s1⟩
        refine ⟨_, rfl, _, _, rfl, rfl, _, rfl, ?_⟩
        refine ite2 (fun h1 => ?_) (fun h1 => ⟨⟨_, _, rfl⟩, ⟨ds, hds, by omega⟩, s1⟩)
        refine ⟨_, rfl, .inl ⟨rfl, _, SqL.of hds⟩, _, rfl, .inl ⟨_, rfl, ?_⟩⟩
        refine ⟨_, _, rfl, rfl, (by show (0 : Int) < 997; decide), ?_⟩
        refine ⟨D, _, _, rfl, rfl, hds, smallL hdl (by omega), ?_⟩
        refine ⟨_, rfl, _, _, rfl, rfl, ⟨by decide, by decide⟩, ⟨_, _, rfl⟩, DrL.push hdl, Same.put s1 hD⟩
      · rintro σ3 H3 ⟨⟨m, o5, rfl⟩, ⟨ds, hds, hdl⟩, s1⟩
        exact ⟨⟨_, _, _, _, rfl⟩, ⟨ds, hds, by omega⟩, s1⟩
  rintro σ' H' ⟨⟨o2, o3, o4, o5, rfl⟩, ⟨ds, hds, hdl⟩, s1⟩
  rw [List.length_map] at hdl
  refine ⟨fun σ2 H2 => (∃ m : Int, σ2 = [some (.ref sc), some (.ref D), o2, o3, o4, o5, some (.int m)]) ∧ H2 = H', ?_, ?_⟩
  · refine ⟨_, rfl, sc, _, rfl, .inl (s1.seq hS), _, _, rfl, rfl, _, rfl, ?_⟩
    refine ite2 (fun h1 => ?_) (fun h1 => ⟨⟨_, rfl⟩, rfl⟩)
    cases zs with
    | nil => exact absurd h1 (by decide)
    | cons z r => exact ⟨_, rfl, sc, _, _, .int z, rfl, rfl, s1.seq hS, atI_nat (j := 0) rfl, _, rfl, _, _, rfl, rfl, ⟨_, rfl⟩, rfl⟩
  rintro σ2 H2 ⟨⟨m, rfl⟩, rfl⟩
  refine ⟨240, rfl, by decide, by decide, ?_⟩
  refine for_range (lo := 0) (n := 240) (fun j σ3 H3 => (∃ (m : Int) (o5 : Option V), σ3 = [some (.ref sc), some (.ref D), o2, o3, o4, o5, some (.int m)]) ∧ DrL H3 D (62 * 63 + j) ∧ Same H H3) ⟨⟨_, _, rfl⟩, ⟨ds, hds, by omega⟩, s1⟩ ?_ ?_
  · rintro j σ3 H3 hj ⟨⟨m, o5, rfl⟩, ⟨ds, hds, hdl⟩, s1⟩
    refine ⟨_, rfl, _, _, rfl, rfl, .inr (by decide), _, _, rfl, rfl, .inl ⟨_, rfl, ?_⟩⟩
    refine ⟨_, _, rfl, rfl, (by show (0 : Int) < 2147483647; decide), ?_⟩
    refine ⟨_, rfl, .inl ⟨rfl, _, SqL.of hds⟩, _, rfl, _, _, rfl, rfl, ⟨by decide, by decide⟩, ?_⟩
    exact ⟨D, _, _, rfl, rfl, hds, smallL hdl (by omega), ⟨⟨_, _, rfl⟩, DrL.push hdl, Same.put s1 hD⟩⟩
  · rintro σ3 H3 ⟨⟨m, o5, rfl⟩, ⟨ds, hds, hdl⟩, s1⟩
    refine ⟨_, rfl, D, _, rfl, SqL.of hds, fun q hq => ?_⟩
    exact k q _ (Sx.Same.none s1 _ hq) (Same.put s1 (Sx.Same.none s1 _ hq)) ⟨ds.reverse, by rw [upd_same, List.map_reverse]⟩
end
end Sx

set_option Elab.async false
set_option linter.all false
set_option maxRecDepth 100000
set_option maxHeartbeats 1000000
namespace Sx
open PySem PySem.Spec PyProof.Rows L2 SxA HT
/-! ### tuples of ints -/
abbrev ti (ns : List Int) : HO := .tup (ns.map V.int)
section
variable {K : PySem.W.Frag} {H : Hp} {Q : VK}
def pTupI (cs : List Int) : PyData := .tuple (cs.map PyData.int)
theorem eqv_tupI (xs ys : List Int) : PyData.eqv (pTupI xs) (pTupI ys) = decide (xs = ys) := by
  unfold pTupI
  rw [PyData.eqv]
  exact eqvAll_ints xs ys
theorem shaped_tupI (xs : List Int) : SeqAt.shaped (pTupI xs) = true := by
  unfold SeqAt.shaped pTupI
  rw [PyData.canLay0, lay_ints, PyData.depth]
  have := dep_ints xs
  simp
  omega
theorem eqT {p q : Addr} {xs ys : List Int} (h1 : H p = some (ti xs)) (h2 : H q = some (ti ys)) (k : Q (.bl (decide (xs = ys))) H) : rEqD K (.ref p) (.ref q) H Q := by
  refine ⟨pTupI xs, pTupI ys, .tup (SqT.of h1) (dpAll_ints K H xs), .tup (SqT.of h2) (dpAll_ints K H ys), shaped_tupI _, shaped_tupI _, ?_⟩
  rw [eqv_tupI]
  exact k
theorem eqL {p q : Addr} {xs ys : List Int} (h1 : H p = some (.lst (xs.map V.int))) (h2 : H q = some (.lst (ys.map V.int))) (k : Q (.bl (decide (xs = ys))) H) : rEqD K (.ref p) (.ref q) H Q := by
  refine ⟨pInts xs, pInts ys, dp_ints (SqL.of h1), dp_ints (SqL.of h2), shaped_ints _, shaped_ints _, ?_⟩
  rw [eqv_ints]
  exact k
theorem slT_to {a : Addr} {xs : List V} {m : Nat} (h : H a = some (.tup xs)) (k : ∀ p H', Same H H' → H' p = some (.tup (xs.take m)) → Q (.ref p) H') : rSlA K (.ref a) none (some (m : Int)) H Q := by
  refine ⟨a, xs, rfl, SqT.of h, fun w => k a H (Same.refl H) ?_, fun _ p hp => k p _ (Same.new hp) ?_⟩
  · rw [sIx_nat] at w
    rw [h, List.take_of_length_le (by omega)]
  · rw [upd_same]
    show some (HO.tup ((xs.drop (HT.sIx xs.length 0 none)).take (HT.sIx xs.length xs.length (some (m : Int)) - HT.sIx xs.length 0 none))) = _
    rw [sIx_nat, sIx_none, List.drop_zero, Nat.sub_zero, ← List.take_eq_take_min]
theorem slT_from {a : Addr} {xs : List V} {m : Nat} (h : H a = some (.tup xs)) (k : ∀ p H', Same H H' → H' p = some (.tup (xs.drop m)) → Q (.ref p) H') : rSlA K (.ref a) (some (m : Int)) none H Q := by
  refine ⟨a, xs, rfl, SqT.of h, fun w => k a H (Same.refl H) ?_, fun _ p hp => k p _ (Same.new hp) ?_⟩
  · rw [sIx_nat] at w
    have : m = 0 ∨ xs = [] := by
      cases xs with
      | nil => exact .inr rfl
      | cons x r => left; have := w.1; rw [List.length_cons] at this; omega
    rcases this with rfl | rfl
    · rw [h, List.drop_zero]
    · rw [h]; simp
  · rw [upd_same]
    show some (HO.tup ((xs.drop (HT.sIx xs.length 0 (some (m : Int)))).take (HT.sIx xs.length xs.length none - HT.sIx xs.length 0 (some (m : Int))))) = _
    rw [sIx_nat, sIx_none]
    congr 2
    rw [List.take_of_length_le (by rw [List.length_drop]; omega)]
    by_cases q : m ≤ xs.length
    · rw [Nat.min_eq_left q]
    · rw [Nat.min_eq_right (by omega), List.drop_eq_nil_of_le (Nat.le_refl _), List.drop_eq_nil_of_le (by omega)]
theorem slT_both {a : Addr} {xs : List V} {m n : Nat} (h : H a = some (.tup xs)) (k : ∀ p H', Same H H' → H' p = some (.tup ((xs.take n).drop m)) → Q (.ref p) H') : rSlA K (.ref a) (some (m : Int)) (some (n : Int)) H Q := by
  have e : (xs.drop (min m xs.length)).take (min n xs.length - min m xs.length) = (xs.take n).drop m := by
    rw [List.drop_take]
    by_cases q : m ≤ xs.length
    · rw [Nat.min_eq_left q]
      by_cases q2 : n ≤ xs.length
      · rw [Nat.min_eq_left q2]
      · rw [Nat.min_eq_right (by omega)]
        rw [List.take_of_length_le (by rw [List.length_drop]; omega), List.take_of_length_le (by rw [List.length_drop]; omega)]
    · rw [Nat.min_eq_right (show xs.length ≤ m by omega), List.drop_eq_nil_of_le (Nat.le_refl _), List.drop_eq_nil_of_le (show xs.length ≤ m by omega)]
      simp
  refine ⟨a, xs, rfl, SqT.of h, fun w => k a H (Same.refl H) ?_, fun _ p hp => k p _ (Same.new hp) ?_⟩
  · rw [sIx_nat, sIx_nat] at w
    rw [h, ← e, w.1, w.2]
    simp
  · rw [upd_same]
    show some (HO.tup ((xs.drop (HT.sIx xs.length 0 (some (m : Int)))).take (HT.sIx xs.length xs.length (some (n : Int)) - HT.sIx xs.length 0 (some (m : Int))))) = _
    rw [sIx_nat, sIx_nat, e]
theorem catT {p q : Addr} {xs ys : List V} (h1 : H p = some (.tup xs)) (h2 : H q = some (.tup ys)) (hl : xs.length + ys.length ≤ sizeLine) (k : ∀ r H', Same H H' → H' r = some (.tup (xs ++ ys)) → Q (.ref r) H') : rCatA K (.ref p) (.ref q) H Q := by
  refine ⟨p, q, xs, ys, rfl, rfl, SqT.of h1, SqT.of h2, hl, fun e => k q H (Same.refl H) ?_, fun _ e => k p H (Same.refl H) ?_, fun _ _ r hr => k r _ (Same.new hr) upd_same⟩
  · rw [h2, e]; rfl
  · rw [h1, e, List.append_nil]
theorem op_catK {X : Cx} {K : PySem.W.Frag} (h : X.K = K) : OpR X (binaryOp .Add) (rCatA K) := by
  subst h
  exact op_catA
theorem sl_tupK {X : Cx} {K : PySem.W.Frag} (h : X.K = K) : SlR X (rSlA K) := by
  subst h
  exact sl_tupA
/-- [F(x) for x in t if f(x)], t a tuple; the test and the element change nothing -/
theorem lc_tupF {K : PySem.W.Frag} {a : Addr} {xs : List V} {f : V → Bool} {F : V → V} {tt : TT} {te : TE} {i0 : Nat} {vs : List Nat} {σ : L2.St} {H1 : Hp} {D : Addr} {Qd : Hp → Prop} (hD : H1 D = none) (ha : H1 a = some (.tup xs)) (hn : xs.length ≤ sizeLine)
    (hw : ∀ u : V, wipe ((wipe σ vs).set i0 (some u)) vs = wipe σ vs)
    (ht : ∀ (x : V) (H : Hp) (Q : Bool → Hp → Prop), x ∈ xs → Same H1 H → Q (f x) H → tt ((wipe σ vs).set i0 (some x)) H Q)
    (he : ∀ (x : V) (H : Hp) (Q : VK), x ∈ xs → Same H1 H → Q (F x) H → te ((wipe σ vs).set i0 (some x)) H Q)
    (hd : ∀ H, Same H1 H → H D = some (.lst ((xs.filter f).map F)) → Qd H) :
    ∃ W : Nat → Nat → Hp → Prop, (∃ m, W 0 m (upd H1 D (.lst []))) ∧ ∀ i m H, W i m H → ((Itt K a).stop i H ∧ Qd H) ∨ ((Itt K a).go i H ∧ ∃ Nx : Hp → Prop, (∀ H', Nx H' → ∃ m', m' < m ∧ W (i + 1) m' H') ∧
      ∀ x H', (Itt K a).yld i H x H' → (gName i0) x (wipe σ vs) H' fun σ2 H2 => wipe σ2 vs = wipe σ vs ∧ tt σ2 H2 fun b H3 => if b = true then te σ2 H3 fun y H4 => ∃ acc, H4 D = some (.lst acc) ∧ acc.length < sizeLine ∧ Nx (upd H4 D (.lst (acc ++ [y]))) else Nx H3) := by
  refine lc_tup (K := K) (a := a) (xs := xs) (g := gName i0) (tt := tt) (te := te) (fun i H => Same H1 H ∧ H D = some (.lst (((xs.take i).filter f).map F))) ⟨Same.new hD, upd_same⟩ (fun i H _ p => SqT.of (p.1 _ _ ha)) ?_ (fun H p => hd H p.1 (by rw [p.2, List.take_length]))
  rintro i x H hx ⟨sm, hH⟩
  have il := (List.getElem?_eq_some_iff.mp hx).1
  have tk : xs.take (i + 1) = xs.take i ++ [x] := by rw [List.take_add_one, hx]; rfl
  have mem : x ∈ xs := List.mem_of_getElem? hx
  refine ⟨hw x, ht x H _ mem sm ?_⟩
  by_cases h : f x = true
  · rw [if_pos h]
    refine he x H _ mem sm ⟨_, hH, ?_, Same.put sm hD, ?_⟩
    · rw [List.length_map]
      have := List.length_filter_le f (xs.take i)
      rw [List.length_take] at this
      omega
    · rw [upd_same, tk, List.filter_append, List.map_append]
      simp [List.filter_cons, h]
  · rw [if_neg h]
    refine ⟨sm, ?_⟩
    rw [hH, tk, List.filter_append, List.map_append]
    simp [List.filter_cons, h]
/-- [F(x) for x in t if f(x)], t a list; the test and the element change nothing -/
theorem lc_listF {K : PySem.W.Frag} {a : Addr} {xs : List V} {f : V → Bool} {F : V → V} {tt : TT} {te : TE} {i0 : Nat} {vs : List Nat} {σ : L2.St} {H1 : Hp} {D : Addr} {Qd : Hp → Prop} (hD : H1 D = none) (ha : H1 a = some (.lst xs)) (hn : xs.length ≤ sizeLine)
    (hw : ∀ u : V, wipe ((wipe σ vs).set i0 (some u)) vs = wipe σ vs)
    (ht : ∀ (x : V) (H : Hp) (Q : Bool → Hp → Prop), x ∈ xs → Same H1 H → Q (f x) H → tt ((wipe σ vs).set i0 (some x)) H Q)
    (he : ∀ (x : V) (H : Hp) (Q : VK), x ∈ xs → Same H1 H → Q (F x) H → te ((wipe σ vs).set i0 (some x)) H Q)
    (hd : ∀ H, Same H1 H → H D = some (.lst ((xs.filter f).map F)) → Qd H) :
    ∃ W : Nat → Nat → Hp → Prop, (∃ m, W 0 m (upd H1 D (.lst []))) ∧ ∀ i m H, W i m H → ((Itl K a).stop i H ∧ Qd H) ∨ ((Itl K a).go i H ∧ ∃ Nx : Hp → Prop, (∀ H', Nx H' → ∃ m', m' < m ∧ W (i + 1) m' H') ∧
      ∀ x H', (Itl K a).yld i H x H' → (gName i0) x (wipe σ vs) H' fun σ2 H2 => wipe σ2 vs = wipe σ vs ∧ tt σ2 H2 fun b H3 => if b = true then te σ2 H3 fun y H4 => ∃ acc, H4 D = some (.lst acc) ∧ acc.length < sizeLine ∧ Nx (upd H4 D (.lst (acc ++ [y]))) else Nx H3) := by
  refine lc_list (K := K) (a := a) (xs := xs) (g := gName i0) (tt := tt) (te := te) (fun i H => Same H1 H ∧ H D = some (.lst (((xs.take i).filter f).map F))) ⟨Same.new hD, upd_same⟩ (fun i H _ p => SqL.of (p.1 _ _ ha)) ?_ (fun H p => hd H p.1 (by rw [p.2, List.take_length]))
  rintro i x H hx ⟨sm, hH⟩
  have il := (List.getElem?_eq_some_iff.mp hx).1
  have tk : xs.take (i + 1) = xs.take i ++ [x] := by rw [List.take_add_one, hx]; rfl
  have mem : x ∈ xs := List.mem_of_getElem? hx
  refine ⟨hw x, ht x H _ mem sm ?_⟩
  by_cases h : f x = true
  · rw [if_pos h]
    refine he x H _ mem sm ⟨_, hH, ?_, Same.put sm hD, ?_⟩
    · rw [List.length_map]
      have := List.length_filter_le f (xs.take i)
      rw [List.length_take] at this
      omega
    · rw [upd_same, tk, List.filter_append, List.map_append]
      simp [List.filter_cons, h]
  · rw [if_neg h]
    refine ⟨sm, ?_⟩
    rw [hH, tk, List.filter_append, List.map_append]
    simp [List.filter_cons, h]
theorem call_tuple_ofK {X : Cx} {K : PySem.W.Frag} (h : X.K = K) : CallR X (.type "tuple") (fun xs H Q => ∃ p ys, xs = [.ref p] ∧ ((SqL K H p ys ∧ ∀ l, H l = none → Q (.ref l) (upd H l (.tup ys))) ∨ (SqT K H p ys ∧ Q (.ref p) H))) := by
  subst h
  exact call_tuple_of
end
end Sx

set_option Elab.async false
set_option linter.all false
set_option maxRecDepth 100000
set_option maxHeartbeats 1000000
namespace Sx
open PySem PySem.Spec PyProof.Rows L2 SxA
open HT
def lz : List Int → Nat
  | [] => 0
  | x :: r => if x = 0 then lz r + 1 else 0
def zn (b : List Int) : Option (List Int) → Nat
  | none => 0
  | some a => if a.take b.length = b then 1 + lz (a.drop b.length) else 0
def lbL (bo ao : Option (List Int)) (n : Nat) : List (List Int) := (List.range n).map fun j : Nat => (bo.getD [] ++ List.replicate (zn (bo.getD []) ao) 0) ++ [(j : Int) + 1]
/-- a label -/
def IsLb (l : List Int) : Prop := (∀ x ∈ l, (0 : Int) ≤ x) ∧ ∃ z, l.getLast? = some z ∧ 1 ≤ z
theorem lex_pre : ∀ (p x y : List Int), lexLt (p ++ x) (p ++ y) = lexLt x y
  | [], _, _ => rfl
  | a :: p, x, y => by
    show (if a = a then lexLt (p ++ x) (p ++ y) else _) = _
    rw [if_pos rfl, lex_pre p x y]
theorem lex_self (p : List Int) : ∀ (y : List Int), y ≠ [] → lexLt p (p ++ y) = true := fun y h => by
  have e := lex_pre p [] y
  rw [List.append_nil] at e
  rw [e]
  cases y with
  | nil => exact absurd rfl h
  | cons => rfl
theorem lex_total : ∀ (a b : List Int), a ≠ b → lexLt b a = false → lexLt a b = true
  | [], [], h, _ => absurd rfl h
  | [], _ :: _, _, _ => rfl
  | _ :: _, [], _, h => by cases h
  | x :: xs, y :: ys, h, g => by
    show (if x = y then lexLt xs ys else decide (x < y)) = true
    have g : (if y = x then lexLt ys xs else decide (y < x)) = false := g
    by_cases e : x = y
    · subst e
      rw [if_pos rfl] at g ⊢
      exact lex_total xs ys (fun q => h (by rw [q])) g
    · rw [if_neg e]
      rw [if_neg fun q => e q.symm] at g
      have := of_decide_eq_false g
      exact decide_eq_true (by omega)
/-- a list that does not begin with p and stands behind it stands behind all that begin with p -/
theorem lex_far : ∀ (p a s : List Int), lexLt p a = true → a.take p.length ≠ p → lexLt (p ++ s) a = true
  | [], a, s, _, h => absurd rfl h
  | x :: p, [], s, h, _ => by cases h
  | x :: p, y :: a, s, h, g => by
    have h : (if x = y then lexLt p a else decide (x < y)) = true := h
    show (if x = y then lexLt (p ++ s) a else decide (x < y)) = true
    by_cases e : x = y
    · subst e
      rw [if_pos rfl] at h ⊢
      refine lex_far p a s h fun q => g ?_
      show x :: a.take p.length = x :: p
      rw [q]
    · rw [if_neg e] at h ⊢
      exact h
theorem lz_lt : ∀ (r : List Int) (c : Int), (∀ x ∈ r, (0 : Int) ≤ x) → (∃ z, r.getLast? = some z ∧ 1 ≤ z) → lexLt (List.replicate (1 + lz r) 0 ++ [c]) r = true
  | [], c, _, h => by obtain ⟨z, h, _⟩ := h; cases h
  | x :: r, c, p, h => by
    by_cases e : x = 0
    · subst e
      have e2 : lz (0 :: r) = lz r + 1 := by show (if (0 : Int) = 0 then _ else _) = _; rw [if_pos rfl]
      rw [e2, show 1 + (lz r + 1) = (1 + lz r) + 1 by omega, List.replicate_succ]
      show (if (0 : Int) = 0 then lexLt (List.replicate (1 + lz r) 0 ++ [c]) r else _) = true
      rw [if_pos rfl]
      refine lz_lt r c (fun y hy => p y (.tail _ hy)) ?_
      obtain ⟨z, h, hz⟩ := h
      cases r with
      | nil =>
        have : (0 : Int) = z := Option.some.inj h
        omega
      | cons y r => exact ⟨z, by rw [List.getLast?_cons_cons] at h; exact h, hz⟩
    · have e2 : lz (x :: r) = 0 := by show (if x = 0 then _ else _) = _; rw [if_neg e]
      rw [e2]
      show (if (0 : Int) = x then lexLt [c] r else decide ((0 : Int) < x)) = true
      rw [if_neg fun q => e q.symm]
      have := p x (.head _)
      exact decide_eq_true (by omega)
theorem lb_up (b : List Int) (a : List Int) (c : Int) (h : b = [] ∨ lexLt b a = true) (ha : IsLb a) (s : List Int) (hs : s = List.replicate (zn b (some a)) 0) : lexLt ((b ++ s) ++ [c]) a = true := by
  subst hs
  rw [List.append_assoc]
  show lexLt (b ++ (List.replicate (if a.take b.length = b then 1 + lz (a.drop b.length) else 0) 0 ++ [c])) a = true
  by_cases e : a.take b.length = b
  · rw [if_pos e]
    have ea : a = b ++ a.drop b.length := by
      have := List.take_append_drop b.length a
      rw [e] at this
      exact this.symm
    generalize a.drop b.length = r at ea
    subst ea
    rw [lex_pre]
    refine lz_lt r c (fun x hx => ha.1 x (List.mem_append.mpr (.inr hx))) ?_
    obtain ⟨_, z, hz, z1⟩ := ha
    cases r with
    | nil =>
      rcases h with h | h
      · subst h; cases hz
      · rw [List.append_nil] at h
        have q : ∀ l : List Int, lexLt l l = false := fun l => by
          induction l with
          | nil => rfl
          | cons x l ih => show (if x = x then lexLt l l else _) = false; rw [if_pos rfl, ih]
        rw [q] at h; cases h
    | cons x r =>
      refine ⟨z, ?_, z1⟩
      rw [List.getLast?_append] at hz
      rw [List.getLast?_cons] at hz ⊢
      simpa using hz
  · rw [if_neg e]
    refine lex_far b a _ ?_ e
    rcases h with h | h
    · subst h; exact absurd rfl e
    · exact h
theorem lb_next (b s : List Int) (j : Nat) : lexLt ((b ++ s) ++ [(j : Int) + 1]) ((b ++ s) ++ [((j + 1 : Nat) : Int) + 1]) = true := by
  rw [lex_pre]
  show (if (j : Int) + 1 = ((j + 1 : Nat) : Int) + 1 then _ else decide ((j : Int) + 1 < ((j + 1 : Nat) : Int) + 1)) = true
  rw [if_neg (by omega)]
  exact decide_eq_true (by omega)
theorem lb_from (b s : List Int) (c : Int) : lexLt b ((b ++ s) ++ [c]) = true := by
  rw [List.append_assoc]
  exact lex_self b _ (by simp)
/-- the rows that the law looks at: none or one, the told ones, none or one -/
def rowsL (bo ao : Option (List Int)) (n : Nat) : List (List Int) := bo.toList ++ lbL bo ao n ++ ao.toList
theorem lbL_len (bo ao : Option (List Int)) (n : Nat) : (lbL bo ao n).length = n := by simp [lbL]
theorem lbL_at {bo ao : Option (List Int)} {n j : Nat} (h : j < n) : (lbL bo ao n)[j]? = some ((bo.getD [] ++ List.replicate (zn (bo.getD []) ao) 0) ++ [(j : Int) + 1]) := by
  unfold lbL
  rw [List.getElem?_map, List.getElem?_range h]
  rfl
/-- they ascend, and end with 1 or more -/
def Good (l : List (List Int)) : Prop := (∀ (k : Nat) x y, l[k]? = some x → l[k + 1]? = some y → lexLt x y = true) ∧ ∀ x ∈ l, ∃ z, x.getLast? = some z ∧ 1 ≤ z
theorem good_append {l m : List (List Int)} (h1 : Good l) (h2 : Good m) (h : ∀ x y, l.getLast? = some x → m.head? = some y → lexLt x y = true) : Good (l ++ m) := by
  refine ⟨fun k x y hx hy => ?_, fun x hx => (List.mem_append.mp hx).elim (h1.2 x) (h2.2 x)⟩
  by_cases q : k + 1 < l.length
  · rw [List.getElem?_append_left (by omega)] at hx
    rw [List.getElem?_append_left q] at hy
    exact h1.1 k x y hx hy
  · by_cases q2 : k < l.length
    · rw [List.getElem?_append_left q2] at hx
      rw [List.getElem?_append_right (by omega), show k + 1 - l.length = 0 by omega] at hy
      refine h x y ?_ ?_
      · rw [List.getLast?_eq_getElem?, show l.length - 1 = k by omega]; exact hx
      · rw [List.head?_eq_getElem?]; exact hy
    · rw [List.getElem?_append_right (by omega)] at hx hy
      rw [show k + 1 - l.length = (k - l.length) + 1 by omega] at hy
      exact h2.1 _ x y hx hy
theorem good_opt (o : Option (List Int)) (h : ∀ l, o = some l → IsLb l) : Good o.toList := by
  cases o with
  | none => exact ⟨fun k x y hx => by simp at hx, fun x hx => by simp at hx⟩
  | some l =>
    refine ⟨fun k x y hx hy => by simp at hy, fun x hx => ?_⟩
    have : x = l := by simpa using hx
    subst this
    exact (h x rfl).2
theorem good_rows {bo ao : Option (List Int)} {n : Nat} (hb : ∀ l, bo = some l → IsLb l) (ha : ∀ l, ao = some l → IsLb l) (hlt : ∀ b a, bo = some b → ao = some a → lexLt b a = true) : Good (rowsL bo ao n) := by
  have gm : Good (lbL bo ao n) := by
    refine ⟨fun k x y hx hy => ?_, fun x hx => ?_⟩
    · have h1 : k + 1 < n := by have := (List.getElem?_eq_some_iff.mp hy).1; rw [lbL_len] at this; exact this
      rw [lbL_at (by omega)] at hx
      rw [lbL_at h1] at hy
      obtain rfl := Option.some.inj hx
      obtain rfl := Option.some.inj hy
      exact lb_next _ _ _
    · unfold lbL at hx
      rw [List.mem_map] at hx
      obtain ⟨j, _, rfl⟩ := hx
      exact ⟨(j : Int) + 1, by simp, by omega⟩
  have gb : Good (bo.toList ++ lbL bo ao n) := by
    refine good_append (good_opt bo hb) gm fun x y hx hy => ?_
    cases bo with
    | none => cases hx
    | some b =>
      obtain rfl : b = x := by simpa using hx
      cases n with
      | zero => cases hy
      | succ n =>
        rw [List.head?_eq_getElem?, lbL_at (by omega)] at hy
        obtain rfl := Option.some.inj hy
        exact lb_from _ _ _
  refine good_append gb (good_opt ao ha) fun x y hx hy => ?_
  cases ao with
  | none => cases hy
  | some a =>
    obtain rfl : a = y := by simpa using hy
    cases n with
    | zero =>
      have e : lbL bo (some a) 0 = [] := rfl
      rw [e, List.append_nil] at hx
      cases bo with
      | none => cases hx
      | some b =>
        obtain rfl : b = x := by simpa using hx
        exact hlt _ _ rfl rfl
    | succ n =>
      have e : (bo.toList ++ lbL bo (some a) (n + 1)).getLast? = (lbL bo (some a) (n + 1)).getLast? := by
        rw [List.getLast?_append]
        rw [List.getLast?_eq_getElem? (l := lbL bo (some a) (n + 1)), lbL_len, lbL_at (by omega)]
        rfl
      rw [e, List.getLast?_eq_getElem?, lbL_len, show n + 1 - 1 = n by omega, lbL_at (by omega)] at hx
      obtain rfl := Option.some.inj hx
      refine lb_up _ a _ ?_ (ha a rfl) _ rfl
      cases bo with
      | none => exact .inl rfl
      | some b => exact .inr (hlt b a rfl rfl)
/-- the number of the beginnings of a list that have zeros alone -/
theorem lz_all : ∀ (r : List Int) (k : Nat), k < r.length → (((r.take (k + 1)).filter fun x => !decide (x = 0)) = [] ↔ k < lz r)
  | [], k, h => by cases h
  | x :: r, k, h => by
    show (((x :: r.take k).filter fun x => !decide (x = 0)) = [] ↔ k < if x = 0 then lz r + 1 else 0)
    by_cases e : x = 0
    · subst e
      rw [if_pos rfl, List.filter_cons, if_neg (by simp)]
      cases k with
      | zero => simp
      | succ k =>
        rw [lz_all r k (by simpa using h)]
        omega
    · rw [if_neg e, List.filter_cons, if_pos (by simp [e])]
      simp
theorem lz_le : ∀ r : List Int, lz r ≤ r.length
  | [] => Nat.le_refl _
  | x :: r => by
    show (if x = 0 then lz r + 1 else 0) ≤ r.length + 1
    have := lz_le r
    split <;> omega
end Sx

set_option Elab.async false
set_option linter.all false
set_option maxRecDepth 100000
set_option maxHeartbeats 1000000
namespace Sx
open PySem PySem.Spec PyProof.Rows L2 SxA
/-- None, or a tuple of ints -/
def LbO (H : Hp) (v : V) : Option (List Int) → Prop
  | none => v = .non
  | some ns => ∃ a, v = .ref a ∧ H a = some (ti ns) ∧ ns.length ≤ 100
def Lbs (H : Hp) (xs : List V) (Ls : List (List Int)) : Prop := xs.length = Ls.length ∧ ∀ (i : Nat) x L, xs[i]? = some x → Ls[i]? = some L → ∃ q, x = .ref q ∧ H q = some (ti L)
theorem LbO.same {H H' : Hp} {v : V} {o : Option (List Int)} (h : LbO H v o) (s : Same H H') : LbO H' v o := by
  cases o with
  | none => exact h
  | some ns => obtain ⟨a, rfl, e, l⟩ := h; exact ⟨a, rfl, s _ _ e, l⟩
theorem Lbs.nil (H : Hp) : Lbs H [] [] := ⟨rfl, fun i x L h => by simp at h⟩
theorem Lbs.same {H H' : Hp} {xs : List V} {Ls : List (List Int)} (h : Lbs H xs Ls) (s : Same H H') : Lbs H' xs Ls := ⟨h.1, fun i x L a b => by
  obtain ⟨q, e, hq⟩ := h.2 i x L a b
  exact ⟨q, e, s _ _ hq⟩⟩
theorem Lbs.put {H : Hp} {D : Addr} {ys : List V} {o : HO} {xs : List V} {Ls : List (List Int)} (h : Lbs H xs Ls) (hD : H D = some (.lst ys)) : Lbs (upd H D o) xs Ls := ⟨h.1, fun i x L a b => by
  obtain ⟨q, e, hq⟩ := h.2 i x L a b
  exact ⟨q, e, by rw [upd_ne (ne_of hq hD (by intro z; cases z))]; exact hq⟩⟩
theorem Lbs.snoc {H : Hp} {xs : List V} {Ls : List (List Int)} {q : Addr} {L : List Int} (h : Lbs H xs Ls) (hq : H q = some (ti L)) : Lbs H (xs ++ [.ref q]) (Ls ++ [L]) := by
  refine ⟨by rw [List.length_append, List.length_append, h.1]; rfl, fun i x M a b => ?_⟩
  by_cases lt : i < xs.length
  · rw [List.getElem?_append_left lt] at a
    rw [List.getElem?_append_left (by rw [← h.1]; exact lt)] at b
    exact h.2 i x M a b
  · rw [List.getElem?_append_right (by omega)] at a
    rw [List.getElem?_append_right (by rw [← h.1]; omega)] at b
    have hi : i - xs.length = 0 := by
      have := (List.getElem?_eq_some_iff.mp a).1
      rw [List.length_singleton] at this
      omega
    rw [hi] at a
    rw [← h.1, hi] at b
    obtain rfl := Option.some.inj a
    obtain rfl := Option.some.inj b
    exact ⟨q, rfl, hq⟩
def spLb : Sp := fun vs H Q _ => ∃ (bo ao : Option (List Int)) (b a : V) (n : Nat), vs = [b, a, .int (n : Int)] ∧ LbO H b bo ∧ LbO H a ao ∧ n ≤ 100 ∧ ∀ p xs H', Same H H' → H' p = some (.lst xs) → Lbs H' xs (lbL bo ao n) → Q (.ref p) H'
theorem tiA (xs : List Int) (y : Int) : some (HO.tup (xs.map V.int ++ [V.int y])) = some (ti (xs ++ [y])) := by
  show _ = some (HO.tup _)
  rw [List.map_append]
  rfl
theorem small1 {n : Nat} (h : n ≤ 100000) : n < sizeLine := Nat.lt_of_le_of_lt h (by decide)
section
variable {P : Program} {w : World} {K : PySem.W.Frag} {mg : Str → Option Value} {base : Heap}
abbrev nsLabelsBetween : List Str := ["before", "after", "number", "begin", "rest", "part", "count"]
theorem scLabelsBetween : FnScope nsLabelsBetween ["before", "after", "number"] (defScope sLabelsBetween) := ⟨rfl, rfl, rfl, by decide +kernel, rfl, by decide +kernel, by decide +kernel⟩
theorem ok_labels_between (t : T K mg) : Ok P w K mg base 1 "labels_between" ["before", "after", "number"] spLb := by
  refine mkOk t.d_labels_between t.g_labels_between scLabelsBetween (fun vs H Q E h => ?_) (fun _ _ _ _ _ _ us hl => match us, hl with | [_, _, _], _ => rfl) fun cdv A outer s H vs Q E hr h => ?_
  · obtain ⟨bo, ao, b, a, n, rfl, _⟩ := h; rfl
  obtain ⟨bo, ao, b, a, n, rfl, hb, ha, hn, k⟩ := h
  refine ⟨_, C8.pss_cut (ps_set (i := 3) scLabelsBetween.nd rfl (Or.inr rfl) (pe_ifExp (pt_cmpR op_isN (pv 0) pe_non (nomark _)) (pe_tup pa_nil) (pv 0)))
    (C8.pss_cut (ps_if (PW.pt (pw_and (pt_cmpR op_notN (pv 1) pe_non (nomark _)) (pw_and1 (pt_cmpR (op_eqD (hu64 hr)) (pe_slice sl_tupA (pv 1) po_none (po_some (pe_callB call_len_seq rfl t.f_len boot_len (pa_cons (pv 3) pa_nil)))) (pv 3) (nomark _)))))
      (pss_cons (ps_set (i := 4) scLabelsBetween.nd rfl (Or.inl rfl) (pe_slice sl_tupA (pv 1) (po_some (pe_callB call_len_seq rfl t.f_len boot_len (pa_cons (pv 3) pa_nil))) po_none))
    (pss_cons (ps_set (i := 3) scLabelsBetween.nd rfl (Or.inr rfl) (pe_op op_catA (pv 3) (pe_tup (pa_cons pe_int pa_nil))))
    (pss_one (ps_for PassesOwn.never rfl (pi_tup (pv 4)) (pg_name (i := 5) scLabelsBetween.nd rfl (Or.inl rfl))
      (pss_cons (ps_if (pt_cmpR op_ne (pv 5) pe_int (nomark _))
      (pss_one ps_break)
      pss_nil)
    (pss_one (ps_set (i := 3) scLabelsBetween.nd rfl (Or.inr rfl) (pe_op op_catA (pv 3) (pe_tup (pa_cons pe_int pa_nil))))))))))
      pss_nil)
    (pss_one (ps_ret (pe_lc (own := [("count", 6)]) (g := gName 6) (tt := tYes) rfl scLabelsBetween.nd (pi_range2 rfl t.f_range (pa_cons pe_int (pa_cons (pe_op op_add (pv 2) pe_int) pa_nil))) (blkOk_by (own := [("count", 6)]) (N := nsLabelsBetween) (sc := defScope sLabelsBetween) (by decide +kernel)) (fun _ _ _ _ _ => pg_name (i := 6) scLabelsBetween.nd rfl (Or.inl rfl)) (fun _ _ _ _ _ => pts_nil) (fun _ _ _ _ _ => (pe_op (op_catK (K := K) rfl) (pv 3) (pe_tup (pa_cons (pv 6) pa_nil)))))))), ?_⟩
  refine ⟨fun σ2 H2 => (∃ g, σ2 = [some b, some a, some (.int n), some (.ref g), none, none, none] ∧ H2 g = some (ti (bo.getD [])) ∧ (bo.getD []).length ≤ 100) ∧ Same H H2, ?_, ?_⟩
  · refine ⟨_, rfl, rfl, _, rfl, ?_⟩
    refine ite2 (fun h => ?_) (fun h => ?_)
    · have e : b = .non := of_decide_eq_true h
      have e0 : bo = none := by
        cases bo with
        | none => rfl
        | some ns => obtain ⟨a, q, _⟩ := hb; rw [q] at e; cases e
      subst e0
      exact ⟨(by show 0 ≤ sizeLine; decide), fun p hp => ⟨⟨p, rfl, upd_same, Nat.zero_le _⟩, Same.new hp⟩⟩
    · have e : b ≠ .non := fun q => h (decide_eq_true q)
      cases bo with
      | none => exact absurd hb e
      | some ns => obtain ⟨g, rfl, q, l⟩ := hb; exact ⟨_, rfl, ⟨g, rfl, q, l⟩, Same.refl H⟩
  rintro σ2 H2 ⟨⟨g, rfl, hg, gl⟩, s1⟩
  generalize hB : bo.getD [] = B at hg gl
  refine ⟨fun σ2 H2 => (∃ (g : Addr) (o4 o5 : Option V), σ2 = [some b, some a, some (.int n), some (.ref g), o4, o5, none] ∧ H2 g = some (ti (B ++ List.replicate (zn B ao) 0)) ∧ zn B ao ≤ 101) ∧ Same H H2, ?_, ?_⟩
  · refine ⟨_, rfl, rfl, _, rfl, ?_⟩
    refine ite2 (fun h => ?_) (fun h => ?_)
    · have e : a ≠ .non := fun q => by rw [q] at h; exact absurd h (by decide)
      cases ao with
      | none => exact absurd ha e
      | some as =>
      obtain ⟨c, rfl, hc, cl⟩ := ha
      have hc2 := s1 _ _ hc
      refine ⟨_, rfl, _, rfl, g, _, rfl, .inr (SqT.of hg), _, rfl, ?_⟩
      refine slT_to hc2 fun p H3 s3 hp => ?_
      rw [List.length_map, ← List.map_take] at hp
      have hg3 := s3 _ _ hg
      have hc3 := s3 _ _ hc2
      have s13 := s1.trans s3
      refine ⟨_, rfl, eqT hp hg3 ⟨_, rfl, ?_⟩⟩
      refine ite2 (fun h1 => ?_) (fun h1 => ?_)
      · have hz : zn B (some as) = 1 + lz (as.drop B.length) := by
          show (if as.take B.length = B then _ else _) = _
          rw [if_pos (of_decide_eq_true h1)]
        refine ⟨_, rfl, _, rfl, g, _, rfl, .inr (SqT.of hg3), _, rfl, ?_⟩
        unfold tNoPart
        refine slT_from hc3 fun r H4 s4 hrr => ?_
        rw [List.length_map, ← List.map_drop] at hrr
        generalize hR : as.drop B.length = R at hrr hz
        have hg4 := s4 _ _ hg3
        refine ⟨_, rfl, (by show 1 ≤ sizeLine; decide), fun z hzz => ?_⟩
        refine catT (xs := B.map V.int) (ys := [V.int 0]) ((Same.new hzz) _ _ hg4) upd_same ?_ fun g5 H5 s5 hg5 => ?_
        · rw [List.length_map]; exact Nat.le_of_lt (small1 (by show B.length + 1 ≤ 100000; omega))
        have s15 : Same H H5 := (s13.trans s4).trans ((Same.new hzz).trans s5)
        have hr5 : H5 r = some (ti R) := s5 _ _ ((Same.new hzz) _ _ hrr)
        have Rl : R.length ≤ 100 := by rw [← hR, List.length_drop]; omega
        have done : ∀ (g' : Addr) (o4 o5 : Option V) (H' : Hp) (i : Nat), lz R = i → i ≤ R.length → H' g' = some (ti (B ++ List.replicate (1 + i) 0)) → Same H H' → (∃ (g : Addr) (o4' o5' : Option V), [some b, some (V.ref c), some (V.int (n : Int)), some (V.ref g'), o4, o5, none] = [some b, some (V.ref c), some (V.int (n : Int)), some (V.ref g), o4', o5', none] ∧ H' g = some (ti (B ++ List.replicate (zn B (some as)) 0)) ∧ zn B (some as) ≤ 101) ∧ Same H H' := fun g' o4 o5 H' i e1 e2 e3 e4 => ⟨⟨g', o4, o5, rfl, by rw [hz, e1]; exact e3, by rw [hz, e1]; omega⟩, e4⟩
        refine ⟨_, rfl, r, rfl, ⟨_, SqT.of hr5⟩, ?_⟩
        refine for_tup (K := K) (a := r) (xs := R.map V.int) (fun i σ' H' => (∃ (g' : Addr) (o5 : Option V), σ' = [some b, some (V.ref c), some (V.int (n : Int)), some (V.ref g'), some (V.ref r), o5, none] ∧ H' g' = some (ti (B ++ List.replicate (1 + i) 0)) ∧ lz R = i + lz (R.drop i)) ∧ Same H5 H') ?_ (fun i σ' H' _ z => SqT.of (z.2 _ _ hr5)) ?_ ?_
        · exact ⟨⟨g5, none, rfl, by rw [hg5]; show some (HO.tup _) = some (HO.tup ((B ++ [0]).map V.int)); rw [List.map_append]; rfl, by simp⟩, Same.refl _⟩
        · rintro i x σ' H' hx ⟨⟨g', o5, rfl, hg', hl⟩, s6⟩
          have il : i < R.length := by
            have := (List.getElem?_eq_some_iff.mp hx).1
            rw [List.length_map] at this
            exact this
          have hd : R.drop i = R[i] :: R.drop (i + 1) := List.drop_eq_getElem_cons il
          obtain rfl : x = .int R[i] := by
            rw [List.getElem?_map, List.getElem?_eq_getElem il] at hx
            exact (Option.some.inj hx).symm
          rw [hd] at hl
          generalize R[i] = y at hl hx
          have hl : lz R = i + (if y = 0 then lz (R.drop (i + 1)) + 1 else 0) := hl
          refine ⟨_, rfl, rfl, _, rfl, ?_⟩
          refine ite2 (fun h2 => ?_) (fun h2 => ?_)
          · have ne : y ≠ 0 := fun q => by rw [q] at h2; exact absurd h2 (by decide)
            rw [if_neg ne] at hl
            exact done g' _ _ H' i (by omega) (by omega) hg' (s15.trans s6)
          · have e0 : y = 0 := by
              have : ¬ (!decide (V.int y = V.int 0)) = true := h2
              simpa using this
            rw [if_pos e0] at hl
            refine ⟨_, rfl, (by show 1 ≤ sizeLine; decide), fun z hzz => ?_⟩
            refine catT (xs := (B ++ List.replicate (1 + i) 0).map V.int) (ys := [V.int 0]) ((Same.new hzz) _ _ hg') upd_same ?_ fun g7 H7 s7 hg7 => ?_
            · rw [List.length_map, List.length_append, List.length_replicate]; exact Nat.le_of_lt (small1 (by show _ + 1 ≤ 100000; omega))
            refine ⟨⟨g7, _, rfl, ?_, by omega⟩, s6.trans ((Same.new hzz).trans s7)⟩
            rw [hg7, show 1 + (i + 1) = (1 + i) + 1 by omega, List.replicate_succ']
            rw [← List.append_assoc]
            exact tiA _ _
        · rintro σ' H' ⟨⟨g', o5, rfl, hg', hl⟩, s6⟩
          rw [List.length_map] at hl hg'
          rw [List.drop_eq_nil_of_le (Nat.le_refl _)] at hl
          exact done g' _ _ H' R.length hl (Nat.le_refl _) hg' (s15.trans s6)
      · have hz : zn B (some as) = 0 := by
          show (if as.take B.length = B then _ else _) = _
          rw [if_neg fun q => h1 (decide_eq_true q)]
        exact ⟨⟨g, _, _, rfl, by rw [hz]; show H3 g = some (ti (B ++ [])); rw [List.append_nil]; exact hg3, by rw [hz]; exact Nat.zero_le _⟩, s13⟩
    · have e : a = .non := by
        have : ¬ (!decide (a = .non)) = true := h
        simpa using this
      cases ao with
      | some as => obtain ⟨c, q, _⟩ := ha; rw [q] at e; cases e
      | none => exact ⟨⟨g, _, _, rfl, by show H2 g = some (ti (B ++ [])); rw [List.append_nil]; exact hg, Nat.zero_le _⟩, s1⟩
  rintro σ2 H2 ⟨⟨g, o4, o5, rfl, hg, zl⟩, s1⟩
  refine ⟨_, rfl, _, _, rfl, rfl, 1, _, rfl, (by omega), fun D hD => ?_⟩
  have en : ((n : Int) + 1 - 1).toNat = n := by omega
  rw [en]
  have hgD := (Same.new (o := .lst []) hD) _ _ hg
  refine lc_range (g := gName 6) (fun i H' => ∃ xs, H' D = some (.lst xs) ∧ Lbs H' xs ((lbL bo ao n).take i) ∧ Same H2 H') ⟨[], upd_same, Lbs.nil _, Same.new hD⟩ ?_ ?_
  · rintro i H' hi ⟨xs, hx, hL, s3⟩
    have hxl : xs.length ≤ 100 := by rw [hL.1, List.length_take]; omega
    refine ⟨rfl, ?_⟩
    refine ⟨_, rfl, _, rfl, (by show 1 ≤ sizeLine; decide), fun z hzz => ?_⟩
    refine catT (xs := (B ++ List.replicate (zn B ao) 0).map V.int) (ys := [V.int (1 + (i : Int))]) ((Same.new hzz) _ _ (s3 _ _ hg)) upd_same ?_ fun r H4 s4 hrr => ?_
    · rw [List.length_map, List.length_append, List.length_replicate]; exact Nat.le_of_lt (small1 (by show _ + 1 ≤ 100000; omega))
    have s5 := (Same.new hzz).trans s4
    have hx4 := s5 _ _ hx
    refine ⟨xs, hx4, small1 (by omega), xs ++ [.ref r], upd_same, ?_, Same.put (s3.trans s5) hD⟩
    refine Lbs.put ?_ hx4
    rw [List.take_add_one, lbL_at hi]
    refine (hL.same s5).snoc ?_
    rw [hrr, hB]
    rw [show (i : Int) + 1 = 1 + (i : Int) by omega]
    exact tiA _ _
  · rintro H' ⟨xs, hx, hL, s3⟩
    rw [List.take_of_length_le (by rw [lbL_len]; exact Nat.le_refl _)] at hL
    exact k D xs H' (s1.trans s3) hx hL
end
end Sx

set_option Elab.async false
set_option linter.all false
set_option maxRecDepth 100000
set_option maxHeartbeats 1000000
namespace Sx
open PySem PySem.Spec PyProof.Rows L2 SxA
def spLabel : Sp := fun vs H Q _ => ∃ (a : Addr) (m : Int), vs = [.ref a, .int m] ∧ Dr H a ∧ 0 < m ∧ m ≤ 10 ∧ ∀ p ns H', IsLb ns → ns.length ≤ 10 → H' p = some (ti ns) → Dr H' a → But a H H' → Q (.ref p) H'
section
variable {P : Program} {w : World} {K : PySem.W.Frag} {mg : Str → Option Value} {base : Heap}
abbrev nsLawLabel : List Str := ["draws", "most", "k"]
theorem scLawLabel : FnScope nsLawLabel ["draws", "most"] (defScope sLawLabel) := ⟨rfl, rfl, rfl, by decide +kernel, rfl, by decide +kernel, by decide +kernel⟩
theorem ok_law_label (t : T K mg) : Ok P w K mg base 2 "_law_label" ["draws", "most"] spLabel := by
  refine mkOk t.d_law_label t.g_law_label scLawLabel (fun vs H Q E h => ?_) (fun _ _ _ _ _ _ us hl => match us, hl with | [_, _], _ => rfl) fun cdv A outer s H vs Q E hr h => ?_
  · obtain ⟨a, m, rfl, _⟩ := h; rfl
  obtain ⟨a, m, rfl, hD, m0, m1, k⟩ := h
  have hr1 : Room 1 _ := hr.mono (by decide)
  refine ⟨_, pss_one (ps_ret (pe_op op_catA (pe_callTy call_tuple_of rfl t.f_tuple (by decide +kernel) (pa_cons (pe_lc (own := [("k", 2)]) (g := gName 2) (tt := tYes) rfl scLawLabel.nd (pi_range1 rfl t.f_range (pa_cons (pe_ok (ok_law_take t) hr1 rfl (pa_cons (pv 0) (pa_cons (pv 1) pa_nil))) pa_nil)) (blkOk_by (own := [("k", 2)]) (N := nsLawLabel) (sc := defScope sLawLabel) (by decide +kernel)) (fun _ _ _ _ _ => pg_name (i := 2) scLawLabel.nd rfl (Or.inl rfl)) (fun _ _ _ _ _ => pts_nil) (fun _ _ _ _ _ => (pe_ok (ok_law_take t) hr1 rfl (pa_cons (pv 0) (pa_cons pe_int pa_nil))))) pa_nil)) (pe_tup (pa_cons (pe_op op_add pe_int (pe_ok (ok_law_take t) hr1 rfl (pa_cons (pv 0) (pa_cons pe_int pa_nil)))) pa_nil)))), ?_⟩
  refine ⟨_, rfl, _, rfl, a, m, rfl, hD, m0, fun v H1 v0 v1 D1 B1 => ?_⟩
  refine ⟨_, rfl, by omega, by omega, fun D hN => ?_⟩
  have naD : D ≠ a := by
    intro e
    obtain ⟨o2, h2⟩ := D1.has
    rw [e, h2] at hN
    cases hN
  refine lc_range (g := gName 2) (lo := 0) (n := v.toNat) (fun i H' => ∃ ns : List Int, H' D = some (.lst (ns.map V.int)) ∧ ns.length = i ∧ (∀ x ∈ ns, (0 : Int) ≤ x) ∧ Dr H' a ∧ But a H1 H') ?_ ?_ ?_
  · exact ⟨[], upd_same, rfl, (fun x h => absurd h List.not_mem_nil), D1.new hN, But.new (But.refl _ _) hN⟩
  · rintro i H' hi ⟨ns, hx, hl, h0, D2, B2⟩
    refine ⟨rfl, ?_⟩
    refine ⟨_, rfl, a, 4, rfl, D2, by decide, fun x H3 x0 x1 D3 B3 => ?_⟩
    have hx3 := B3 _ _ hx naD
    refine ⟨_, hx3, by rw [List.length_map]; exact small1 (by omega), ns ++ [x], ?_, by rw [List.length_append, hl]; rfl, fun y hy => ?_, D3.put naD.symm, (B2.trans B3).new hN⟩
    · rw [upd_same, List.map_append]; rfl
    · rcases List.mem_append.mp hy with q | q
      · exact h0 y q
      · rw [List.mem_singleton] at q; omega
  · rintro H' ⟨ns, hx, hl, h0, D2, B2⟩
    refine ⟨D, _, rfl, .inl ⟨SqL.of hx, fun l hl' => ?_⟩⟩
    refine ⟨_, rfl, a, 3, rfl, D2.new hl', by decide, fun x H3 x0 x1 D3 B3 => ?_⟩
    refine ⟨_, _, rfl, rfl, (by show 1 ≤ sizeLine; decide), fun z hz => ?_⟩
    have nla : l ≠ a := fun q => by
      obtain ⟨o2, h2⟩ := D2.has
      rw [← q, hl'] at h2
      cases h2
    have h3 := B3 _ _ (upd_same (H := H') (a := l) (o := .tup (ns.map V.int))) nla
    refine catT (xs := ns.map V.int) (ys := [V.int (1 + x)]) ((Same.new hz) _ _ h3) upd_same ?_ fun r H4 s4 hrr => ?_
    · rw [List.length_map]; exact Nat.le_of_lt (small1 (by show _ + 1 ≤ 100000; omega))
    refine k r (ns ++ [1 + x]) H4 ⟨fun y hy => ?_, 1 + x, by simp, by omega⟩ (by rw [List.length_append, hl, List.length_singleton]; omega) (by rw [hrr]; exact tiA _ _) ?_ ?_
    · rcases List.mem_append.mp hy with q | q
      · exact h0 y q
      · rw [List.mem_singleton] at q; omega
    · exact (D3.new hz).same s4
    · have b2 := B1.trans B2
      have b3 := (b2.new (But.none b2 D2.choose_spec hl')).trans B3
      exact (b3.new (But.none b3 D3.choose_spec hz)).same s4
end
end Sx

set_option Elab.async false
set_option linter.all false
set_option maxRecDepth 100000
set_option maxHeartbeats 1000000
namespace Sx
open PySem PySem.Spec PyProof.Rows L2 SxA
section
variable {P : Program} {w : World} {K : PySem.W.Frag} {mg : Str → Option Value} {base : Heap}
abbrev nsLawDue : List Str := ["before", "after", "number", "base", "zeros", "k", "one", "j"]
theorem scLawDue : FnScope nsLawDue ["before", "after", "number"] (defScope sLawDue) := ⟨rfl, rfl, rfl, by decide +kernel, rfl, by decide +kernel, by decide +kernel⟩
theorem filt_int (f : Int → Bool) (g : V → Bool) (h : ∀ x, g (.int x) = f x) : ∀ l : List Int, (l.map V.int).filter g = (l.filter f).map V.int
  | [] => rfl
  | x :: l => by
    rw [List.map_cons, List.filter_cons, List.filter_cons, h, filt_int f g h l]
    split <;> rfl
def scInner : Scope := { kind := ScopeKind.function, names := [(Str.ofString ".0", NameKind.local), (Str.ofString "j", NameKind.local), (Str.ofString "tuple", NameKind.globalImplicit), (Str.ofString "range", NameKind.globalImplicit), (Str.ofString "base", NameKind.free), (Str.ofString "zeros", NameKind.free)], isGenerator := false, isCoroutine := false }
def neV : V → Bool := fun v => !decide (v = .int 0)
theorem ok_law_due (t : T K mg) : Ok P w K mg base 1 "_law_due" ["before", "after", "number"] spLb := by
  refine mkOk t.d_law_due t.g_law_due scLawDue (fun vs H Q E h => ?_) (fun _ _ _ _ _ _ us hl => match us, hl with | [_, _, _], _ => rfl) fun cdv A outer s H vs Q E hr h => ?_
  · obtain ⟨bo, ao, b, a, n, rfl, _⟩ := h; rfl
  obtain ⟨bo, ao, b, a, n, rfl, hb, ha, hn, k⟩ := h
  refine ⟨_, pss_cons (ps_set (i := 3) scLawDue.nd rfl (Or.inr rfl) (pe_tup pa_nil))
    (C8.pss_cut (ps_if (pt_cmpR op_notN (pv 0) pe_non (nomark _))
      (pss_one (ps_set (i := 3) scLawDue.nd rfl (Or.inr rfl) (pv 0)))
      pss_nil)
    (pss_cons (ps_set (i := 4) scLawDue.nd rfl (Or.inr rfl) pe_int)
    (C8.pss_cut (ps_if (PW.pt (pw_and (pt_cmpR op_notN (pv 1) pe_non (nomark _)) (pw_and1 (pt_cmpR (op_eqD (hu64 hr)) (pe_slice sl_tupA (pv 1) po_none (po_some (pe_callB call_len_seq rfl t.f_len boot_len (pa_cons (pv 3) pa_nil)))) (pv 3) (nomark _)))))
      (pss_cons (ps_set (i := 4) scLawDue.nd rfl (Or.inr rfl) pe_int)
    (pss_one (ps_for PassesOwn.never rfl (pi_range2 rfl t.f_range (pa_cons (pe_callB call_len_seq rfl t.f_len boot_len (pa_cons (pv 3) pa_nil)) (pa_cons (pe_callB call_len_seq rfl t.f_len boot_len (pa_cons (pv 1) pa_nil)) pa_nil))) (pg_name (i := 5) scLawDue.nd rfl (Or.inl rfl))
      (pss_one (ps_if (pt_cmpR (op_eqD (hu64 hr)) (pe_lc (own := [("one", 6)]) (g := gName 6) rfl scLawDue.nd (pi_tup (pe_slice sl_tupA (pv 1) (po_some (pe_callB call_len_seq rfl t.f_len boot_len (pa_cons (pv 3) pa_nil))) (po_some (pe_op op_add (pv 5) pe_int)))) (blkOk_by (own := [("one", 6)]) (N := nsLawDue) (sc := defScope sLawDue) (by decide +kernel)) (fun _ _ _ _ _ => pg_name (i := 6) scLawDue.nd rfl (Or.inl rfl)) (fun _ _ _ _ _ => pts_one (pt_cmpR op_ne (pv 6) pe_int (nomark _))) (fun _ _ _ _ _ => (pv 6))) (pe_lst pa_nil) (nomark _))
      (pss_one (ps_set (i := 4) scLawDue.nd rfl (Or.inr rfl) (pe_op op_add (pv 4) pe_int)))
      pss_nil)))))
      pss_nil)
    (pss_one (ps_ret (pe_lc (own := [("j", 7)]) (g := gName 7) (tt := tYes) rfl scLawDue.nd (pi_range1 rfl t.f_range (pa_cons (pv 2) pa_nil)) (blkOk_by (own := [("j", 7)]) (N := nsLawDue) (sc := defScope sLawDue) (by decide +kernel)) (fun _ _ _ _ _ => pg_name (i := 7) scLawDue.nd rfl (Or.inl rfl)) (fun _ _ _ _ _ => pts_nil) (fun _ _ _ _ _ => (pe_op (op_catK (K := K) rfl) (pe_op (op_catK (K := K) rfl) (pv 3) (pe_callTy (call_tuple_ofK (K := K) rfl) rfl t.f_tuple (by decide +kernel) (pa_cons (pe_lc (own := [("k", 5)]) (g := gName 5) (tt := tYes) rfl scLawDue.nd (pi_range1 rfl t.f_range (pa_cons (pv 4) pa_nil)) (blkOk_by (own := [("k", 5)]) (N := nsLawDue) (sc := relS scInner (defScope sLawDue)) (by decide +kernel)) (fun _ _ _ _ _ => pg_name (i := 5) scLawDue.nd rfl (Or.inl rfl)) (fun _ _ _ _ _ => pts_nil) (fun _ _ _ _ _ => pe_int)) pa_nil))) (pe_tup (pa_cons (pe_op op_add (pv 7) pe_int) pa_nil)))))))))), ?_⟩
  refine ⟨(by show 0 ≤ sizeLine; decide), fun e0 he0 => ?_⟩
  refine ⟨fun σ2 H2 => (∃ g, σ2 = [some b, some a, some (.int n), some (.ref g), none, none, none, none] ∧ H2 g = some (ti (bo.getD [])) ∧ (bo.getD []).length ≤ 100) ∧ Same H H2, ?_, ?_⟩
  · refine ⟨_, rfl, rfl, _, rfl, ?_⟩
    refine ite2 (fun h => ?_) (fun h => ?_)
    · cases bo with
      | none => rw [show b = .non from hb] at h; exact absurd h (by decide)
      | some ns => obtain ⟨g, rfl, q, l⟩ := hb; exact ⟨_, rfl, ⟨g, rfl, (Same.new he0) _ _ q, l⟩, Same.new he0⟩
    · cases bo with
      | none => exact ⟨⟨e0, rfl, upd_same, Nat.zero_le _⟩, Same.new he0⟩
      | some ns => obtain ⟨g, rfl, q, l⟩ := hb; exact absurd (show (!decide (V.ref g = V.non)) = true by simp) h
  rintro σ2 H2 ⟨⟨g, rfl, hg, gl⟩, s1⟩
  generalize hB : bo.getD [] = B at hg gl
  refine ⟨fun σ2 H2 => (∃ (z : Nat) (o5 : Option V), σ2 = [some b, some a, some (.int n), some (.ref g), some (.int z), o5, none, none] ∧ zn B ao = z ∧ z ≤ 101) ∧ Same H2 H2 ∧ (∀ c o, H c = some o → H2 c = some o) ∧ H2 g = some (ti B), ?_, ?_⟩
  · refine ⟨_, rfl, rfl, _, rfl, ?_⟩
    refine ite2 (fun h => ?_) (fun h => ?_)
    · cases ao with
      | none => rw [show a = .non from ha] at h; exact absurd h (by decide)
      | some as =>
      obtain ⟨c, rfl, hc, cl⟩ := ha
      have hc2 := s1 _ _ hc
      refine ⟨_, rfl, _, rfl, g, _, rfl, .inr (SqT.of hg), _, rfl, ?_⟩
      refine slT_to hc2 fun p H3 s3 hp => ?_
      rw [List.length_map, ← List.map_take] at hp
      have hg3 := s3 _ _ hg
      have hc3 := s3 _ _ hc2
      have s13 := s1.trans s3
      refine ⟨_, rfl, eqT hp hg3 ⟨_, rfl, ?_⟩⟩
      refine ite2 (fun h1 => ?_) (fun h1 => ?_)
      · have hz : zn B (some as) = 1 + lz (as.drop B.length) := by
          show (if as.take B.length = B then _ else _) = _
          rw [if_pos (of_decide_eq_true h1)]
        have hBl : B.length ≤ as.length := by
          have := congrArg List.length (of_decide_eq_true h1)
          rw [List.length_take] at this
          omega
        refine ⟨_, rfl, g, _, rfl, .inr (SqT.of hg3), _, rfl, c, _, rfl, .inr (SqT.of hc3), ?_⟩
        refine ⟨_, _, rfl, ⟨by rw [List.length_map]; omega, by rw [List.length_map]; omega, by rw [List.length_map]; omega, by rw [List.length_map]; omega⟩, ?_⟩
        generalize hR : as.drop B.length = R at hz
        have hRl : R.length = as.length - B.length := by rw [← hR, List.length_drop]
        refine for_range (lo := ((B.map V.int).length : Int)) (n := (((as.map V.int).length : Int) - ((B.map V.int).length : Int)).toNat) (fun i σ' H' => (∃ (o5 : Option V), σ' = [some b, some (V.ref c), some (V.int (n : Int)), some (V.ref g), some (V.int ((1 + min i (lz R) : Nat) : Int)), o5, none, none]) ∧ Same H3 H') ?_ ?_ ?_
        · exact ⟨⟨none, by rw [Nat.zero_min]; rfl⟩, Same.refl _⟩
        · rintro i σ' H' hi ⟨⟨o5, rfl⟩, s6⟩
          rw [List.length_map, List.length_map] at hi
          have il : i < R.length := by omega
          refine ⟨_, rfl, _, rfl, g, _, rfl, .inr (SqT.of (s6 _ _ hg3)), _, rfl, _, rfl, _, _, rfl, rfl, ((B.length + (i + 1) : Nat) : Int), ?_, ?_⟩
          · rw [List.length_map]; congr 1
          rw [List.length_map]
          refine slT_both (s6 _ _ hc3) fun q H7 s7 hq => ?_
          have eR : ((as.map V.int).take (B.length + (i + 1))).drop B.length = (R.take (i + 1)).map V.int := by
            rw [← List.map_take, ← List.map_drop, List.drop_take, hR, show B.length + (i + 1) - B.length = i + 1 by omega]
          rw [eR] at hq
          refine ⟨q, rfl, ⟨_, SqT.of hq⟩, fun D hD => ?_⟩
          refine lc_tupF (K := K) (f := neV) (F := fun x => x) hD hq (by rw [List.length_map, List.length_take]; exact Nat.le_of_lt (small1 (by omega))) (fun _ => rfl) ?_ ?_ ?_
          · rintro x H8 Q8 hx s8 q8
            obtain ⟨y, _, rfl⟩ := List.mem_map.mp hx
            exact ⟨_, rfl, rfl, _, rfl, q8⟩
          · rintro x H8 Q8 hx s8 q8
            exact ⟨_, rfl, q8⟩
          rintro H8 s8 hD8
          rw [List.map_id', filt_int (fun x => !decide (x = 0)) neV (fun x => by unfold neV; rw [eq_int])] at hD8
          refine ⟨(by show 0 ≤ sizeLine; decide), fun e he => ?_⟩
          refine eqL (ys := []) ((Same.new he) _ _ hD8) upd_same ⟨_, rfl, ?_⟩
          have key := lz_all R i il
          have s9 : Same H3 (upd H8 e (.lst [])) := ((s6.trans s7).trans s8).trans (Same.new he)
          refine ite2 (fun h2 => ?_) (fun h2 => ?_)
          · have lt := key.mp (of_decide_eq_true h2)
            refine ⟨_, rfl, _, _, rfl, rfl, ⟨some (V.int ((B.length : Int) + (i : Int))), ?_⟩, s9⟩
            rw [show min (i + 1) (lz R) = min i (lz R) + 1 by omega]
            rfl
          · have ge : ¬ i < lz R := fun z => h2 (decide_eq_true (key.mpr z))
            exact ⟨⟨some (V.int ((B.length : Int) + (i : Int))), by rw [show min (i + 1) (lz R) = min i (lz R) by omega]; rfl⟩, s9⟩
        · rintro σ' H' ⟨⟨o5, rfl⟩, s6⟩
          have := lz_le R
          refine ⟨⟨_, _, rfl, ?_, ?_⟩, Same.refl _, s13.trans s6, s6 _ _ hg3⟩
          · rw [hz, List.length_map, List.length_map]; omega
          · rw [List.length_map, List.length_map]; omega
      · have hz : zn B (some as) = 0 := by
          show (if as.take B.length = B then _ else _) = _
          rw [if_neg fun q => h1 (decide_eq_true q)]
        exact ⟨⟨0, _, rfl, hz, Nat.zero_le _⟩, Same.refl _, s13, hg3⟩
    · cases ao with
      | some as => obtain ⟨c, rfl, _⟩ := ha; exact absurd (show (!decide (V.ref c = V.non)) = true by simp) h
      | none => exact ⟨⟨0, _, rfl, rfl, Nat.zero_le _⟩, Same.refl _, s1, hg⟩
  rintro σ2 H2 ⟨⟨z, o5, rfl, hz, zl⟩, _, s1, hg⟩
  refine ⟨_, rfl, _, rfl, by omega, by omega, fun D hD => ?_⟩
  rw [show ((n : Int)).toNat = n by omega]
  refine lc_range (g := gName 7) (lo := 0) (n := n) (fun i H' => ∃ xs, H' D = some (.lst xs) ∧ Lbs H' xs ((lbL bo ao n).take i) ∧ Same H2 H') ⟨[], upd_same, Lbs.nil _, Same.new hD⟩ ?_ ?_
  · rintro i H' hi ⟨xs, hx, hL, s3⟩
    have hxl : xs.length ≤ 100 := by rw [hL.1, List.length_take]; omega
    refine ⟨rfl, ?_⟩
    refine ⟨_, rfl, _, rfl, _, rfl, by omega, by omega, fun C hC => ?_⟩
    rw [show ((z : Int)).toNat = z by omega]
    refine lc_rangeF (lo := 0) (n := z) (f := fun _ => true) (F := fun _ => V.int 0) hC (Nat.le_of_lt (small1 (by omega))) (fun _ => rfl) (fun i H Q _ _ q => q) (fun i H Q _ _ q => q) fun H4 s4 hC4 => ?_
    refine ⟨C, _, rfl, .inl ⟨SqL.of hC4, fun l hl => ?_⟩⟩
    have e0 : ((List.range z).filter fun _ => true).map (fun _ => V.int 0) = (List.replicate z (0 : Int)).map V.int := by
      rw [List.filter_eq_self.mpr (fun _ _ => rfl), List.map_const', List.length_range, List.map_replicate]
    rw [e0]
    have s5 : Same H' (upd H4 l (.tup ((List.replicate z (0 : Int)).map V.int))) := s4.trans (Same.new hl)
    refine catT (xs := B.map V.int) (ys := (List.replicate z (0 : Int)).map V.int) (s5 _ _ (s3 _ _ hg)) upd_same ?_ fun r H6 s6 hr6 => ?_
    · rw [List.length_map, List.length_map, List.length_replicate]; exact Nat.le_of_lt (small1 (by omega))
    refine ⟨_, rfl, _, _, rfl, rfl, (by show 1 ≤ sizeLine; decide), fun y hy => ?_⟩
    refine catT (xs := B.map V.int ++ (List.replicate z (0 : Int)).map V.int) (ys := [V.int (0 + (i : Int) + 1)]) ((Same.new hy) _ _ hr6) upd_same ?_ fun q H7 s7 hq7 => ?_
    · rw [List.length_append, List.length_map, List.length_map, List.length_replicate]; exact Nat.le_of_lt (small1 (by show _ + 1 ≤ 100000; omega))
    have s8 : Same H' H7 := (s5.trans s6).trans ((Same.new hy).trans s7)
    have hx7 := s8 _ _ hx
    refine ⟨xs, hx7, small1 (by omega), xs ++ [.ref q], upd_same, ?_, Same.put (s3.trans s8) hD⟩
    refine Lbs.put ?_ hx7
    rw [List.take_add_one, lbL_at hi]
    refine (hL.same s8).snoc ?_
    rw [hq7, hB, hz, ← List.map_append, show (i : Int) + 1 = 0 + (i : Int) + 1 by omega]
    exact tiA _ _
  · rintro H' ⟨xs, hx, hL, s3⟩
    rw [List.take_of_length_le (by rw [lbL_len]; exact Nat.le_refl _)] at hL
    exact k D xs H' (fun c o e => s3 _ _ (s1 c o e)) hx hL
end
end Sx

set_option Elab.async false
set_option linter.all false
set_option maxRecDepth 100000
set_option maxHeartbeats 1000000
namespace Sx
open PySem PySem.Spec PyProof.Rows L2 SxA
theorem isi {K : PySem.W.Frag} {H : Hp} {Q : VK} {x : V} {t n : String} {b : Bool} (ty : TyX K H x (.type t)) (h : kitB t n = some b) (q : Q (.bl b) H) : rIsi K [x, .ty n] H Q := ⟨_, _, _, _, b, rfl, .ty n, ty, kit_ty h, q⟩
section
variable {P : Program} {w : World} {K : PySem.W.Frag} {mg : Str → Option Value} {base : Heap}
abbrev nsLawSame : List Str := ["actual", "due", "k"]
theorem scLawSame : FnScope nsLawSame ["actual", "due"] (defScope sLawSame) := ⟨rfl, rfl, rfl, by decide +kernel, rfl, by decide +kernel, by decide +kernel⟩
end
/-! ### _law_same of equal data -/
def Eqd : Nat → Hp → V → V → Prop
  | 0, _, x, y => x = y ∧ flatV x = true
  | n + 1, H, x, y => (x = y ∧ flatV x = true) ∨ ∃ a b xs ys, x = .ref a ∧ y = .ref b ∧ ((H a = some (.lst xs) ∧ H b = some (.lst ys)) ∨ (H a = some (.tup xs) ∧ H b = some (.tup ys))) ∧ xs.length = ys.length ∧ xs.length ≤ 100000 ∧ ∀ (i : Nat) u v, xs[i]? = some u → ys[i]? = some v → Eqd n H u v
def spEqd : Nat → Sp
  | 0 => fun _ _ _ _ => False
  | n + 1 => fun vs H Q _ => ∃ x y, vs = [x, y] ∧ Eqd n H x y ∧ Q (.bl true) H
section
variable {P : Program} {w : World} {K : PySem.W.Frag} {mg : Str → Option Value} {base : Heap}
theorem ok_same (t : T K mg) : ∀ n, Ok P w K mg base (n + 1) "_law_same" ["actual", "due"] (spEqd n)
  | 0 => mkOk t.d_law_same t.g_law_same scLawSame (fun vs H Q E h => h.elim) (fun _ _ _ _ _ _ us hl => match us, hl with | [_, _], _ => rfl) fun cdv A outer s H vs Q E hr h => h.elim
  | n + 1 => by
    have ih := ok_same t n
    refine mkOk t.d_law_same t.g_law_same scLawSame (fun vs H Q E h => ?_) (fun _ _ _ _ _ _ us hl => match us, hl with | [_, _], _ => rfl) fun cdv A outer s H vs Q E hr h => ?_
    · obtain ⟨x, y, rfl, _⟩ := h; rfl
    obtain ⟨x, y, rfl, hE, k⟩ := h
    refine ⟨_, pss_cons (ps_if (PW.pt (pw_or (pt_val (pe_callB call_isi rfl t.f_isinstance (by decide +kernel) (pa_cons (pv 1) (pa_cons (pe_bltn (v := .ty "tuple") rfl t.f_tuple (by decide +kernel) rfl) pa_nil)))) (pw_or1 (pt_val (pe_callB call_isi rfl t.f_isinstance (by decide +kernel) (pa_cons (pv 1) (pa_cons (pe_bltn (v := .ty "list") rfl t.f_list (by decide +kernel) rfl) pa_nil)))))))
      (pss_cons (ps_if (PW.pt (pw_or (pt_cmpR op_ne (pe_callB call_isi rfl t.f_isinstance (by decide +kernel) (pa_cons (pv 1) (pa_cons (pe_bltn (v := .ty "tuple") rfl t.f_tuple (by decide +kernel) rfl) pa_nil))) (pe_callB call_isi rfl t.f_isinstance (by decide +kernel) (pa_cons (pv 0) (pa_cons (pe_bltn (v := .ty "tuple") rfl t.f_tuple (by decide +kernel) rfl) pa_nil))) (nomark _)) (pw_or1 (pt_cmpR op_ne (pe_callB call_isi rfl t.f_isinstance (by decide +kernel) (pa_cons (pv 1) (pa_cons (pe_bltn (v := .ty "list") rfl t.f_list (by decide +kernel) rfl) pa_nil))) (pe_callB call_isi rfl t.f_isinstance (by decide +kernel) (pa_cons (pv 0) (pa_cons (pe_bltn (v := .ty "list") rfl t.f_list (by decide +kernel) rfl) pa_nil))) (nomark _)))))
      (pss_one (ps_ret pe_bl))
      pss_nil)
    (pss_cons (ps_if (pt_cmpR op_ne (pe_callB call_len_seq rfl t.f_len boot_len (pa_cons (pv 0) pa_nil)) (pe_callB call_len_seq rfl t.f_len boot_len (pa_cons (pv 1) pa_nil)) (nomark _))
      (pss_one (ps_ret pe_bl))
      pss_nil)
    (pss_cons (ps_for PassesOwn.never rfl (pi_range1 rfl t.f_range (pa_cons (pe_callB call_len_seq rfl t.f_len boot_len (pa_cons (pv 1) pa_nil)) pa_nil)) (pg_name (i := 2) scLawSame.nd rfl (Or.inl rfl))
      (pss_one (ps_if (pt_not (pt_val (pe_ok ih hr rfl (pa_cons (pe_ix ix_seq (pv 0) (pv 2) (fun _ _ => rfl)) (pa_cons (pe_ix ix_seq (pv 1) (pv 2) (fun _ _ => rfl)) pa_nil)))))
      (pss_one (ps_ret pe_bl))
      pss_nil)))
    (pss_one (ps_ret pe_bl)))))
      pss_nil)
    (pss_cons (ps_if (pt_cmpR op_ne (pe_callB call_isi rfl t.f_isinstance (by decide +kernel) (pa_cons (pv 1) (pa_cons (pe_bltn (v := .ty "bool") rfl t.f_bool (by decide +kernel) rfl) pa_nil))) (pe_callB call_isi rfl t.f_isinstance (by decide +kernel) (pa_cons (pv 0) (pa_cons (pe_bltn (v := .ty "bool") rfl t.f_bool (by decide +kernel) rfl) pa_nil))) (nomark _))
      (pss_one (ps_ret pe_bl))
      pss_nil)
    (pss_cons (ps_if (PW.pt (pw_or (pt_cmpR op_ne (pe_callB call_isi rfl t.f_isinstance (by decide +kernel) (pa_cons (pv 1) (pa_cons (pe_bltn (v := .ty "int") rfl t.f_int (by decide +kernel) rfl) pa_nil))) (pe_callB call_isi rfl t.f_isinstance (by decide +kernel) (pa_cons (pv 0) (pa_cons (pe_bltn (v := .ty "int") rfl t.f_int (by decide +kernel) rfl) pa_nil))) (nomark _)) (pw_or1 (pt_cmpR op_ne (pe_callB call_isi rfl t.f_isinstance (by decide +kernel) (pa_cons (pv 1) (pa_cons (pe_bltn (v := .ty "str") rfl t.f_str (by decide +kernel) rfl) pa_nil))) (pe_callB call_isi rfl t.f_isinstance (by decide +kernel) (pa_cons (pv 0) (pa_cons (pe_bltn (v := .ty "str") rfl t.f_str (by decide +kernel) rfl) pa_nil))) (nomark _)))))
      (pss_one (ps_ret pe_bl))
      pss_nil)
    (pss_one (ps_ret (pe_cmpR op_eq (pv 0) (pv 1) (nomark _)))))), ?_⟩
    have fl : (x = y ∧ flatV x = true) ∨ ∃ m, n = m + 1 ∧ ∃ a b xs ys, x = .ref a ∧ y = .ref b ∧ ((H a = some (.lst xs) ∧ H b = some (.lst ys)) ∨ (H a = some (.tup xs) ∧ H b = some (.tup ys))) ∧ xs.length = ys.length ∧ xs.length ≤ 100000 ∧ ∀ (i : Nat) u v, xs[i]? = some u → ys[i]? = some v → Eqd m H u v := by
      cases n with
      | zero => exact .inl hE
      | succ m => exact hE.imp id fun h => ⟨m, rfl, h⟩
    rcases fl with ⟨rfl, hf⟩ | ⟨m, rfl, a, b, xs, ys, rfl, rfl, hab, hl, hs, hi⟩
    · have fin : Q (.bl (decide (x = x))) H := by rw [decide_eq_true rfl]; exact k
      cases x with
      | non =>
        refine ⟨_, rfl, _, _, _, _, false, rfl, .ty _, .base .non, kit_ty (by decide +kernel), _, rfl, iteF ⟨_, rfl, _, _, _, _, false, rfl, .ty _, .base .non, kit_ty (by decide +kernel), _, rfl, iteF ?_⟩⟩
        refine ⟨_, rfl, _, _, _, _, false, rfl, .ty _, .base .non, kit_ty (by decide +kernel), _, rfl, _, _, _, _, false, rfl, .ty _, .base .non, kit_ty (by decide +kernel), rfl, _, rfl, iteF ?_⟩
        refine ⟨_, rfl, _, _, _, _, false, rfl, .ty _, .base .non, kit_ty (by decide +kernel), _, rfl, _, _, _, _, false, rfl, .ty _, .base .non, kit_ty (by decide +kernel), rfl, _, rfl, iteF ?_⟩
        refine ⟨_, rfl, _, _, _, _, false, rfl, .ty _, .base .non, kit_ty (by decide +kernel), _, rfl, _, _, _, _, false, rfl, .ty _, .base .non, kit_ty (by decide +kernel), rfl, _, rfl, iteF ?_⟩
        exact ⟨_, rfl, _, rfl, rfl, fin⟩
      | bl c =>
        refine ⟨_, rfl, _, _, _, _, false, rfl, .ty _, .base (.bl _), kit_ty (by decide +kernel), _, rfl, iteF ⟨_, rfl, _, _, _, _, false, rfl, .ty _, .base (.bl _), kit_ty (by decide +kernel), _, rfl, iteF ?_⟩⟩
        refine ⟨_, rfl, _, _, _, _, true, rfl, .ty _, .base (.bl _), kit_ty (by decide +kernel), _, rfl, _, _, _, _, true, rfl, .ty _, .base (.bl _), kit_ty (by decide +kernel), rfl, _, rfl, iteF ?_⟩
        refine ⟨_, rfl, _, _, _, _, true, rfl, .ty _, .base (.bl _), kit_ty (by decide +kernel), _, rfl, _, _, _, _, true, rfl, .ty _, .base (.bl _), kit_ty (by decide +kernel), rfl, _, rfl, iteF ?_⟩
        refine ⟨_, rfl, _, _, _, _, false, rfl, .ty _, .base (.bl _), kit_ty (by decide +kernel), _, rfl, _, _, _, _, false, rfl, .ty _, .base (.bl _), kit_ty (by decide +kernel), rfl, _, rfl, iteF ?_⟩
        exact ⟨_, rfl, _, rfl, rfl, fin⟩
      | int c =>
        refine ⟨_, rfl, _, _, _, _, false, rfl, .ty _, .base (.int _), kit_ty (by decide +kernel), _, rfl, iteF ⟨_, rfl, _, _, _, _, false, rfl, .ty _, .base (.int _), kit_ty (by decide +kernel), _, rfl, iteF ?_⟩⟩
        refine ⟨_, rfl, _, _, _, _, false, rfl, .ty _, .base (.int _), kit_ty (by decide +kernel), _, rfl, _, _, _, _, false, rfl, .ty _, .base (.int _), kit_ty (by decide +kernel), rfl, _, rfl, iteF ?_⟩
        refine ⟨_, rfl, _, _, _, _, true, rfl, .ty _, .base (.int _), kit_ty (by decide +kernel), _, rfl, _, _, _, _, true, rfl, .ty _, .base (.int _), kit_ty (by decide +kernel), rfl, _, rfl, iteF ?_⟩
        refine ⟨_, rfl, _, _, _, _, false, rfl, .ty _, .base (.int _), kit_ty (by decide +kernel), _, rfl, _, _, _, _, false, rfl, .ty _, .base (.int _), kit_ty (by decide +kernel), rfl, _, rfl, iteF ?_⟩
        exact ⟨_, rfl, _, rfl, rfl, fin⟩
      | str c =>
        refine ⟨_, rfl, _, _, _, _, false, rfl, .ty _, .base (.str _), kit_ty (by decide +kernel), _, rfl, iteF ⟨_, rfl, _, _, _, _, false, rfl, .ty _, .base (.str _), kit_ty (by decide +kernel), _, rfl, iteF ?_⟩⟩
        refine ⟨_, rfl, _, _, _, _, false, rfl, .ty _, .base (.str _), kit_ty (by decide +kernel), _, rfl, _, _, _, _, false, rfl, .ty _, .base (.str _), kit_ty (by decide +kernel), rfl, _, rfl, iteF ?_⟩
        refine ⟨_, rfl, _, _, _, _, false, rfl, .ty _, .base (.str _), kit_ty (by decide +kernel), _, rfl, _, _, _, _, false, rfl, .ty _, .base (.str _), kit_ty (by decide +kernel), rfl, _, rfl, iteF ?_⟩
        refine ⟨_, rfl, _, _, _, _, true, rfl, .ty _, .base (.str _), kit_ty (by decide +kernel), _, rfl, _, _, _, _, true, rfl, .ty _, .base (.str _), kit_ty (by decide +kernel), rfl, _, rfl, iteF ?_⟩
        exact ⟨_, rfl, _, rfl, rfl, fin⟩
      | _ => cases hf
    · have la : SqL K H a xs ∨ SqT K H a xs := hab.imp (fun h => SqL.of h.1) (fun h => SqT.of h.1)
      have lb : SqL K H b ys ∨ SqT K H b ys := hab.imp (fun h => SqL.of h.2) (fun h => SqT.of h.2)
      have qa : ∀ (j : Nat) (u : V) (Qr : VK), xs[j]? = some u → Qr u H → rIx K (.ref a) (.int (j : Int)) H Qr := fun j u Qr h q => la.elim (fun l => .inl ⟨_, _, _, _, rfl, rfl, l, atI_nat h, q⟩) (fun l => .inr (.inl ⟨_, _, _, _, rfl, rfl, l, atI_nat h, q⟩))
      have qb : ∀ (j : Nat) (u : V) (Qr : VK), ys[j]? = some u → Qr u H → rIx K (.ref b) (.int (j : Int)) H Qr := fun j u Qr h q => lb.elim (fun l => .inl ⟨_, _, _, _, rfl, rfl, l, atI_nat h, q⟩) (fun l => .inr (.inl ⟨_, _, _, _, rfl, rfl, l, atI_nat h, q⟩))
      refine Or.elim hab (fun hc => ?_) (fun hc => ?_)
      refine ⟨_, rfl, _, _, _, _, false, rfl, .ty _, .base (.lst hc.2), kit_ty (by decide +kernel), _, rfl, iteF ⟨_, rfl, _, _, _, _, true, rfl, .ty _, .base (.lst hc.2), kit_ty (by decide +kernel), _, rfl, iteT ?_⟩⟩
      refine ⟨_, rfl, _, _, _, _, false, rfl, .ty _, .base (.lst hc.2), kit_ty (by decide +kernel), _, rfl, _, _, _, _, false, rfl, .ty _, .base (.lst hc.1), kit_ty (by decide +kernel), rfl, _, rfl, iteF ?_⟩
      refine ⟨_, rfl, _, _, _, _, true, rfl, .ty _, .base (.lst hc.2), kit_ty (by decide +kernel), _, rfl, _, _, _, _, true, rfl, .ty _, .base (.lst hc.1), kit_ty (by decide +kernel), rfl, _, rfl, iteF ?_⟩
      rotate_left
      refine ⟨_, rfl, _, _, _, _, true, rfl, .ty _, .base (.tup hc.2), kit_ty (by decide +kernel), _, rfl, iteT (iteT ?_)⟩
      refine ⟨_, rfl, _, _, _, _, true, rfl, .ty _, .base (.tup hc.2), kit_ty (by decide +kernel), _, rfl, _, _, _, _, true, rfl, .ty _, .base (.tup hc.1), kit_ty (by decide +kernel), rfl, _, rfl, iteF ?_⟩
      refine ⟨_, rfl, _, _, _, _, false, rfl, .ty _, .base (.tup hc.2), kit_ty (by decide +kernel), _, rfl, _, _, _, _, false, rfl, .ty _, .base (.tup hc.1), kit_ty (by decide +kernel), rfl, _, rfl, iteF ?_⟩
      rotate_left
      all_goals
        refine ⟨_, rfl, a, _, rfl, la, _, rfl, b, _, rfl, lb, rfl, _, rfl, ?_⟩
        rw [hl, decide_eq_true rfl]
        refine iteF ?_
        refine ⟨_, rfl, b, _, rfl, lb, _, rfl, by omega, by omega, ?_⟩
        refine for_range (lo := 0) (n := ((ys.length : Nat) : Int).toNat) (fun i σ' H' => (∃ o2 : Option V, σ' = [some (.ref a), some (.ref b), o2]) ∧ H' = H) ⟨⟨_, rfl⟩, rfl⟩ ?_ (fun σ' H' p => by rw [p.2]; exact k)
        rintro i σ' H' hi' ⟨⟨o2, rfl⟩, rfl⟩
        have ix : i < xs.length := by omega
        have iy : i < ys.length := by omega
        have gx : xs[i]? = some xs[i] := List.getElem?_eq_getElem ix
        have gy : ys[i]? = some ys[i] := List.getElem?_eq_getElem iy
        have e0 : (0 : Int) + (i : Int) = (i : Int) := by omega
        rw [e0]
        refine ⟨_, rfl, _, rfl, qa i _ _ gx ⟨_, rfl, _, rfl, qb i _ _ gy ⟨_, _, rfl, hi i _ _ gx gy, _, rfl, iteF ⟨⟨_, rfl⟩, rfl⟩⟩⟩⟩
end
end Sx

set_option Elab.async false
set_option linter.all false
set_option maxRecDepth 100000
set_option maxHeartbeats 2000000
namespace Sx
open PySem PySem.Spec PyProof.Rows L2 SxA
def spLaw (K : PySem.W.Frag) : Sp := fun vs H Q _ => ∃ (a : Addr) (ns : List Int), vs = [.ref a] ∧ SqL K H a (ns.map V.int) ∧ ns.length ≤ 63 ∧ ∀ H', Q (.bl true) H'
def vL (v : V) : Option (List Int) → List V
  | none => []
  | some _ => [v]
theorem vL_len (v : V) (o : Option (List Int)) : (vL v o).length ≤ 1 := by cases o <;> simp [vL]
theorem oL_len (o : Option (List Int)) : o.toList.length ≤ 1 := by cases o <;> simp
theorem vL_lbs {H : Hp} {v : V} {o : Option (List Int)} (h : LbO H v o) : Lbs H (vL v o) o.toList := by
  cases o with
  | none => exact Lbs.nil H
  | some ns =>
    obtain ⟨a, rfl, e, _⟩ := h
    refine ⟨rfl, fun i x L hx hL => ?_⟩
    cases i with
    | zero => exact ⟨a, (Option.some.inj hx).symm, by rw [e, Option.some.inj hL]⟩
    | succ i => cases hx
theorem Lbs.append {H : Hp} {xs ys : List V} {Ls Ms : List (List Int)} (h : Lbs H xs Ls) (g : Lbs H ys Ms) : Lbs H (xs ++ ys) (Ls ++ Ms) := by
  refine ⟨by rw [List.length_append, List.length_append, h.1, g.1], fun i x L hx hL => ?_⟩
  by_cases lt : i < xs.length
  · rw [List.getElem?_append_left lt] at hx
    rw [List.getElem?_append_left (by rw [← h.1]; exact lt)] at hL
    exact h.2 i x L hx hL
  · rw [List.getElem?_append_right (by omega)] at hx
    rw [List.getElem?_append_right (by rw [← h.1]; omega), ← h.1] at hL
    exact g.2 _ x L hx hL
theorem eqd_ints (H : Hp) (L : List Int) : ∀ (i : Nat) u v, (L.map V.int)[i]? = some u → (L.map V.int)[i]? = some v → Eqd 0 H u v := fun i u v hu hv => by
  rw [hu] at hv
  obtain rfl := Option.some.inj hv
  rw [List.getElem?_map] at hu
  cases e : L[i]? with
  | none => rw [e] at hu; cases hu
  | some y => rw [e] at hu; obtain rfl := Option.some.inj hu; exact ⟨rfl, rfl⟩
theorem eqd_lbs {H : Hp} {p q : Addr} {xs ys : List V} {Ls : List (List Int)} (hp : H p = some (.lst xs)) (hq : H q = some (.lst ys)) (h : Lbs H xs Ls) (g : Lbs H ys Ls) (hn : Ls.length ≤ 100) (hl : ∀ L ∈ Ls, L.length ≤ 1000) : Eqd 2 H (.ref p) (.ref q) := by
  refine .inr ⟨p, q, xs, ys, rfl, rfl, .inl ⟨hp, hq⟩, by rw [h.1, g.1], by rw [h.1]; omega, fun i u v hu hv => ?_⟩
  have il : i < Ls.length := by rw [← h.1]; exact (List.getElem?_eq_some_iff.mp hu).1
  have hL : Ls[i]? = some Ls[i] := List.getElem?_eq_getElem il
  obtain ⟨a, rfl, ha⟩ := h.2 i u _ hu hL
  obtain ⟨b, rfl, hb⟩ := g.2 i v _ hv hL
  exact .inr ⟨a, b, _, _, rfl, rfl, .inr ⟨ha, hb⟩, rfl, by rw [List.length_map]; have := hl _ (List.getElem_mem il); omega, eqd_ints H _⟩
theorem lbL_short {bo ao : Option (List Int)} {n : Nat} (hb : (bo.getD []).length ≤ 100) (ha : ∀ a, ao = some a → a.length ≤ 100) : ∀ L ∈ lbL bo ao n, L.length ≤ 1000 := fun L h => by
  unfold lbL at h
  rw [List.mem_map] at h
  obtain ⟨j, _, rfl⟩ := h
  rw [List.length_append, List.length_append, List.length_replicate, List.length_singleton]
  have : zn (bo.getD []) ao ≤ 101 := by
    cases ao with
    | none => exact Nat.zero_le _
    | some a =>
      show (if a.take (bo.getD []).length = bo.getD [] then _ else _) ≤ _
      have := lz_le (a.drop (bo.getD []).length)
      rw [List.length_drop] at this
      have := ha a rfl
      split <;> omega
  omega
theorem lex_ne {a b : List Int} : HT.lexLt a b = true → a ≠ b := fun h q => by
  subst q
  have : ∀ l : List Int, HT.lexLt l l = false := fun l => by
    induction l with
    | nil => rfl
    | cons x l ih => show (if x = x then HT.lexLt l l else _) = false; rw [if_pos rfl, ih]
  rw [this] at h; cases h
theorem IsLb.app {a b : List Int} (h : ∀ x ∈ a, (0 : Int) ≤ x) (g : IsLb b) : IsLb (a ++ b) := by
  refine ⟨fun x hx => (List.mem_append.mp hx).elim (h x) (g.1 x), ?_⟩
  obtain ⟨z, hz, z1⟩ := g.2
  refine ⟨z, ?_, z1⟩
  rw [List.getLast?_append, hz]
  rfl
theorem atS1 {xs : List V} {z : Int} {j : Nat} {v : V} (e : z = (j : Int)) (h : xs[j]? = some v) : atI xs z = some v := by
  subst e
  exact atI_nat h
section
variable {P : Program} {w : World} {K : PySem.W.Frag} {mg : Str → Option Value} {base : Heap}
abbrev nsLaw : List Str := ["script", "draws", "turn", "first", "second", "k", "number", "pair", "told", "rows", "row"]
theorem scLaw : FnScope nsLaw ["script"] (defScope sLaw) := ⟨rfl, rfl, rfl, by decide +kernel, rfl, by decide +kernel, by decide +kernel⟩
theorem ok_law (t : T K mg) {fd : FuncData} (F : FunD K "law" "law" (defArgs sLaw) (defBody sLaw) (defScope sLaw) [] [] (He.ga K "law") fd) : FnOk P w K mg base CX0 6 (He.ga K "law") fd ["script"] (spLaw K) := by
  refine mkFn F scLaw (fun vs H Q E h => ?_) fun cdv A outer s H vs Q E hr h => ?_
  · obtain ⟨a, ns, rfl, _⟩ := h; rfl
  obtain ⟨sc, zs, rfl, hS, hlen, k⟩ := h
  have hr1 : Room 1 _ := hr.mono (by decide)
  have hr2 : Room 2 _ := hr.mono (by decide)
  have hr4 : Room 4 _ := hr.mono (by decide)
  refine ⟨_, pss_cons (ps_set (i := 1) scLaw.nd rfl (Or.inl rfl) (pe_ok (ok_law_draws t) hr1 rfl (pa_cons (pv 0) pa_nil)))
    (pss_cons (ps_for PassesOwn.never rfl (pi_range1 rfl t.f_range (pa_cons pe_int pa_nil)) (pg_name (i := 2) scLaw.nd rfl (Or.inl rfl))
      (pss_cons (ps_set (i := 3) scLaw.nd rfl (Or.inl rfl) (pe_ok (ok_law_label t) hr2 rfl (pa_cons (pv 1) (pa_cons pe_int pa_nil))))
    (pss_cons (ps_set (i := 4) scLaw.nd rfl (Or.inl rfl) (pe_ok (ok_law_label t) hr2 rfl (pa_cons (pv 1) (pa_cons pe_int pa_nil))))
    (C8.pss_cut (ps_if (pt_cmpR op_eq (pe_ok (ok_law_take t) hr1 rfl (pa_cons (pv 1) (pa_cons pe_int pa_nil))) pe_int (nomark _))
      (pss_one (ps_set (i := 4) scLaw.nd rfl (Or.inl rfl) (pe_op op_catA (pe_op op_catA (pv 3) (pe_callTy call_tuple_of rfl t.f_tuple (by decide +kernel) (pa_cons (pe_lc (own := [("k", 5)]) (g := gName 5) (tt := tYes) rfl scLaw.nd (pi_range1 rfl t.f_range (pa_cons (pe_ok (ok_law_take t) hr1 rfl (pa_cons (pv 1) (pa_cons pe_int pa_nil))) pa_nil)) (blkOk_by (own := [("k", 5)]) (N := nsLaw) (sc := defScope sLaw) (by decide +kernel)) (fun _ _ _ _ _ => pg_name (i := 5) scLaw.nd rfl (Or.inl rfl)) (fun _ _ _ _ _ => pts_nil) (fun _ _ _ _ _ => pe_int)) pa_nil))) (pe_ok (ok_law_label t) hr2 rfl (pa_cons (pv 1) (pa_cons pe_int pa_nil))))))
      pss_nil)
    (C8.pss_cut (ps_if (pt_cmpR (op_eqD (hu64 hr)) (pv 3) (pv 4) (nomark _))
      (pss_one (ps_set (i := 4) scLaw.nd rfl (Or.inl rfl) (pe_op op_catA (pv 3) (pe_tup (pa_cons pe_int pa_nil)))))
      pss_nil)
    (C8.pss_cut (ps_if (pt_cmpR (op_ltT hr.units0) (pv 4) (pv 3) (nomark _))
      (pss_one (ps_par (i := 3) (j := 4) (by rfl) scLaw.nd rfl rfl (by decide) rfl rfl (pa_cons (pv 4) (pa_cons (pv 3) pa_nil)) (by rfl)))
      pss_nil)
    (pss_cons (ps_set (i := 6) scLaw.nd rfl (Or.inl rfl) (pe_ok (ok_law_take t) hr1 rfl (pa_cons (pv 1) (pa_cons pe_int pa_nil))))
    (pss_one (ps_for PassesOwn.never rfl (pi_list (pe_lst (pa_cons (pe_tup (pa_cons (pv 3) (pa_cons (pv 4) pa_nil))) (pa_cons (pe_tup (pa_cons pe_non (pa_cons (pv 4) pa_nil))) (pa_cons (pe_tup (pa_cons (pv 3) (pa_cons pe_non pa_nil))) (pa_cons (pe_tup (pa_cons pe_non (pa_cons pe_non pa_nil))) pa_nil)))))) (pg_name (i := 7) scLaw.nd rfl (Or.inl rfl))
      (pss_cons (ps_set (i := 8) scLaw.nd rfl (Or.inl rfl) (pe_ok (ok_labels_between t) hr1 rfl (pa_cons (pe_ix ix_tup (pv 7) pe_int (fun _ _ => rfl)) (pa_cons (pe_ix ix_tup (pv 7) pe_int (fun _ _ => rfl)) (pa_cons (pv 6) pa_nil)))))
    (pss_cons (ps_if (pt_not (pt_val (pe_ok (ok_same t 3) hr4 rfl (pa_cons (pv 8) (pa_cons (pe_ok (ok_law_due t) hr1 rfl (pa_cons (pe_ix ix_tup (pv 7) pe_int (fun _ _ => rfl)) (pa_cons (pe_ix ix_tup (pv 7) pe_int (fun _ _ => rfl)) (pa_cons (pv 6) pa_nil)))) pa_nil)))))
      (pss_one (ps_ret pe_bl))
      pss_nil)
    (pss_cons (ps_set (i := 9) scLaw.nd rfl (Or.inl rfl) (pe_op op_cat (pe_op op_cat (pe_lc (own := [("row", 10)]) (g := gName 10) rfl scLaw.nd (pi_list (pe_lst (pa_cons (pe_ix ix_tup (pv 7) pe_int (fun _ _ => rfl)) pa_nil))) (blkOk_by (own := [("row", 10)]) (N := nsLaw) (sc := defScope sLaw) (by decide +kernel)) (fun _ _ _ _ _ => pg_name (i := 10) scLaw.nd rfl (Or.inl rfl)) (fun _ _ _ _ _ => pts_one (pt_cmpR op_notN (pv 10) pe_non (nomark _))) (fun _ _ _ _ _ => (pv 10))) (pv 8)) (pe_lc (own := [("row", 10)]) (g := gName 10) rfl scLaw.nd (pi_list (pe_lst (pa_cons (pe_ix ix_tup (pv 7) pe_int (fun _ _ => rfl)) pa_nil))) (blkOk_by (own := [("row", 10)]) (N := nsLaw) (sc := defScope sLaw) (by decide +kernel)) (fun _ _ _ _ _ => pg_name (i := 10) scLaw.nd rfl (Or.inl rfl)) (fun _ _ _ _ _ => pts_one (pt_cmpR op_notN (pv 10) pe_non (nomark _))) (fun _ _ _ _ _ => (pv 10)))))
    (pss_one (ps_for PassesOwn.never rfl (pi_range2 rfl t.f_range (pa_cons pe_int (pa_cons (pe_callB call_len_seq rfl t.f_len boot_len (pa_cons (pv 9) pa_nil)) pa_nil))) (pg_name (i := 5) scLaw.nd rfl (Or.inl rfl))
      (pss_one (ps_if (PW.pt (pw_or (pt_not (pt_cmpR (op_ltT hr.units0) (pe_ix ix_list (pv 9) (pe_op op_sub (pv 5) pe_int) (fun _ _ => rfl)) (pe_ix ix_list (pv 9) (pv 5) (fun _ _ => rfl)) (nomark _))) (pw_or1 (pt_cmpR op_lt (pe_ix ix_tup (pe_ix ix_list (pv 9) (pv 5) (fun _ _ => rfl)) (pe_op op_sub (pe_callB call_len_seq rfl t.f_len boot_len (pa_cons (pe_ix ix_list (pv 9) (pv 5) (fun _ _ => rfl)) pa_nil)) pe_int) (fun _ _ => rfl)) pe_int (nomark _)))))
      (pss_one (ps_ret pe_bl))
      pss_nil))))))))))))))))
    (pss_one (ps_ret pe_bl))), ?_⟩
  refine ⟨_, rfl, sc, zs, rfl, hS, hlen, fun p H1 hp s1 D1 => ?_⟩
  refine ⟨4, rfl, by decide, by decide, ?_⟩
  refine for_range (lo := 0) (n := 4) (fun i σ' H' => (∃ o2 o3 o4 o5 o6 o7 o8 o9 o10 : Option V, σ' = [some (.ref sc), some (.ref p), o2, o3, o4, o5, o6, o7, o8, o9, o10]) ∧ Dr H' p) ⟨⟨_, _, _, _, _, _, _, _, _, rfl⟩, D1⟩ ?_ (fun σ' H' z => k H')
  rintro i σ' H' hi ⟨⟨o2, o3, o4, o5, o6, o7, o8, o9, o10, rfl⟩, D2⟩
  refine ⟨_, rfl, p, 4, rfl, D2, by decide, by decide, fun f F H2 hF fl hf D3 B3 => ?_⟩
  refine ⟨_, rfl, p, 4, rfl, D3, by decide, by decide, fun s' S H3 hS' sl hs D4 B4 => ?_⟩
  have nfp : f ≠ p := fun e => by obtain ⟨ns, q⟩ := D3; rw [← e, hf] at q; cases q
  have hf3 := B4 _ _ hf nfp
  refine ⟨fun σ2 H2 => (∃ (g : Addr) (G : List Int) (o5 : Option V), σ2 = [some (.ref sc), some (.ref p), some (.int (0 + (i : Int))), some (.ref f), some (.ref g), o5, o6, o7, o8, o9, o10] ∧ IsLb G ∧ G.length ≤ 40 ∧ H2 g = some (ti G)) ∧ H2 f = some (ti F) ∧ Dr H2 p, ?_, ?_⟩
  · refine ⟨_, rfl, p, 2, rfl, D4, by decide, fun v H4 v0 v1 D5 B5 => ?_⟩
    have hf4 := B5 _ _ hf3 nfp
    have nsp : s' ≠ p := fun e => by obtain ⟨ns, q⟩ := D4; rw [← e, hs] at q; cases q
    refine ⟨rfl, _, rfl, ite2 (fun h1 => ?_) (fun h1 => ⟨⟨s', S, _, rfl, hS', by omega, B5 _ _ hs nsp⟩, hf4, D5⟩)⟩
    refine ⟨_, rfl, _, rfl, p, 3, rfl, D5, by decide, fun u H5 u0 u1 D6 B6 => ?_⟩
    have hf5 := B6 _ _ hf4 nfp
    refine ⟨_, rfl, by omega, by omega, fun C hC => ?_⟩
    refine lc_rangeF (lo := 0) (n := u.toNat) (f := fun _ => true) (F := fun _ => V.int 0) hC (Nat.le_of_lt (small1 (by omega))) (fun _ => rfl) (fun i H Q _ _ q => q) (fun i H Q _ _ q => q) fun H6 s6 hC6 => ?_
    refine ⟨C, _, rfl, .inl ⟨SqL.of hC6, fun l hl => ?_⟩⟩
    have e0 : ((List.range u.toNat).filter fun _ => true).map (fun _ => V.int 0) = (List.replicate u.toNat (0 : Int)).map V.int := by
      rw [List.filter_eq_self.mpr (fun _ _ => rfl), List.map_const', List.length_range, List.map_replicate]
    rw [e0]
    have s7 : Same H5 (upd H6 l (.tup ((List.replicate u.toNat (0 : Int)).map V.int))) := s6.trans (Same.new hl)
    refine catT (xs := F.map V.int) (ys := (List.replicate u.toNat (0 : Int)).map V.int) (s7 _ _ hf5) upd_same ?_ fun r H7 s8 hr7 => ?_
    · rw [List.length_map, List.length_map, List.length_replicate]; exact Nat.le_of_lt (small1 (by omega))
    have D7 : Dr H7 p := D6.same (s7.trans s8)
    have hf7 := s8 _ _ (s7 _ _ hf5)
    refine ⟨_, rfl, p, 2, rfl, D7, by decide, by decide, fun q L H8 hL ll hq D8 B8 => ?_⟩
    have nrp : r ≠ p := fun e => by obtain ⟨ns, z⟩ := D7; rw [← e, hr7] at z; cases z
    refine catT (xs := F.map V.int ++ (List.replicate u.toNat (0 : Int)).map V.int) (ys := L.map V.int) (B8 _ _ hr7 nrp) hq ?_ fun g H9 s9 hg9 => ?_
    · rw [List.length_append, List.length_map, List.length_map, List.length_map, List.length_replicate]; exact Nat.le_of_lt (small1 (by omega))
    refine ⟨⟨g, (F ++ List.replicate u.toNat 0) ++ L, _, rfl, IsLb.app (fun x hx => ?_) hL, ?_, ?_⟩, s9 _ _ (B8 _ _ hf7 nfp), D8.same s9⟩
    · rcases List.mem_append.mp hx with z | z
      · exact hF.1 x z
      · rw [(List.mem_replicate.mp z).2]; exact Int.le_refl _
    · rw [List.length_append, List.length_append, List.length_replicate]; omega
    · rw [hg9]
      show _ = some (HO.tup _)
      rw [List.map_append, List.map_append]
  rintro σ2 H4 ⟨⟨s', S, o5, rfl, hS', sl, hs⟩, hf4, D4⟩
  refine ⟨fun σ2 H2 => (∃ (g : Addr) (G : List Int), σ2 = [some (.ref sc), some (.ref p), some (.int (0 + (i : Int))), some (.ref f), some (.ref g), o5, o6, o7, o8, o9, o10] ∧ IsLb G ∧ G.length ≤ 41 ∧ H2 g = some (ti G) ∧ F ≠ G) ∧ H2 f = some (ti F) ∧ Dr H2 p, ?_, ?_⟩
  · refine ⟨_, rfl, _, rfl, eqT hf4 hs ⟨_, rfl, ite2 (fun h1 => ?_) (fun h1 => ⟨⟨s', S, rfl, hS', by omega, hs, fun z => h1 (decide_eq_true z)⟩, hf4, D4⟩)⟩⟩
    refine ⟨_, rfl, (by show 1 ≤ sizeLine; decide), fun z hz => ?_⟩
    refine catT (xs := F.map V.int) (ys := [V.int 1]) ((Same.new hz) _ _ hf4) upd_same ?_ fun g H9 s9 hg9 => ?_
    · rw [List.length_map]; exact Nat.le_of_lt (small1 (by show _ + 1 ≤ 100000; omega))
    have s10 := (Same.new (o := .tup [V.int 1]) hz).trans s9
    refine ⟨⟨g, F ++ [1], rfl, IsLb.app hF.1 ⟨fun x hx => by rw [List.mem_singleton] at hx; omega, 1, rfl, by decide⟩, by rw [List.length_append]; show _ + 1 ≤ 41; omega, by rw [hg9]; exact tiA _ _, fun q => ?_⟩, s10 _ _ hf4, D4.same s10⟩
    have := congrArg List.length q
    rw [List.length_append] at this
    exact absurd this (by show ¬ _ = _ + 1; omega)
  rintro σ2 H5 ⟨⟨s', S, rfl, hS', sl, hs, ne⟩, hf5, D5⟩
  refine ⟨fun σ2 H2 => (∃ (f g : Addr) (F G : List Int), σ2 = [some (.ref sc), some (.ref p), some (.int (0 + (i : Int))), some (.ref f), some (.ref g), o5, o6, o7, o8, o9, o10] ∧ IsLb F ∧ IsLb G ∧ F.length ≤ 41 ∧ G.length ≤ 41 ∧ H2 f = some (ti F) ∧ H2 g = some (ti G) ∧ HT.lexLt F G = true) ∧ Dr H2 p, ?_, ?_⟩
  · refine ⟨_, rfl, _, rfl, s', f, S, F, rfl, rfl, SqT.of hs, SqT.of hf5, _, rfl, ite2 (fun h1 => ?_) (fun h1 => ?_)⟩
    · exact ⟨_, rfl, _, rfl, _, _, rfl, ⟨s', f, S, F, rfl, hS', hF, sl, by omega, hs, hf5, h1⟩, D5⟩
    · exact ⟨⟨f, s', F, S, rfl, hF, hS', by omega, sl, hf5, hs, lex_total F S ne (by simpa using h1)⟩, D5⟩
  rintro σ2 H6 ⟨⟨f, s', F, S, rfl, hF, hS', fl, sl, hf6, hs, lt⟩, D6⟩
  have nfp' : f ≠ p := fun e => by obtain ⟨ns, q⟩ := D6; rw [← e, hf6] at q; cases q
  have nsp' : s' ≠ p := fun e => by obtain ⟨ns, q⟩ := D6; rw [← e, hs] at q; cases q
  refine ⟨_, rfl, p, 5, rfl, D6, by decide, fun v H7 v0 v1 D7 B7 => ?_⟩
  obtain ⟨n, rfl⟩ : ∃ n : Nat, v = (n : Int) := ⟨v.toNat, by omega⟩
  have hf7 := B7 _ _ hf6 nfp'
  have hs7 := B7 _ _ hs nsp'
  refine ⟨_, rfl, _, rfl, (by show 2 ≤ sizeLine; decide), fun t1 ht1 => ?_⟩
  refine ⟨_, rfl, (by show 2 ≤ sizeLine; decide), fun t2 ht2 => ?_⟩
  refine ⟨_, rfl, (by show 2 ≤ sizeLine; decide), fun t3 ht3 => ?_⟩
  refine ⟨(by show 2 ≤ sizeLine; decide), fun t4 ht4 => ?_⟩
  refine ⟨(by show 4 ≤ sizeLine; decide), fun l hl => ?_⟩
  generalize hHB : upd (upd (upd (upd (upd H7 t1 (.tup [.ref f, .ref s'])) t2 (.tup [.non, .ref s'])) t3 (.tup [.ref f, .non])) t4 (.tup [.non, .non])) l (.lst [.ref t1, .ref t2, .ref t3, .ref t4]) = HB
  have sB : Same H7 HB := by
    rw [← hHB]
    exact ((((Same.new ht1).trans (Same.new ht2)).trans (Same.new ht3)).trans (Same.new ht4)).trans (Same.new hl)
  have prs : ∀ x, x ∈ [V.ref t1, .ref t2, .ref t3, .ref t4] → ∃ (q : Addr) (b a : V) (bo ao : Option (List Int)), x = .ref q ∧ HB q = some (.tup [b, a]) ∧ LbO HB b bo ∧ LbO HB a ao ∧ (∀ l, bo = some l → IsLb l) ∧ (∀ l, ao = some l → IsLb l) ∧ (∀ x y, bo = some x → ao = some y → HT.lexLt x y = true) := by
    have lF : LbO HB (.ref f) (some F) := ⟨f, rfl, sB _ _ hf7, by omega⟩
    have lS : LbO HB (.ref s') (some S) := ⟨s', rfl, sB _ _ hs7, by omega⟩
    have iF : ∀ l, some F = some l → IsLb l := fun l e => by rw [← Option.some.inj e]; exact hF
    have iS : ∀ l, some S = some l → IsLb l := fun l e => by rw [← Option.some.inj e]; exact hS'
    have i0 : ∀ l, (none : Option (List Int)) = some l → IsLb l := fun l e => by cases e
    intro x hx
    rw [List.mem_cons, List.mem_cons, List.mem_cons, List.mem_singleton] at hx
    rcases hx with rfl | rfl | rfl | rfl
    · refine ⟨t1, _, _, _, _, rfl, ?_, lF, lS, iF, iS, fun x y e1 e2 => by rw [← Option.some.inj e1, ← Option.some.inj e2]; exact lt⟩
      rw [← hHB]
      exact (Same.new hl) _ _ ((Same.new ht4) _ _ ((Same.new ht3) _ _ ((Same.new ht2) _ _ upd_same)))
    · refine ⟨t2, _, _, none, _, rfl, ?_, rfl, lS, i0, iS, fun x y e1 e2 => by cases e1⟩
      rw [← hHB]
      exact (Same.new hl) _ _ ((Same.new ht4) _ _ ((Same.new ht3) _ _ upd_same))
    · refine ⟨t3, _, _, _, none, rfl, ?_, lF, rfl, iF, i0, fun x y e1 e2 => by cases e2⟩
      rw [← hHB]
      exact (Same.new hl) _ _ ((Same.new ht4) _ _ upd_same)
    · refine ⟨t4, _, _, none, none, rfl, ?_, rfl, rfl, i0, i0, fun x y e1 e2 => by cases e1⟩
      rw [← hHB]
      exact (Same.new hl) _ _ upd_same
  have hlB : HB l = some (.lst [.ref t1, .ref t2, .ref t3, .ref t4]) := by rw [← hHB, upd_same]
  have DB : Dr HB p := D7.same sB
  refine ⟨l, rfl, ⟨_, SqL.of hlB⟩, ?_⟩
  refine for_list (K := K) (a := l) (xs := [V.ref t1, .ref t2, .ref t3, .ref t4]) (fun j σ' H' => (∃ o5 o7 o8 o9 o10 : Option V, σ' = [some (.ref sc), some (.ref p), some (.int (0 + (i : Int))), some (.ref f), some (.ref s'), o5, some (.int (n : Int)), o7, o8, o9, o10]) ∧ Same HB H') ⟨⟨_, _, _, _, _, rfl⟩, Same.refl _⟩ (fun j σ' H' _ z => SqL.of (z.2 _ _ hlB)) ?_ ?_
  · rintro j x σ' H' hx ⟨⟨o5, o7, o8, o9, o10, rfl⟩, s2⟩
    obtain ⟨q, b, a, bo, ao, rfl, hq, hb, ha, ib, ia, iba⟩ := prs x (List.mem_of_getElem? hx)
    have hq2 := s2 _ _ hq
    refine ⟨_, rfl, q, _, _, _, rfl, rfl, SqT.of hq2, atI_nat (j := 0) rfl, _, rfl, q, _, _, _, rfl, rfl, SqT.of hq2, atI_nat (j := 1) rfl, _, rfl, ?_⟩
    refine ⟨bo, ao, b, a, n, rfl, hb.same s2, ha.same s2, by omega, fun p1 xs1 H8 s3 h1 L1 => ?_⟩
    have hq3 := s3 _ _ hq2
    have s23 := s2.trans s3
    refine ⟨_, rfl, _, rfl, q, _, _, _, rfl, rfl, SqT.of hq3, atI_nat (j := 0) rfl, _, rfl, q, _, _, _, rfl, rfl, SqT.of hq3, atI_nat (j := 1) rfl, _, rfl, ?_⟩
    refine ⟨bo, ao, b, a, n, rfl, hb.same s23, ha.same s23, by omega, fun p2 xs2 H9 s4 h2 L2 => ?_⟩
    have s24 := s23.trans s4
    have bl : (bo.getD []).length ≤ 100 := by
      cases bo with
      | none => exact Nat.zero_le _
      | some ns => obtain ⟨_, _, _, z⟩ := hb; exact z
    have al : ∀ x, ao = some x → x.length ≤ 100 := fun x e => by subst e; obtain ⟨_, _, _, z⟩ := ha; exact z
    refine ⟨_, _, rfl, eqd_lbs (s4 _ _ h1) h2 (L1.same s4) L2 (by rw [lbL_len]; omega) (lbL_short bl al), _, rfl, ?_⟩
    refine iteF ?_
    have hq4 := s4 _ _ hq3
    have fil : ∀ (H : Hp) (v : V) (o : Option (List Int)), LbO H v o → ([v].filter fun x => !decide (x = V.non)).map (fun x => x) = vL v o := fun H v o h => by
      cases o with
      | none => rw [show v = .non from h]; rfl
      | some ns => obtain ⟨a, rfl, _⟩ := h; rfl
    refine ⟨_, rfl, q, _, _, _, rfl, rfl, SqT.of hq4, atI_nat (j := 0) rfl, (by show 1 ≤ sizeLine; decide), fun d1 hd1 => ?_⟩
    refine ⟨d1, rfl, ⟨_, SqL.of upd_same⟩, fun C1 hC1 => ?_⟩
    refine lc_listF (K := K) (xs := [b]) (f := fun x => !decide (x = V.non)) (F := fun x => x) hC1 upd_same (by show 1 ≤ sizeLine; decide) (fun _ => rfl) (fun x H8 Q8 hx s8 q8 => ⟨_, rfl, rfl, _, rfl, q8⟩) (fun x H8 Q8 hx s8 q8 => ⟨_, rfl, q8⟩) fun Ha sa ha1 => ?_
    rw [fil _ b bo hb] at ha1
    have s5 : Same H9 Ha := (Same.new hd1).trans sa
    refine ⟨_, rfl, C1, p1, _, _, rfl, rfl, ha1, s5 _ _ (s4 _ _ h1), ?_, fun r1 hr1' => ?_⟩
    · rw [L1.1, lbL_len]
      have := vL_len b bo
      exact Nat.le_of_lt (small1 (by omega))
    have s6 : Same H9 (upd Ha r1 (.lst (vL b bo ++ xs1))) := s5.trans (Same.new hr1')
    have hq5 := s6 _ _ hq4
    refine ⟨_, rfl, q, _, _, _, rfl, rfl, SqT.of hq5, atI_nat (j := 1) rfl, (by show 1 ≤ sizeLine; decide), fun d2 hd2 => ?_⟩
    refine ⟨d2, rfl, ⟨_, SqL.of upd_same⟩, fun C2 hC2 => ?_⟩
    refine lc_listF (K := K) (xs := [a]) (f := fun x => !decide (x = V.non)) (F := fun x => x) hC2 upd_same (by show 1 ≤ sizeLine; decide) (fun _ => rfl) (fun x H8 Q8 hx s8 q8 => ⟨_, rfl, rfl, _, rfl, q8⟩) (fun x H8 Q8 hx s8 q8 => ⟨_, rfl, q8⟩) fun Hc sc' hc1 => ?_
    rw [fil _ a ao ha] at hc1
    have s7 : Same (upd Ha r1 (.lst (vL b bo ++ xs1))) Hc := (Same.new hd2).trans sc'
    have vl : (vL b bo ++ xs1).length ≤ 10 ∧ (vL a ao).length ≤ 1 := by
      rw [List.length_append, L1.1, lbL_len]
      have := vL_len b bo
      have := vL_len a ao
      omega
    refine ⟨r1, C2, _, _, rfl, rfl, s7 _ _ upd_same, hc1, Nat.le_of_lt (small1 (by omega)), fun R hR => ?_⟩
    generalize hHR : upd Hc R (.lst ((vL b bo ++ xs1) ++ vL a ao)) = HR
    have s9R : Same H9 HR := by rw [← hHR]; exact (s6.trans s7).trans (Same.new hR)
    have hRR : HR R = some (.lst ((vL b bo ++ xs1) ++ vL a ao)) := by rw [← hHR, upd_same]
    have LR : Lbs HR ((vL b bo ++ xs1) ++ vL a ao) (rowsL bo ao n) := ((vL_lbs (hb.same (s24.trans s9R))).append (L1.same (s4.trans s9R))).append (vL_lbs (ha.same (s24.trans s9R)))
    have G := good_rows (n := n) ib ia iba
    have s2R : Same HB HR := s24.trans s9R
    generalize (vL b bo ++ xs1) ++ vL a ao = rs at hRR LR
    have rl : rs.length ≤ 11 := by
      rw [LR.1]
      unfold rowsL
      rw [List.length_append, List.length_append, lbL_len]
      have := oL_len bo
      have := oL_len ao
      omega
    refine ⟨_, rfl, R, _, rfl, .inl (SqL.of hRR), _, _, rfl, ⟨by omega, by omega, by omega, by omega⟩, ?_⟩
    refine for_range (lo := 1) (n := (((rs.length : Nat) : Int) - 1).toNat) (fun m σ' H' => (∃ o5 o10 : Option V, σ' = [some (.ref sc), some (.ref p), some (.int (0 + (i : Int))), some (.ref f), some (.ref s'), o5, some (.int (n : Int)), some (.ref q), some (.ref p1), some (.ref R), o10]) ∧ H' = HR) ⟨⟨_, _, rfl⟩, rfl⟩ ?_ ?_
    · rintro m σ' H' hm ⟨⟨o5, o10, rfl⟩, rfl⟩
      have m1 : m + 1 < rs.length := by omega
      have g1 : rs[m]? = some (rs[m]'(by omega)) := List.getElem?_eq_getElem _
      have g2 : rs[m + 1]? = some (rs[m + 1]'m1) := List.getElem?_eq_getElem _
      obtain ⟨La, l1⟩ : ∃ La, (rowsL bo ao n)[m]? = some La := ⟨_, List.getElem?_eq_getElem (by rw [← LR.1]; omega)⟩
      obtain ⟨Lb, l2⟩ : ∃ Lb, (rowsL bo ao n)[m + 1]? = some Lb := ⟨_, List.getElem?_eq_getElem (by rw [← LR.1]; omega)⟩
      obtain ⟨x1, e1, hx1⟩ := LR.2 m _ _ g1 l1
      obtain ⟨x2, e2, hx2⟩ := LR.2 (m + 1) _ _ g2 l2
      have glt := G.1 m _ _ l1 l2
      obtain ⟨z, hz, z1⟩ := G.2 _ (List.mem_of_getElem? l2)
      rw [e1] at g1
      rw [e2] at g2
      refine ⟨_, rfl, _, rfl, _, _, rfl, rfl, R, _, _, _, rfl, rfl, SqL.of hRR, atS1 (j := m) (by omega) g1, ?_⟩
      refine ⟨_, rfl, _, rfl, R, _, _, _, rfl, rfl, SqL.of hRR, atS1 (j := m + 1) (by omega) g2, ?_⟩
      refine ⟨x1, x2, La, Lb, rfl, rfl, SqT.of hx1, SqT.of hx2, _, rfl, ?_⟩
      rw [glt]
      refine iteF ?_
      have hz2 : (Lb.map V.int)[Lb.length - 1]? = some (V.int z) := by
        rw [List.getElem?_map, ← List.getLast?_eq_getElem?, hz]
        rfl
      have lb1 : 0 < Lb.length := by
        cases Lb with
        | nil => cases hz
        | cons => exact Nat.succ_pos _
      refine ⟨_, rfl, _, rfl, R, _, _, _, rfl, rfl, SqL.of hRR, atS1 (j := m + 1) (by omega) g2, ?_⟩
      refine ⟨_, rfl, _, rfl, R, _, _, _, rfl, rfl, SqL.of hRR, atS1 (j := m + 1) (by omega) g2, ?_⟩
      refine ⟨x2, _, rfl, .inr (SqT.of hx2), _, _, rfl, rfl, ?_⟩
      refine ⟨x2, _, _, _, rfl, rfl, SqT.of hx2, atS1 (j := Lb.length - 1) (by rw [List.length_map]; omega) hz2, ?_⟩
      refine ⟨_, _, rfl, rfl, _, rfl, ?_⟩
      rw [decide_eq_false (by omega)]
      exact iteF ⟨⟨_, _, rfl⟩, rfl⟩
    · rintro σ' H' ⟨⟨o5, o10, rfl⟩, rfl⟩
      exact ⟨⟨_, _, _, _, _, rfl⟩, s2R⟩
  · rintro σ' H' ⟨⟨o5, o7, o8, o9, o10, rfl⟩, s2⟩
    exact ⟨⟨_, _, _, _, _, _, _, _, _, rfl⟩, DB.same s2⟩
end
end Sx

set_option Elab.async false
set_option linter.all false
set_option maxRecDepth 100000
set_option maxHeartbeats 0
namespace Sx
open PySem PySem.Spec PyProof.Rows L2 SxA
theorem facts {P : Program} {w : World} {K : PySem.W.Frag} {h : Heap} {mg : Str → Option Value} {f : Addr} (X : K.In h) (G : h.Ns mainGlobals mg) (hfa : mg ("law" : Str) = some (.ref f)) (c : He.SaysD fa fn K) :
    ∃ fd : FuncData, (∀ (s : Shared) (v : Value), BindsTo s fd ⟨[v], []⟩ [("script", v)]) ∧ ∀ base : Heap, K.In base → base.Ns mainGlobals mg → FnOk P w K mg base CX0 6 f fd ["script"] (spLaw K) := by
  have t : T K mg := ⟨c, h, X, G⟩
  obtain ⟨fd, F⟩ := t.d_law
  have e := hfa.symm.trans t.g_law
  cases e
  have b := FunD.bindsA (ps := ["script"]) F fun _ _ _ _ _ _ us hl => match us, hl with | [_], _ => rfl
  exact ⟨fd, fun s v => b s [v] rfl, fun base _ _ => ok_law t F⟩
end Sx
open PySem PySem.W PySem.Calls PyProof.Rows
set_option maxRecDepth 100000 in
set_option maxHeartbeats 0 in
theorem PySem.Challenge.cw_sixdot_k45_labels_between_others_holds : PySem.Challenge.rw_sixdot_k45_labels_between_others.Holds := by
  w_on; o_law
  refine HandSHeadRun.head_any (r := OpenLaw.row PySem.Challenge.rw_sixdot_k45_labels_between_others) (q := view (OpenLaw.row PySem.Challenge.rw_sixdot_k45_labels_between_others).prog [8]) (H := Sx.hk) (ob := Sx.ob) (M := 4000) (loose := Sx.loose) (d := HandSHeadRun.topDef (OpenLaw.row PySem.Challenge.rw_sixdot_k45_labels_between_others).prog 8) (kwd := []) Sx.ob_eq
    (by kernel_rfl) (fun s => by kernel_rfl) Sx.run (by kernel_rfl) (by kernel_rfl) (by kernel_rfl) (by rfl) (by first | assumption | decide +kernel) (by decide +kernel) ⟨rfl, rfl, rfl, rfl, rfl, by decide +kernel⟩ ?hw ?hc
  case hw => w_witness2
  case hc =>
    refine L2.walk_ofE (l := PySem.Challenge.rw_sixdot_k45_labels_between_others) (n := 63) (k := 6) (x := "script") (CX := L2.CX0) rfl (by decide) (by kernel_rfl) ⟨rfl, by decide, by decide⟩ ?F (fun _ _ _ _ z => z)
    intro w mg fa h Y G hmg0
    obtain ⟨K, KX, c⟩ := Y
    have hmg : mg ("law" : PySem.Str) = some (.ref fa) := by
      have e : (HandSHeadRun.topDef (OpenLaw.row PySem.Challenge.rw_sixdot_k45_labels_between_others).prog 8).name = ("law" : PySem.Str) := by kernel_rfl
      rw [← e]
      exact hmg0
    obtain ⟨fd, hb, hF⟩ := Sx.facts (P := (PySem.Challenge.rw_sixdot_k45_labels_between_others).prog) (w := w) KX G hmg c
    exact ⟨K, fd, Sx.spLaw K, KX, hb, fun H a ns hl _ hS => ⟨a, ns, rfl, hS, hl, fun _ => rfl⟩, hF⟩
