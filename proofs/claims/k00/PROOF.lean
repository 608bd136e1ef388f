import PyProof.Rows.All
import Wide.All
import OpenK.AllK
import Wide.FinOn
import PyProof.Rows.SetFrom
import PyProof.StrWalks
import KE.KRevIter
import HandS.ForMost
import HandS.Rev
import HandS.RevTup
import KE.KStateDown
import HandS.Defaults
import HandS.MakeKwOnly
import HandS.Head0
import HandS.Head1
import HandS.Head2
import HandS.HeadEnd
import HandS.HeadHook1
import HandS.HeadHook2
import HandS.Style
import HandS.Flow
import HandS.WideBits
import HandS.Codes
import PySem.Challenge.RW_sixdot_k00_tables_that_are_let_by
set_option Elab.async false
set_option linter.all false
set_option maxRecDepth 100000
set_option maxHeartbeats 4000000
/-! rules that the layer lacks: len(set(text)), text * int, list(reversed(list)) -/
namespace SxA
open PySem PySem.Spec PyProof.Rows L2

/-! ### the different signs of a text, in the order in which they come -/
def stepD (acc : List Nat) (c : Nat) : List Nat := if c ∈ acc then acc else acc ++ [c]
def firsts (l : List Nat) : List Nat := l.foldl stepD []
theorem firsts_snoc (l : List Nat) (c : Nat) : firsts (l ++ [c]) = stepD (firsts l) c := by
  unfold firsts; rw [List.foldl_append]; rfl
theorem mem_step (acc : List Nat) (c k : Nat) : k ∈ stepD acc c ↔ k ∈ acc ∨ k = c := by
  unfold stepD
  by_cases h : c ∈ acc
  · rw [if_pos h]
    exact ⟨Or.inl, fun q => q.elim id fun e => by rw [e]; exact h⟩
  · rw [if_neg h, List.mem_append, List.mem_singleton]
theorem mem_fold : ∀ (l acc : List Nat) (k : Nat), k ∈ l.foldl stepD acc ↔ k ∈ acc ∨ k ∈ l
  | [], acc, k => by simp
  | c :: l, acc, k => by
    rw [List.foldl_cons, mem_fold l, mem_step, List.mem_cons]
    constructor
    · rintro ((h | h) | h)
      · exact .inl h
      · exact .inr (.inl h)
      · exact .inr (.inr h)
    · rintro (h | h | h)
      · exact .inl (.inl h)
      · exact .inl (.inr h)
      · exact .inr h
theorem mem_firsts (l : List Nat) (k : Nat) : k ∈ firsts l ↔ k ∈ l := by
  unfold firsts; rw [mem_fold]; simp
theorem firsts_take {l : List Nat} {i c : Nat} (h : l[i]? = some c) : firsts (l.take (i + 1)) = stepD (firsts (l.take i)) c := by
  rw [List.take_add_one, h]; exact firsts_snoc _ _
theorem firsts_count : ∀ (l : List Nat) (i : Nat), i ≤ l.length → (firsts (l.take i)).length ≤ i ∧ ((firsts (l.take i)).length = i ↔ (l.take i).Nodup)
  | l, 0, _ => by simp [firsts]
  | l, i + 1, hi => by
    have hc : l[i]? = some l[i] := List.getElem?_eq_getElem hi
    obtain ⟨a, b⟩ := firsts_count l i (by omega)
    rw [firsts_take hc]
    have et : l.take (i + 1) = l.take i ++ [l[i]] := by rw [List.take_add_one, hc]; rfl
    unfold stepD
    by_cases hm : l[i] ∈ firsts (l.take i)
    · rw [if_pos hm]
      refine ⟨by omega, fun q => by omega, fun nd => ?_⟩
      rw [et, List.nodup_append] at nd
      exact absurd rfl (nd.2.2 _ ((mem_firsts _ _).mp hm) _ (List.mem_singleton.mpr rfl))
    · rw [if_neg hm, List.length_append, List.length_singleton]
      refine ⟨by omega, ?_⟩
      rw [et, List.nodup_append]
      constructor
      · intro q
        refine ⟨b.mp (by omega), by simp, fun x hx y hy e => hm ?_⟩
        rw [List.mem_singleton] at hy
        rw [← hy, ← e]
        exact (mem_firsts _ _).mpr hx
      · intro q
        have := b.mpr q.1
        omega
/-- len(set(text)) -/
def kinds (z : Str) : Nat := (firsts z.cps.toList).length
theorem kinds_eq (z : Str) : kinds z = z.length ↔ z.cps.toList.Nodup := by
  have h := firsts_count z.cps.toList z.cps.toList.length (Nat.le_refl _)
  rw [List.take_length] at h
  have e : z.length = z.cps.toList.length := by simp [Str.length]
  unfold kinds
  rw [e]
  exact h.2
theorem kinds_le (z : Str) : kinds z ≤ z.length := by
  have h := firsts_count z.cps.toList z.cps.toList.length (Nat.le_refl _)
  rw [List.take_length] at h
  have e : z.length = z.cps.toList.length := by simp [Str.length]
  unfold kinds
  rw [e]
  exact h.1

/-! ### set(text) on the machine -/
abbrev sg (c : Nat) : Str := ⟨#[c]⟩
theorem sg_inj {a b : Nat} (h : sg a = sg b) : a = b := by
  have e : (#[a] : Array Nat) = #[b] := congrArg Str.cps h
  simpa using e
def hasD (l : List Nat) (k : Str) : Bool := l.any fun c => decide (k = sg c)
theorem hasD_sg (l : List Nat) (c : Nat) : hasD l (sg c) = decide (c ∈ l) := by
  unfold hasD
  by_cases h : c ∈ l
  · rw [decide_eq_true h]
    exact List.any_eq_true.mpr ⟨c, h, decide_eq_true rfl⟩
  · rw [decide_eq_false h]
    refine Bool.eq_false_iff.mpr fun q => ?_
    obtain ⟨d, hd, e⟩ := List.any_eq_true.mp q
    rw [sg_inj (of_decide_eq_true e)] at h
    exact h hd
theorem hasD_step (l : List Nat) (c : Nat) (k : Str) : hasD (stepD l c) k = (hasD l k || decide (k = sg c)) := by
  unfold stepD
  by_cases h : c ∈ l
  · rw [if_pos h]
    by_cases e : k = sg c
    · rw [e, hasD_sg, decide_eq_true h]
      rfl
    · rw [decide_eq_false e, Bool.or_false]
  · rw [if_neg h]
    unfold hasD
    rw [List.any_append]
    simp
theorem len_step (l : List Nat) (c : Nat) : (stepD l c).length = if hasD l (sg c) = true then l.length else l.length + 1 := by
  rw [hasD_sg]
  unfold stepD
  by_cases h : c ∈ l
  · rw [if_pos h, if_pos (decide_eq_true h)]
  · rw [if_neg h, if_neg (by rw [decide_eq_false h]; exact Bool.false_ne_true), List.length_append, List.length_singleton]
section
variable {prog : Program} {w : World} {A : Around} {E : Value → Shared → Prop}
/-- the set at S holds the signs l -/
def SetS (prog : Program) (w : World) (h : Heap) (S : Addr) (l : List Nat) : Prop := h.SetOf (strKind prog w) S (hasD l) l.length
theorem SetS.keep {h h' : Heap} {S : Addr} {l : List Nat} (p : SetS prog w h S l) (k : ∀ o, h.get? S = some o → h'.get? S = some o) : SetS prog w h' S l := by
  obtain ⟨o, es, ep, t, ho, r⟩ := p
  exact ⟨o, es, ep, t, k o ho, r⟩
theorem loopS {R : Result → Shared → Prop} {I : Addr} {fp wr : List Addr} {G : Array GenState → Array GenState → Prop} {x : Str} {St : Nat → Shared → Prop}
    (W : WalksS prog w A.in1 I fp wr G x.cps.size (SignAt x) St) (S : Addr) (away : S ∉ fp) (small : x.cps.size + 1 < scanBound) : ∀ (k i : Nat) (s : Shared), x.cps.size - i = k → i ≤ x.cps.size → St i s →
      SetS prog w s.heap S (firsts (x.cps.toList.take i)) → (∀ s', Moved (S :: wr) G s s' → SetS prog w s'.heap S (firsts x.cps.toList) → R (.ok (.ret .none)) s') →
      codeAny (model prog w) A (.builtin "set.update.loop" ⟨[.ref S, .ref I], []⟩) R s := by
  have awr : S ∉ wr := fun q => away (W.sub _ q)
  have more : ∀ b ∈ wr, b ∈ S :: wr := fun b hb => .tail _ hb
  intro k
  induction k with
  | zero =>
    intro i s hk hi st hS done
    obtain rfl : i = x.cps.size := by omega
    refine codeAny_builtin F.entry_set_update_loop ?_
    rw [Around.under_plainId F.plain_set_update_loop _]
    show wpAny _ A.in1 (pyNext (.ref I) >>= _) _ _ s
    refine wpAny_bind (W.done s _ _ st fun s' mv => ?_)
    show wpAny _ A.in1 (ret Value.none) _ _ s'
    have e : x.cps.toList.take x.cps.size = x.cps.toList := List.take_of_length_le (by simp)
    rw [e] at hS
    exact wpAny_pure (done s' (mv.mono more) (hS.keep fun o q => mv.heap S o awr q))
  | succ k ih =>
    intro i s hk hi st hS done
    have lt : i < x.cps.size := by omega
    refine codeAny_builtin F.entry_set_update_loop ?_
    rw [Around.under_plainId F.plain_set_update_loop _]
    show wpAny _ A.in1 (pyNext (.ref I) >>= _) _ _ s
    refine wpAny_bind (W.item i s _ _ lt st fun v s' hv st' mv => ?_)
    obtain ⟨c, u, hc, rfl⟩ := hv
    have hS' := hS.keep (h' := s'.heap) fun o q => mv.heap S o awr q
    show wpAny _ A.in1 (holding [Value.str (sg c) u] (setAdd S (.str (sg c) u)) >>= _) _ _ s'
    refine wpAny_bind (wpAny_holding ?_)
    unfold setAdd
    refine wpAny_holding ?_
    refine wpAny_bind ((strKind prog w).pyHash (k := sg c) (strKind_is _ _ _ _) ?_)
    have cnt := (firsts_count x.cps.toList i (by simp; omega)).1
    refine wpAny_setAddHashed_of (knd := strKind prog w) (s := { s' with toks := s'.toks + 1 }) (strKind_is _ _ _ _) rfl hS' (by omega) fun h' sb hS2 => ?_
    have hc2 : x.cps.toList[i]? = some c := by rw [Array.getElem?_toList]; exact hc
    have hS3 : SetS prog w h' S (firsts (x.cps.toList.take (i + 1))) := by
      rw [firsts_take hc2]
      exact SetOf_congr hS2 (fun k => (hasD_step _ c k).symm) (len_step _ c).symm
    refine wpAny_pure ⟨plainId_quiet F.plain_set_update_loop _, ih (i + 1) _ (by omega) lt (W.frame _ s' _ _ st' (Nat.le_succ _) fun b hb o e => ?_) hS3 fun s'' mv' hS'' => done s'' (Moved.trans W.gtrans ((mv.mono more).then_heap (Nat.le_succ _) fun b o hb e => ?_) mv') hS''⟩
    · rw [sb.2 b fun q : b = S => away (by rw [← q]; exact hb)]; exact e
    · rw [sb.2 b fun q : b = S => hb (by rw [q]; exact .head _)]; exact e
variable {s : Shared}
theorem sub_str_set : isSubtype (.type "str") (.type "set") = pure false := by rw [isSubtype_type]; kernel_rfl
theorem sub_str_frozenset : isSubtype (.type "str") (.type "frozenset") = pure false := by rw [isSubtype_type]; kernel_rfl
theorem call_set_text {x : Str} {tx : Tok} {Q : Value → Shared → Prop} (hh : A.handled = none) (small : x.cps.size + 1 < scanBound)
    (h : ∀ (h' : Heap) (tk : Nat), SetS prog w h' s.heap.objs.size (firsts x.cps.toList) → (∀ b o, b < s.heap.objs.size → s.heap.get? b = some o → h'.get? b = some o) → Q (.ref s.heap.objs.size) { s with heap := h', toks := tk }) :
    wpAny (model prog w) A (call (.type "set") [.str x tx]) Q E s := by
  obtain ⟨c, tl, hmro⟩ := F.called_set.mro
  have hmade := F.called_set.made
  have hsub := F.called_set.sub
  refine wpAny_call (codeAny_of_tree ?_)
  show wpAny _ _ (callAny (.type "set") _) _ _ _
  refine wpAny_pure ⟨Code.quiet_builtin _ (by decide +kernel), codeAny_builtin F.entry_type_call ?_⟩
  rw [Around.under_plain (weight_type_call_type "set" [.str x tx] []) rfl]
  have h1 := F.called_set.notType
  have h2 := F.called_set.canCreate
  have hct := PySem.F.typeCall_set_1 (.str x tx)
  repeat (any_goals (first | assumption | wp_step))
  refine codeAny_mono (code_set_new_1 (.str x tx) (E := E) (Q₁ := fun v s₁ => ∃ led : Bool, v = .ref s.heap.objs.size ∧ s₁ = { s with heap := s.heap.push { cls := .type "set", dict := none, data := .set #[] 0 (.fresh 0 0 led) } }) fun led => ⟨led, rfl, rfl⟩) fun r s₁ hr => ?_
  cases r with
  | error e => exact hr
  | ok fl =>
    cases fl with
    | ret v =>
      obtain ⟨led, rfl, rfl⟩ := hr
      have hS : (s.heap.push { cls := .type "set", dict := none, data := .set #[] 0 (.fresh 0 0 led) }).get? s.heap.objs.size = some { cls := .type "set", dict := none, data := .set #[] 0 (.fresh 0 0 led) } := Heap.get?_push_size _ rfl
      have hT : Shared.TypeIs { s with heap := s.heap.push { cls := .type "set", dict := none, data := .set #[] 0 (.fresh 0 0 led) } } (.ref s.heap.objs.size) "set" := ⟨_, hS, rfl⟩
      have hli := F.called_set.init.lookup
      have hbi := F.called_set.init.bind (.ref s.heap.objs.size)
      repeat (any_goals (first | assumption | wp_step))
      refine codeAny_mono (codeAny_call_builtin (R := wants (fun r s₂ => r = .none ∧ ∃ h' tk, s₂ = { s with heap := h', toks := tk } ∧ SetS prog w h' s.heap.objs.size (firsts x.cps.toList) ∧
          (∀ b o, b < s.heap.objs.size → s.heap.get? b = some o → h'.get? b = some o)) E) F.called_set.init.plain F.entry_set_init (check_set_init_1 hT ?_)) fun r₂ s₂ hr₂ => ?_
      · have hsls := sub_str_set
        have hslf := sub_str_frozenset
        have hne : (Value.type "str" == Value.type "dict") = false := by decide
        unfold Builtin.«set.__init__» noKeywords Builtin.Frozenset.updateFrom
        generalize hPI : pyIter = PI
        wp_walk
        subst hPI
        refine wpAny_pyIter_str fun o St W st => ?_
        refine wpAny_bind (wpAny_runValue ?_)
        have hh3 : A.in1.in1.in1.handled = none := by simp [hh]
        have away : s.heap.objs.size ∉ [(s.heap.push { cls := .type "set", dict := none, data := .set #[] 0 (.fresh 0 0 led) }).objs.size] := by
          rw [Heap.size_push, List.mem_singleton]
          exact Nat.ne_of_lt (Nat.lt_succ_self _)
        refine loopS ((W _ hh3).toS) s.heap.objs.size away small (x.cps.size - 0) 0 _ (by omega) (Nat.zero_le _) st ?hS0 ?hR
        case hS0 =>
          exact SetOf_congr ((PyProof.Rows.setObjOf_fresh (knd := strKind prog w) led).setOf (Heap.get?_push_of_some _ hS) (by unfold scanBound; omega)) (fun _ => rfl) rfl
        case hR =>
          intro s' mv hS'
          obtain ⟨h', g', d', tk', os'⟩ := s'
          have eg : g' = s.gens := mv.gens
          have ed : d' = s.drawn := mv.drawn
          have eo : os' = s.os := mv.os
          subst eg; subst ed; subst eo
          show wpAny _ _ _ _ _ _
          refine wpAny_pure ?_
          show wpAny _ _ (ret Value.none) _ _ _
          refine wpAny_pure ⟨rfl, h', tk', rfl, hS', fun b o hb e => ?_⟩
          have n1 : b ≠ s.heap.objs.size := Nat.ne_of_lt hb
          have n2 : b ≠ (s.heap.push { cls := .type "set", dict := none, data := .set #[] 0 (.fresh 0 0 led) }).objs.size := by
            rw [Heap.size_push]; exact Nat.ne_of_lt (Nat.lt_succ_of_lt hb)
          exact mv.heap b o (by simp only [List.mem_cons, List.mem_singleton, List.not_mem_nil, or_false, not_or]; exact ⟨n1, n2⟩) (Heap.get?_push_of_some _ (Heap.get?_push_of_some _ e))
      · cases r₂ with
        | error e => exact hr₂
        | ok fl₂ =>
          cases fl₂ with
          | ret r =>
            obtain ⟨rfl, h', tk, rfl, hS', hk'⟩ := hr₂
            repeat (any_goals (first | assumption | wp_step))
            exact h _ _ hS' hk'
          | _ => exact hr₂.elim
    | _ => exact hr.elim
end
/-! ### the rules -/
/-- len(set(text)) -/
def tKinds (ta : TE) : TE := fun σ H Q => ta σ H fun v H1 => ∃ z : Str, v = .str z ∧ z.length ≤ 4000 ∧ Q (.int (kinds z : Nat)) H1
theorem pe_kinds {X : Cx} {a : Expr} {ta : TE} {p p2 q pos : Pos} (hg : Gl X "len") (hm : X.mg "len" = none) (hg2 : Gl X "set") (hm2 : X.mg "set" = none) (ha : PE X a ta) (hc : X.calm = true := by rfl)
    (na : starEach [a] X.env = (false, eval a X.env) :: starEach [] X.env := by rfl) : PE X (.Call (.Name "len" p) [.Call (.Name "set" p2) [a] [] q] [] pos) (tKinds ta) := by
  constructor
  intro pins s σ H Q I h
  refine Call_ (ld_blt I hg hm boot_len (PyProof.Rows.callWith_builtin1 (PyProof.Rows.args_cons (Call_ (ld_blt I hg2 hm2 boot_set ?_)) rfl) rfl rfl))
  refine PyProof.Rows.callWith_type1 (PyProof.Rows.args_cons (thn (ha.run pins s σ H _ I h) fun v s1 ⟨y, H1, I1, r1, q1⟩ => PyProof.Rows.args_nil ?_) na) na rfl
  obtain ⟨z, rfl, hl, q1⟩ := q1
  obtain ⟨t, rfl⟩ := r1
  have hs : z.cps.size = z.length := rfl
  refine call_set_text (I1.ok.hd hc) (by rw [hs]; unfold scanBound; omega) fun h' tk hS hk => PyProof.Rows.args_nil ?_
  have kl := kinds_le z
  obtain ⟨o, es, ep, t2, ho, hex, hd, _, _, _, hf, hn⟩ := hS
  have hn2 : es.size = kinds z := hn
  have I2 : Inv X pins σ H1 { s1 with heap := h', toks := tk } := I1.kept fun b o e => hk b o (Heap.lt_size e) e
  exact call_len_set ho hex hd hf (by rw [hn2]; omega) ⟨.int (kinds z : Nat), H1, I2.tok _, ⟨_, by rw [hn2]⟩, q1⟩
/-- text * n -/
def rMulS : R2 := fun x y H Q => ∃ (z : Str) (n : Int), x = .str z ∧ y = .int n ∧ MulOk z n ∧ Q (.str (Txt.mul z n)) H
theorem op_mulS {X : Cx} : OpR X (binaryOp .Mult) rMulS := by
  intro pins s σ H x y v u Q I rx ry h
  obtain ⟨z, n, rfl, rfl, hz, q⟩ := h
  obtain ⟨t, rfl⟩ := rx
  obtain ⟨t', rfl⟩ := ry
  exact SB.mul hz fun t2 tk => ⟨.str (Txt.mul z n), H, I.tok _, ⟨_, rfl⟩, q⟩
end SxA

set_option Elab.async false
set_option linter.all false
set_option maxRecDepth 100000
set_option maxHeartbeats 4000000
namespace SxA
open PySem PySem.Spec PyProof.Rows L2
section
variable {prog : Program} {w : World} {A : Around} {E : Value → Shared → Prop} {s : Shared}
/-- list(it), it what reversed(a list) gave -/
theorem call_list_rev {it l : Addr} {items : Array Value} {Q : Value → Shared → Prop} (hh : A.handled = none) (hit : s.heap.IsRevIter it l ((items.size : Int) - 1)) (hl : s.heap.IsList l items) (hne : l ≠ it) (hn : items.size ≤ sizeLine)
    (hQ : ∀ (h' : Heap) (tk : Nat) (acc : Array Value) (c : Nat), (∀ b o, b ≠ it → s.heap.get? b = some o → h'.get? b = some o) → h'.get? s.heap.objs.size = some { cls := .type "list", dict := none, data := .seq acc c, slots := #[] } →
      ItemsOf (fun i v => items[items.size - 1 - i]? = some v) acc items.size → Q (.ref s.heap.objs.size) { s with heap := h', toks := tk }) :
    wpAny (model prog w) A (call (.type "list") [.ref it]) Q E s := by
  obtain ⟨oi, hoi, _⟩ := id hit
  obtain ⟨ol, hol, _⟩ := id hl
  have ni : s.heap.objs.size ≠ it := Nat.ne_of_gt (Heap.lt_size hoi)
  have nl : s.heap.objs.size ≠ l := Nat.ne_of_gt (Heap.lt_size hol)
  have away : s.heap.objs.size ∉ [it, l] := by
    simp only [List.mem_cons, List.not_mem_nil, or_false, not_or]
    exact ⟨ni, nl⟩
  refine callType_codes (Q₁ := fun v s₁ => v = .ref s.heap.objs.size ∧ s₁ = { s with heap := s.heap.push { cls := .type "list", data := .seq #[] } }) F.called_list (F.typeCall_list_1 _) F.entry_list_init (code_list_new _ ⟨rfl, rfl⟩) fun v s₁ h₁ => ?_
  obtain ⟨rfl, rfl⟩ := h₁
  have hS : (s.heap.push { cls := .type "list", data := .seq #[] }).get? s.heap.objs.size = some { cls := .type "list", data := .seq #[] } := Heap.get?_push_size _ rfl
  refine ⟨⟨_, hS, rfl⟩, F.args_list_init_2 _ _, ?_⟩
  show wpAny _ _ (do let old ← Builtin.List.listItems (.ref s.heap.objs.size); Builtin.List.listUpdate (.ref s.heap.objs.size) (fun _ => #[]); letGo old.toList.reverse; Builtin.List.listExtendWith (.ref s.heap.objs.size) (.ref it) .none) _ _ _
  refine wpAny_bind ?_
  unfold Builtin.List.listItems
  refine wpAny_bind (wpAny_seqItems hS rfl (wpAny_pure ?_))
  show wpAny _ _ (updateSeq s.heap.objs.size (fun _ => #[]) >>= fun _ => letGo (#[] : Array Value).toList.reverse >>= fun _ => Builtin.List.listExtendWith (.ref s.heap.objs.size) (.ref it) .none) _ _ _
  refine wpAny_bind (wpAny_updateSeq hS rfl ?_)
  have hS₂ := Heap.get?_update_self (Obj.mapSeq (fun _ => (#[] : Array Value))) hS rfl
  have oth : ∀ b o, b ≠ s.heap.objs.size → s.heap.get? b = some o → ((s.heap.push { cls := .type "list", data := .seq #[] }).update s.heap.objs.size (Obj.mapSeq (fun _ => (#[] : Array Value)))).get? b = some o :=
    fun b o hb e => (Heap.get?_update_other _ _ (Ne.symm hb)).trans (Heap.get?_push_of_some _ e)
  refine wpAny_bind (wpAny_letGo ?_)
  generalize hgh : (s.heap.push { cls := .type "list", data := .seq #[] }).update s.heap.objs.size (Obj.mapSeq (fun _ => (#[] : Array Value))) = g at hS₂ oth
  have hit1 : g.IsRevIter it l ((items.size : Int) - 1) := hit.at fun o e => oth _ _ ni.symm e
  have hl1 : g.IsList l items := hl.at fun o e => oth _ _ nl.symm e
  have hT : ({ s with heap := g } : Shared).TypeIs (.ref it) "list_reverseiterator" := Heap.IsRevIter.typeIs (s := { s with heap := g }) hit1
  have h1 : Builtin.List.listSameRef (.ref s.heap.objs.size) (.ref it) = false := by simp [Builtin.List.listSameRef, ni]
  have hh2 : A.in1.in1.handled = none := by simp [hh]
  have W := (Walks.listRev (prog := prog) (w := w) (A := A.in1.in1) hh2 it l hne items).toS
  unfold Builtin.List.listExtendWith
  refine wpAny_bind (wpAny_typeOf hT ?_)
  rw [if_neg (by rw [h1]; decide)]
  refine wpAny_bind (wpAny_pyIter_revIter (s := { s with heap := g }) hit1 (wpAny_bind (wpAny_holding ?_)))
  unfold Builtin.List.listLengthHint
  refine wpAny_bind (wpAny_specialOf hT RT.nolen_lri ?_)
  show wpAny _ _ (specialOf (Value.ref it) (Str.ofString "__length_hint__") >>= _) _ _ _
  refine wpAny_bind (wpAny_specialOf hT RT.hint_lri ?_)
  generalize hid : ("list_reverseiterator.__length_hint__" : String) = nm
  wp_delta
  rw [show splitId nm = some ("list_reverseiterator", "__length_hint__") from by subst hid; decide +kernel]
  subst hid
  refine wpAny_bind (wpAny_isInstance (b := true) hT (by rw [isSubtype_type]; kernel_rfl) (wpAny_pure ?_))
  rw [if_neg (by decide)]
  have e0 : ((items.size : Nat) : Int) - 1 - ((0 : Nat) : Int) = (items.size : Int) - 1 := by omega
  refine wpAny_pure ⟨plainId_quiet F.plain_extend_loop _, codeAny_extend_loopS W hn _ away _ items.size 0 _ _ _ rfl (Nat.zero_le _) ⟨Nat.zero_le _, by rw [e0]; exact hit1, hl1⟩ hS₂ (ItemsOf.nil _) fun s' acc' c' mv hS' hacc => ?_⟩
  rw [Moved.eq_with mv]
  refine ⟨rfl, hQ s'.heap s'.toks acc' c' (fun b o hb e => mv.heap b o (fun hmem => ?_) ?_) hS' hacc⟩
  · rcases List.mem_cons.mp hmem with e' | hmem
    · exact absurd (Heap.lt_size e) (by rw [e']; exact Nat.lt_irrefl _)
    · exact hb (List.mem_singleton.mp hmem)
  · exact oth b o (Nat.ne_of_lt (Heap.lt_size e)) e
end
/-- list(reversed(x)), x a list -/
def tListRev (K : PySem.W.Frag) (te : TE) : TE := fun σ H Q => te σ H fun v H1 => ∃ (a : Addr) (xs : List V), v = .ref a ∧ SqL K H1 a xs ∧ ∀ q, H1 q = none → Q (.ref q) (upd H1 q (.lst xs.reverse))
theorem pe_listRev {X : Cx} {e : Expr} {te : TE} {p p2 pos pos2 : Pos} (hg : Gl X "list") (hm : X.mg "list" = none) (hg2 : Gl X "reversed") (hm2 : X.mg "reversed" = none) (he : PE X e te) (hc : X.calm = true := by rfl)
    (hs : starEach [e] X.env = (false, eval e X.env) :: starEach [] X.env := by rfl)
    (hs2 : starEach [.Call (.Name "reversed" p2) [e] [] pos2] X.env = (false, eval (.Call (.Name "reversed" p2) [e] [] pos2) X.env) :: starEach [] X.env := by rfl) :
    PE X (.Call (.Name "list" p) [.Call (.Name "reversed" p2) [e] [] pos2] [] pos) (tListRev X.K te) := by
  constructor
  intro pins s σ H Q I h
  refine Call_ (ld_blt I hg hm boot_list (PyProof.Rows.callWith_type1 (args_cons (Call_ (ld_blt I hg2 hm2 PyProof.Rows.boot_reversed (PyProof.Rows.callWith_type1 (args_cons (thn (he.run pins s σ H _ I h) fun u s1 ⟨v, H1, I1, r1, q1⟩ => args_nil ?_) hs) hs rfl))) hs2) hs2 rfl))
  obtain ⟨a, xs, rfl, hq, q⟩ := q1
  obtain rfl : u = Value.ref a := r1
  obtain ⟨its, rv, pl, hz⟩ := I1.list hq
  refine call_reversed_list pl.isList (args_nil ?_)
  have hl := pl.isList
  obtain ⟨ol, hol, _⟩ := id hl
  have hne : a ≠ s1.heap.objs.size := Nat.ne_of_lt (Heap.lt_size hol)
  have hn : its.toArray.size ≤ sizeLine := by rw [List.size_toArray, ← rv.length]; exact hz
  have sz : (s1.heap.push (revObj a ((its.toArray.size : Int) - 1))).objs.size = s1.heap.objs.size + 1 := Heap.size_push _ _
  refine call_list_rev (s := { s1 with heap := s1.heap.push (revObj a ((its.toArray.size : Int) - 1)) }) (I1.ok.hd hc) ⟨_, Heap.get?_push_size _ rfl, rfl, rfl⟩ (hl.push _) hne hn fun h' tk acc c hk hS hi => ?_
  have e1 : acc.toList.toArray = acc := by simp
  refine ⟨.ref (s1.heap.push (revObj a ((its.toArray.size : Int) - 1))).objs.size, upd H1 _ (.lst xs.reverse), I1.laid (t' := tk) (fun b o e => hk b o (Nat.ne_of_lt (Heap.lt_size e)) (Heap.get?_push_of_some _ e)) (by rw [sz]; exact Nat.le_succ _)
    (show ObjOk X.prog X.w _ h' _ (.lst xs.reverse) from ⟨by rw [List.length_reverse]; exact hz, acc.toList, c, RT.vals_rev rv hi, by rw [e1]; exact hS⟩), rfl, q _ (I1.hok.fresh (by rw [sz]; exact Nat.le_succ _))⟩
end SxA

set_option Elab.async false
set_option linter.all false
set_option maxRecDepth 100000
set_option maxHeartbeats 0
namespace Sx
open PySem PySem.Spec PyProof.Rows L2
/-! ### the text by places -/
def top (i : Nat) : Stmt := PySem.Challenge.pw_sixdot_k00_tables_that_are_let_by.main.body.getD i (.Pass ⟨0, 0, 0, 0⟩)
abbrev sRuleInit : Stmt := inClass (top 9) 0
abbrev sTableInit : Stmt := inClass (top 10) 0
abbrev sCopyOfRule : Stmt := top 11
abbrev sSameRule : Stmt := top 12
abbrev sSameTable : Stmt := top 13
abbrev sIsSign : Stmt := top 14
abbrev sAreDifferent : Stmt := top 15
abbrev sAreSigns : Stmt := top 16
abbrev sIsModeCount : Stmt := top 17
abbrev sIsMode : Stmt := top 18
abbrev sIsRuleText : Stmt := top 19
abbrev sAreRuleCells : Stmt := top 20
abbrev sIsNeighbour : Stmt := top 21
abbrev sIsRule : Stmt := top 22
abbrev sIsLetBy : Stmt := top 23
abbrev sDotsOf : Stmt := top 24
abbrev sCellOf : Stmt := top 25
abbrev sLawState : Stmt := top 27
abbrev sLawDraw : Stmt := top 28
abbrev sLawPart : Stmt := top 29
abbrev sLawNear : Stmt := top 30
abbrev sLawRule : Stmt := top 31
abbrev sLawParts : Stmt := top 32
abbrev sLawTable : Stmt := top 33
abbrev sLawRows : Stmt := top 34
abbrev sLawChanged : Stmt := top 35
abbrev sLaw : Stmt := top 36
/-! ### the head: facts by names, the run -/
def dRuleInit : He.DefD := ⟨("Rule", some "__init__"), "__init__", "Rule.__init__", defArgs sRuleInit, defBody sRuleInit, defScope sRuleInit, [], [("ahead", .non), ("behind", .non)]⟩
def dTableInit : He.DefD := ⟨("Table", some "__init__"), "__init__", "Table.__init__", defArgs sTableInit, defBody sTableInit, defScope sTableInit, [], []⟩
def dCopyOfRule : He.DefD := ⟨("copy_of_rule", none), "copy_of_rule", "copy_of_rule", defArgs sCopyOfRule, defBody sCopyOfRule, defScope sCopyOfRule, [], []⟩
def dSameRule : He.DefD := ⟨("same_rule", none), "same_rule", "same_rule", defArgs sSameRule, defBody sSameRule, defScope sSameRule, [], []⟩
def dSameTable : He.DefD := ⟨("same_table", none), "same_table", "same_table", defArgs sSameTable, defBody sSameTable, defScope sSameTable, [], []⟩
def dIsSign : He.DefD := ⟨("is_sign", none), "is_sign", "is_sign", defArgs sIsSign, defBody sIsSign, defScope sIsSign, [], []⟩
def dAreDifferent : He.DefD := ⟨("are_different", none), "are_different", "are_different", defArgs sAreDifferent, defBody sAreDifferent, defScope sAreDifferent, [], []⟩
def dAreSigns : He.DefD := ⟨("are_signs", none), "are_signs", "are_signs", defArgs sAreSigns, defBody sAreSigns, defScope sAreSigns, [], []⟩
def dIsModeCount : He.DefD := ⟨("is_mode_count", none), "is_mode_count", "is_mode_count", defArgs sIsModeCount, defBody sIsModeCount, defScope sIsModeCount, [], []⟩
def dIsMode : He.DefD := ⟨("is_mode", none), "is_mode", "is_mode", defArgs sIsMode, defBody sIsMode, defScope sIsMode, [], []⟩
def dIsRuleText : He.DefD := ⟨("is_rule_text", none), "is_rule_text", "is_rule_text", defArgs sIsRuleText, defBody sIsRuleText, defScope sIsRuleText, [], []⟩
def dAreRuleCells : He.DefD := ⟨("are_rule_cells", none), "are_rule_cells", "are_rule_cells", defArgs sAreRuleCells, defBody sAreRuleCells, defScope sAreRuleCells, [], []⟩
def dIsNeighbour : He.DefD := ⟨("is_neighbour", none), "is_neighbour", "is_neighbour", defArgs sIsNeighbour, defBody sIsNeighbour, defScope sIsNeighbour, [], []⟩
def dIsRule : He.DefD := ⟨("is_rule", none), "is_rule", "is_rule", defArgs sIsRule, defBody sIsRule, defScope sIsRule, [], []⟩
def dIsLetBy : He.DefD := ⟨("is_let_by", none), "is_let_by", "is_let_by", defArgs sIsLetBy, defBody sIsLetBy, defScope sIsLetBy, [], []⟩
def dDotsOf : He.DefD := ⟨("dots_of", none), "dots_of", "dots_of", defArgs sDotsOf, defBody sDotsOf, defScope sDotsOf, [], []⟩
def dCellOf : He.DefD := ⟨("cell_of", none), "cell_of", "cell_of", defArgs sCellOf, defBody sCellOf, defScope sCellOf, [], []⟩
def dLawState : He.DefD := ⟨("_law_state", none), "_law_state", "_law_state", defArgs sLawState, defBody sLawState, defScope sLawState, [], []⟩
def dLawDraw : He.DefD := ⟨("_law_draw", none), "_law_draw", "_law_draw", defArgs sLawDraw, defBody sLawDraw, defScope sLawDraw, [], []⟩
def dLawPart : He.DefD := ⟨("_law_part", none), "_law_part", "_law_part", defArgs sLawPart, defBody sLawPart, defScope sLawPart, [], []⟩
def dLawNear : He.DefD := ⟨("_law_near", none), "_law_near", "_law_near", defArgs sLawNear, defBody sLawNear, defScope sLawNear, [], []⟩
def dLawRule : He.DefD := ⟨("_law_rule", none), "_law_rule", "_law_rule", defArgs sLawRule, defBody sLawRule, defScope sLawRule, [], []⟩
def dLawParts : He.DefD := ⟨("_law_parts", none), "_law_parts", "_law_parts", defArgs sLawParts, defBody sLawParts, defScope sLawParts, [], []⟩
def dLawTable : He.DefD := ⟨("_law_table", none), "_law_table", "_law_table", defArgs sLawTable, defBody sLawTable, defScope sLawTable, [], []⟩
def dLawRows : He.DefD := ⟨("_law_rows", none), "_law_rows", "_law_rows", defArgs sLawRows, defBody sLawRows, defScope sLawRows, [], []⟩
def dLawChanged : He.DefD := ⟨("_law_changed", none), "_law_changed", "_law_changed", defArgs sLawChanged, defBody sLawChanged, defScope sLawChanged, [], []⟩
def dLaw : He.DefD := ⟨("law", none), "law", "law", defArgs sLaw, defBody sLaw, defScope sLaw, [], []⟩
def fn : List He.DefD := [dRuleInit, dTableInit, dCopyOfRule, dSameRule, dSameTable, dIsSign, dAreDifferent, dAreSigns, dIsModeCount, dIsMode, dIsRuleText, dAreRuleCells, dIsNeighbour, dIsRule, dIsLetBy, dDotsOf, dCellOf, dLawState, dLawDraw, dLawPart, dLawNear, dLawRule, dLawParts, dLawTable, dLawRows, dLawChanged, dLaw]
def fa : List He.Fa := [.glo "copy_of_rule", .glo "same_rule", .glo "same_table", .glo "is_sign", .glo "are_different", .glo "are_signs", .glo "is_mode_count", .glo "is_mode", .glo "is_rule_text", .glo "are_rule_cells", .glo "is_neighbour", .glo "is_rule", .glo "is_let_by", .glo "dots_of", .glo "cell_of", .glo "_law_state", .glo "_law_draw", .glo "_law_part", .glo "_law_near", .glo "_law_rule", .glo "_law_parts", .glo "_law_table", .glo "_law_rows", .glo "_law_changed", .glo "law", .free "all", .free "int", .free "len", .free "list", .free "range", .free "reversed", .free "set", .free "sum", .free "tuple", .free "zip", .int "MOST_CELL" 63, .int "MOST_SIGNS" 60, .int "MOST_MODES" 4, .int "MOST_RULES" 80, .int "MOST_RULE_SIGNS" 4, .int "MOST_RULE_CELLS" 4, .str "BEGINNING" "^", .str "END" "$", .glo "Rule", .cls "Rule", .mkr "Rule", .noat "Rule" "mode", .noat "Rule" "text", .noat "Rule" "cells", .noat "Rule" "to", .noat "Rule" "ahead", .noat "Rule" "behind", .glo "Table", .cls "Table", .mkr "Table", .noat "Table" "signs", .noat "Table" "modes", .noat "Table" "rules"]
def loose0 : List Str := ["MOST_CELL", "MOST_SIGNS", "MOST_MODES", "MOST_RULES", "MOST_RULE_SIGNS", "MOST_RULE_CELLS", "BEGINNING", "END", "Rule", "Table", "copy_of_rule", "same_rule", "same_table", "is_sign", "are_different", "are_signs", "is_mode_count", "is_mode", "is_rule_text", "are_rule_cells", "is_neighbour", "is_rule", "is_let_by", "dots_of", "cell_of", "_law_state", "_law_draw", "_law_part", "_law_near", "_law_rule"]
def loose1 : List Str := ["_law_parts", "_law_table", "_law_rows", "_law_changed"]
abbrev loose : List Str := loose0 ++ loose1
abbrev R : PySem.W.OpenRow := PySem.W.OpenLaw.row PySem.Challenge.rw_sixdot_k00_tables_that_are_let_by
abbrev hk : PySem.W.Hook := He.hookD 5 fa fn
def ob (s : PySem.W.SharedT) : He.AlD := He.obsDG 5 fa fn (HandSHeadRun.getT s)
theorem ob_eq (s : PySem.W.SharedT) : ob s = hk.obs s.abs := He.obsDG_eq (HandSHeadRun.getT_eq s)
theorem run (w : World) : HandSHeadRun.RunEq R (PySem.W.view R.prog [36]) hk ob 4000 loose w := by
  intro os
  kernel_rfl
end Sx

set_option Elab.async false
set_option linter.all false
set_option maxRecDepth 100000
set_option maxHeartbeats 4000000
namespace Sx
open PySem PySem.Spec PyProof.Rows L2
/-- what stands behind the top -/
structure T (K : PySem.W.Frag) (mg : Str → Option Value) : Prop where
  c : He.SaysD fa fn K
  g : ∃ h : Heap, K.In h ∧ h.Ns mainGlobals mg
section
variable {K : PySem.W.Frag} {mg : Str → Option Value}
/-- a def of the top -/
abbrev Fd (K : PySem.W.Frag) (x : Str) (st : Stmt) : Prop := ∃ fd, FunD K x x (defArgs st) (defBody st) (defScope st) [] [] (He.ga K x) fd
theorem T.g_copy_of_rule (t : T K mg) : mg "copy_of_rule" = some (.ref (He.ga K "copy_of_rule")) := by
  obtain ⟨h, X, G⟩ := t.g
  exact He.glo_ok X G (t.c.fact 0 (f := .glo "copy_of_rule") rfl)
theorem T.g_same_rule (t : T K mg) : mg "same_rule" = some (.ref (He.ga K "same_rule")) := by
  obtain ⟨h, X, G⟩ := t.g
  exact He.glo_ok X G (t.c.fact 1 (f := .glo "same_rule") rfl)
theorem T.g_same_table (t : T K mg) : mg "same_table" = some (.ref (He.ga K "same_table")) := by
  obtain ⟨h, X, G⟩ := t.g
  exact He.glo_ok X G (t.c.fact 2 (f := .glo "same_table") rfl)
theorem T.g_is_sign (t : T K mg) : mg "is_sign" = some (.ref (He.ga K "is_sign")) := by
  obtain ⟨h, X, G⟩ := t.g
  exact He.glo_ok X G (t.c.fact 3 (f := .glo "is_sign") rfl)
theorem T.g_are_different (t : T K mg) : mg "are_different" = some (.ref (He.ga K "are_different")) := by
  obtain ⟨h, X, G⟩ := t.g
  exact He.glo_ok X G (t.c.fact 4 (f := .glo "are_different") rfl)
theorem T.g_are_signs (t : T K mg) : mg "are_signs" = some (.ref (He.ga K "are_signs")) := by
  obtain ⟨h, X, G⟩ := t.g
  exact He.glo_ok X G (t.c.fact 5 (f := .glo "are_signs") rfl)
theorem T.g_is_mode_count (t : T K mg) : mg "is_mode_count" = some (.ref (He.ga K "is_mode_count")) := by
  obtain ⟨h, X, G⟩ := t.g
  exact He.glo_ok X G (t.c.fact 6 (f := .glo "is_mode_count") rfl)
theorem T.g_is_mode (t : T K mg) : mg "is_mode" = some (.ref (He.ga K "is_mode")) := by
  obtain ⟨h, X, G⟩ := t.g
  exact He.glo_ok X G (t.c.fact 7 (f := .glo "is_mode") rfl)
theorem T.g_is_rule_text (t : T K mg) : mg "is_rule_text" = some (.ref (He.ga K "is_rule_text")) := by
  obtain ⟨h, X, G⟩ := t.g
  exact He.glo_ok X G (t.c.fact 8 (f := .glo "is_rule_text") rfl)
theorem T.g_are_rule_cells (t : T K mg) : mg "are_rule_cells" = some (.ref (He.ga K "are_rule_cells")) := by
  obtain ⟨h, X, G⟩ := t.g
  exact He.glo_ok X G (t.c.fact 9 (f := .glo "are_rule_cells") rfl)
theorem T.g_is_neighbour (t : T K mg) : mg "is_neighbour" = some (.ref (He.ga K "is_neighbour")) := by
  obtain ⟨h, X, G⟩ := t.g
  exact He.glo_ok X G (t.c.fact 10 (f := .glo "is_neighbour") rfl)
theorem T.g_is_rule (t : T K mg) : mg "is_rule" = some (.ref (He.ga K "is_rule")) := by
  obtain ⟨h, X, G⟩ := t.g
  exact He.glo_ok X G (t.c.fact 11 (f := .glo "is_rule") rfl)
theorem T.g_is_let_by (t : T K mg) : mg "is_let_by" = some (.ref (He.ga K "is_let_by")) := by
  obtain ⟨h, X, G⟩ := t.g
  exact He.glo_ok X G (t.c.fact 12 (f := .glo "is_let_by") rfl)
theorem T.g_dots_of (t : T K mg) : mg "dots_of" = some (.ref (He.ga K "dots_of")) := by
  obtain ⟨h, X, G⟩ := t.g
  exact He.glo_ok X G (t.c.fact 13 (f := .glo "dots_of") rfl)
theorem T.g_cell_of (t : T K mg) : mg "cell_of" = some (.ref (He.ga K "cell_of")) := by
  obtain ⟨h, X, G⟩ := t.g
  exact He.glo_ok X G (t.c.fact 14 (f := .glo "cell_of") rfl)
theorem T.g_law_state (t : T K mg) : mg "_law_state" = some (.ref (He.ga K "_law_state")) := by
  obtain ⟨h, X, G⟩ := t.g
  exact He.glo_ok X G (t.c.fact 15 (f := .glo "_law_state") rfl)
theorem T.g_law_draw (t : T K mg) : mg "_law_draw" = some (.ref (He.ga K "_law_draw")) := by
  obtain ⟨h, X, G⟩ := t.g
  exact He.glo_ok X G (t.c.fact 16 (f := .glo "_law_draw") rfl)
theorem T.g_law_part (t : T K mg) : mg "_law_part" = some (.ref (He.ga K "_law_part")) := by
  obtain ⟨h, X, G⟩ := t.g
  exact He.glo_ok X G (t.c.fact 17 (f := .glo "_law_part") rfl)
theorem T.g_law_near (t : T K mg) : mg "_law_near" = some (.ref (He.ga K "_law_near")) := by
  obtain ⟨h, X, G⟩ := t.g
  exact He.glo_ok X G (t.c.fact 18 (f := .glo "_law_near") rfl)
theorem T.g_law_rule (t : T K mg) : mg "_law_rule" = some (.ref (He.ga K "_law_rule")) := by
  obtain ⟨h, X, G⟩ := t.g
  exact He.glo_ok X G (t.c.fact 19 (f := .glo "_law_rule") rfl)
theorem T.g_law_parts (t : T K mg) : mg "_law_parts" = some (.ref (He.ga K "_law_parts")) := by
  obtain ⟨h, X, G⟩ := t.g
  exact He.glo_ok X G (t.c.fact 20 (f := .glo "_law_parts") rfl)
theorem T.g_law_table (t : T K mg) : mg "_law_table" = some (.ref (He.ga K "_law_table")) := by
  obtain ⟨h, X, G⟩ := t.g
  exact He.glo_ok X G (t.c.fact 21 (f := .glo "_law_table") rfl)
theorem T.g_law_rows (t : T K mg) : mg "_law_rows" = some (.ref (He.ga K "_law_rows")) := by
  obtain ⟨h, X, G⟩ := t.g
  exact He.glo_ok X G (t.c.fact 22 (f := .glo "_law_rows") rfl)
theorem T.g_law_changed (t : T K mg) : mg "_law_changed" = some (.ref (He.ga K "_law_changed")) := by
  obtain ⟨h, X, G⟩ := t.g
  exact He.glo_ok X G (t.c.fact 23 (f := .glo "_law_changed") rfl)
theorem T.g_law (t : T K mg) : mg "law" = some (.ref (He.ga K "law")) := by
  obtain ⟨h, X, G⟩ := t.g
  exact He.glo_ok X G (t.c.fact 24 (f := .glo "law") rfl)
theorem T.f_all (t : T K mg) : mg "all" = none := by
  obtain ⟨h, X, G⟩ := t.g
  exact He.free_ok X G (t.c.fact 25 (f := .free "all") rfl)
theorem T.f_int (t : T K mg) : mg "int" = none := by
  obtain ⟨h, X, G⟩ := t.g
  exact He.free_ok X G (t.c.fact 26 (f := .free "int") rfl)
theorem T.f_len (t : T K mg) : mg "len" = none := by
  obtain ⟨h, X, G⟩ := t.g
  exact He.free_ok X G (t.c.fact 27 (f := .free "len") rfl)
theorem T.f_list (t : T K mg) : mg "list" = none := by
  obtain ⟨h, X, G⟩ := t.g
  exact He.free_ok X G (t.c.fact 28 (f := .free "list") rfl)
theorem T.f_range (t : T K mg) : mg "range" = none := by
  obtain ⟨h, X, G⟩ := t.g
  exact He.free_ok X G (t.c.fact 29 (f := .free "range") rfl)
theorem T.f_reversed (t : T K mg) : mg "reversed" = none := by
  obtain ⟨h, X, G⟩ := t.g
  exact He.free_ok X G (t.c.fact 30 (f := .free "reversed") rfl)
theorem T.f_set (t : T K mg) : mg "set" = none := by
  obtain ⟨h, X, G⟩ := t.g
  exact He.free_ok X G (t.c.fact 31 (f := .free "set") rfl)
theorem T.f_sum (t : T K mg) : mg "sum" = none := by
  obtain ⟨h, X, G⟩ := t.g
  exact He.free_ok X G (t.c.fact 32 (f := .free "sum") rfl)
theorem T.f_tuple (t : T K mg) : mg "tuple" = none := by
  obtain ⟨h, X, G⟩ := t.g
  exact He.free_ok X G (t.c.fact 33 (f := .free "tuple") rfl)
theorem T.f_zip (t : T K mg) : mg "zip" = none := by
  obtain ⟨h, X, G⟩ := t.g
  exact He.free_ok X G (t.c.fact 34 (f := .free "zip") rfl)
theorem T.i_MOST_CELL (t : T K mg) : ∃ k, mg "MOST_CELL" = some (.int 63 k) := by
  obtain ⟨h, X, G⟩ := t.g
  exact He.int_ok X G (t.c.fact 35 (f := .int "MOST_CELL" 63) rfl)
theorem T.i_MOST_SIGNS (t : T K mg) : ∃ k, mg "MOST_SIGNS" = some (.int 60 k) := by
  obtain ⟨h, X, G⟩ := t.g
  exact He.int_ok X G (t.c.fact 36 (f := .int "MOST_SIGNS" 60) rfl)
theorem T.i_MOST_MODES (t : T K mg) : ∃ k, mg "MOST_MODES" = some (.int 4 k) := by
  obtain ⟨h, X, G⟩ := t.g
  exact He.int_ok X G (t.c.fact 37 (f := .int "MOST_MODES" 4) rfl)
theorem T.i_MOST_RULES (t : T K mg) : ∃ k, mg "MOST_RULES" = some (.int 80 k) := by
  obtain ⟨h, X, G⟩ := t.g
  exact He.int_ok X G (t.c.fact 38 (f := .int "MOST_RULES" 80) rfl)
theorem T.i_MOST_RULE_SIGNS (t : T K mg) : ∃ k, mg "MOST_RULE_SIGNS" = some (.int 4 k) := by
  obtain ⟨h, X, G⟩ := t.g
  exact He.int_ok X G (t.c.fact 39 (f := .int "MOST_RULE_SIGNS" 4) rfl)
theorem T.i_MOST_RULE_CELLS (t : T K mg) : ∃ k, mg "MOST_RULE_CELLS" = some (.int 4 k) := by
  obtain ⟨h, X, G⟩ := t.g
  exact He.int_ok X G (t.c.fact 40 (f := .int "MOST_RULE_CELLS" 4) rfl)
theorem T.s_BEGINNING (t : T K mg) : ∃ k, mg "BEGINNING" = some (.str "^" k) := by
  obtain ⟨h, X, G⟩ := t.g
  exact He.str_ok X G (t.c.fact 41 (f := .str "BEGINNING" "^") rfl)
theorem T.s_END (t : T K mg) : ∃ k, mg "END" = some (.str "$" k) := by
  obtain ⟨h, X, G⟩ := t.g
  exact He.str_ok X G (t.c.fact 42 (f := .str "END" "$") rfl)
theorem T.g_Rule (t : T K mg) : mg "Rule" = some (.ref (He.ga K "Rule")) := by
  obtain ⟨h, X, G⟩ := t.g
  exact He.glo_ok X G (t.c.fact 43 (f := .glo "Rule") rfl)
theorem T.c_Rule (t : T K mg) : Cls K (He.ga K "Rule") := He.cls_ok (t.c.fact 44 (f := .cls "Rule") rfl)
theorem T.m_Rule (t : T K mg) : Mk K (He.ga K "Rule") (He.ma K (He.ga K "Rule") "__init__") := He.mkr_ok (t.c.fact 45 (f := .mkr "Rule") rfl)
theorem T.n_Rule_mode (t : T K mg) : NoAttr K (He.ga K "Rule") "mode" := He.noat_ok (t.c.fact 46 (f := .noat "Rule" "mode") rfl)
theorem T.n_Rule_text (t : T K mg) : NoAttr K (He.ga K "Rule") "text" := He.noat_ok (t.c.fact 47 (f := .noat "Rule" "text") rfl)
theorem T.n_Rule_cells (t : T K mg) : NoAttr K (He.ga K "Rule") "cells" := He.noat_ok (t.c.fact 48 (f := .noat "Rule" "cells") rfl)
theorem T.n_Rule_to (t : T K mg) : NoAttr K (He.ga K "Rule") "to" := He.noat_ok (t.c.fact 49 (f := .noat "Rule" "to") rfl)
theorem T.n_Rule_ahead (t : T K mg) : NoAttr K (He.ga K "Rule") "ahead" := He.noat_ok (t.c.fact 50 (f := .noat "Rule" "ahead") rfl)
theorem T.n_Rule_behind (t : T K mg) : NoAttr K (He.ga K "Rule") "behind" := He.noat_ok (t.c.fact 51 (f := .noat "Rule" "behind") rfl)
theorem T.g_Table (t : T K mg) : mg "Table" = some (.ref (He.ga K "Table")) := by
  obtain ⟨h, X, G⟩ := t.g
  exact He.glo_ok X G (t.c.fact 52 (f := .glo "Table") rfl)
theorem T.c_Table (t : T K mg) : Cls K (He.ga K "Table") := He.cls_ok (t.c.fact 53 (f := .cls "Table") rfl)
theorem T.m_Table (t : T K mg) : Mk K (He.ga K "Table") (He.ma K (He.ga K "Table") "__init__") := He.mkr_ok (t.c.fact 54 (f := .mkr "Table") rfl)
theorem T.n_Table_signs (t : T K mg) : NoAttr K (He.ga K "Table") "signs" := He.noat_ok (t.c.fact 55 (f := .noat "Table" "signs") rfl)
theorem T.n_Table_modes (t : T K mg) : NoAttr K (He.ga K "Table") "modes" := He.noat_ok (t.c.fact 56 (f := .noat "Table" "modes") rfl)
theorem T.n_Table_rules (t : T K mg) : NoAttr K (He.ga K "Table") "rules" := He.noat_ok (t.c.fact 57 (f := .noat "Table" "rules") rfl)
theorem T.d_Rule_init (t : T K mg) : ∃ fd, FunD K "__init__" "Rule.__init__" (defArgs sRuleInit) (defBody sRuleInit) (defScope sRuleInit) [] [("ahead", .non), ("behind", .non)] (He.ma K (He.ga K "Rule") "__init__") fd := t.c.def_ 0 (d := dRuleInit) rfl
theorem T.d_Table_init (t : T K mg) : ∃ fd, FunD K "__init__" "Table.__init__" (defArgs sTableInit) (defBody sTableInit) (defScope sTableInit) [] [] (He.ma K (He.ga K "Table") "__init__") fd := t.c.def_ 1 (d := dTableInit) rfl
theorem T.d_copy_of_rule (t : T K mg) : Fd K "copy_of_rule" sCopyOfRule := t.c.def_ 2 (d := dCopyOfRule) rfl
theorem T.d_same_rule (t : T K mg) : Fd K "same_rule" sSameRule := t.c.def_ 3 (d := dSameRule) rfl
theorem T.d_same_table (t : T K mg) : Fd K "same_table" sSameTable := t.c.def_ 4 (d := dSameTable) rfl
theorem T.d_is_sign (t : T K mg) : Fd K "is_sign" sIsSign := t.c.def_ 5 (d := dIsSign) rfl
theorem T.d_are_different (t : T K mg) : Fd K "are_different" sAreDifferent := t.c.def_ 6 (d := dAreDifferent) rfl
theorem T.d_are_signs (t : T K mg) : Fd K "are_signs" sAreSigns := t.c.def_ 7 (d := dAreSigns) rfl
theorem T.d_is_mode_count (t : T K mg) : Fd K "is_mode_count" sIsModeCount := t.c.def_ 8 (d := dIsModeCount) rfl
theorem T.d_is_mode (t : T K mg) : Fd K "is_mode" sIsMode := t.c.def_ 9 (d := dIsMode) rfl
theorem T.d_is_rule_text (t : T K mg) : Fd K "is_rule_text" sIsRuleText := t.c.def_ 10 (d := dIsRuleText) rfl
theorem T.d_are_rule_cells (t : T K mg) : Fd K "are_rule_cells" sAreRuleCells := t.c.def_ 11 (d := dAreRuleCells) rfl
theorem T.d_is_neighbour (t : T K mg) : Fd K "is_neighbour" sIsNeighbour := t.c.def_ 12 (d := dIsNeighbour) rfl
theorem T.d_is_rule (t : T K mg) : Fd K "is_rule" sIsRule := t.c.def_ 13 (d := dIsRule) rfl
theorem T.d_is_let_by (t : T K mg) : Fd K "is_let_by" sIsLetBy := t.c.def_ 14 (d := dIsLetBy) rfl
theorem T.d_dots_of (t : T K mg) : Fd K "dots_of" sDotsOf := t.c.def_ 15 (d := dDotsOf) rfl
theorem T.d_cell_of (t : T K mg) : Fd K "cell_of" sCellOf := t.c.def_ 16 (d := dCellOf) rfl
theorem T.d_law_state (t : T K mg) : Fd K "_law_state" sLawState := t.c.def_ 17 (d := dLawState) rfl
theorem T.d_law_draw (t : T K mg) : Fd K "_law_draw" sLawDraw := t.c.def_ 18 (d := dLawDraw) rfl
theorem T.d_law_part (t : T K mg) : Fd K "_law_part" sLawPart := t.c.def_ 19 (d := dLawPart) rfl
theorem T.d_law_near (t : T K mg) : Fd K "_law_near" sLawNear := t.c.def_ 20 (d := dLawNear) rfl
theorem T.d_law_rule (t : T K mg) : Fd K "_law_rule" sLawRule := t.c.def_ 21 (d := dLawRule) rfl
theorem T.d_law_parts (t : T K mg) : Fd K "_law_parts" sLawParts := t.c.def_ 22 (d := dLawParts) rfl
theorem T.d_law_table (t : T K mg) : Fd K "_law_table" sLawTable := t.c.def_ 23 (d := dLawTable) rfl
theorem T.d_law_rows (t : T K mg) : Fd K "_law_rows" sLawRows := t.c.def_ 24 (d := dLawRows) rfl
theorem T.d_law_changed (t : T K mg) : Fd K "_law_changed" sLawChanged := t.c.def_ 25 (d := dLawChanged) rfl
theorem T.d_law (t : T K mg) : Fd K "law" sLaw := t.c.def_ 26 (d := dLaw) rfl
end
end Sx

set_option Elab.async false
set_option linter.all false
set_option maxRecDepth 100000
set_option maxHeartbeats 1000000
namespace Sx
open PySem PySem.Spec PyProof.Rows L2 SxA
/-! ### a def that keeps a promise, called by its name -/
def Ok (P : Program) (w : World) (K : PySem.W.Frag) (mg : Str → Option Value) (base : Heap) (k : Nat) (x : Str) (ps : List Str) (sp : Sp) : Prop :=
  ∃ fd, FnOk P w K mg base CX0 k (He.ga K x) fd ps sp ∧ Binds K fd ps [] ∧ PySem.W.keepIn K (.ref (He.ga K x)) = true ∧ mg x = some (.ref (He.ga K x))
section
variable {P : Program} {w : World} {K : PySem.W.Frag} {mg : Str → Option Value} {base : Heap}
theorem mkOk {x : Str} {st : Stmt} {N ps : List Str} {k : Nat} {sp : Sp} (d : Fd K x st) (hx : mg x = some (.ref (He.ga K x))) (S : FnScope N ps (defScope st)) (len : ∀ vs H Q E, sp vs H Q E → vs.length = ps.length)
    (bnd : ∀ (kV doc pm : Value) (an : Option Addr) (cdv ct : Value) (us : List Value), us.length = ps.length → bindArgs (PySem.W.fnOf x x (defArgs st) (defBody st) (defScope st) .none kV doc pm an cdv ct) ⟨us, []⟩ = pure (ps.zip us))
    (body : ∀ (cdv : Value) (A : Around) (outer : List Env) (s : Shared) (H0 : Hp) (vs : List V) (Q : VK) (E : XK), Room k (A.deeper (envOfC x (defScope st) s.heap.objs.size (He.ga K x) cdv)) → sp vs H0 Q E →
      ∃ t, PSs (cxOf CX0 P w K mg base N x (defScope st) (He.ga K x) cdv A outer s H0 E).nox (defBody st) t ∧ t { nx := fun _ H' => Q .non H', rt := Q } (start N vs) H0) : Ok P w K mg base (k + 1) x ps sp := by
  obtain ⟨fd, F⟩ := d
  refine ⟨fd, F.ok S len fun cdv A outer s H vs Q E hr h => ?_, F.bindsN bnd, F.kp, hx⟩
  obtain ⟨t, h1, h2⟩ := body cdv A outer s H vs Q E hr h
  exact ⟨t, h1.nox, h2⟩
theorem pe_ok {X : Cx} {k : Nat} {x : Str} {ps : List Str} {sp : Sp} {p pos : Pos} {e : Expr} {es : List Expr} {t : TA} (o : Ok X.prog X.w X.K X.mg X.base k x ps sp) (hr : Room k X.A) (hg : Gl X x) (ha : PA X (e :: es) t)
    (hdb : (x == ("__debug__" : Str)) = false := by decide) (hs : starEach (e :: es) X.env = (false, eval e X.env) :: starEach es X.env := by rfl) (hpl : ((backTo pos (starEach es X.env)).any (·.1)) = false := by rfl) :
    PE X (.Call (.Name x p) (e :: es) [] pos) (tCall sp [] E0 t) := by
  obtain ⟨fd, F, b, kp, hm⟩ := o
  exact pe_call F hr hg hm kp b .nil pass0 ha hdb hs hpl
/-! ### frames: all that was tracked is as it was, but at a -/
def But (a : Addr) (H H' : Hp) : Prop := ∀ b o, H b = some o → b ≠ a → H' b = some o
theorem But.of {a : Addr} {H H' : Hp} (s : Same H H') : But a H H' := fun b o e _ => s b o e
theorem Same.new {H : Hp} {p : Addr} {o : HO} (h : H p = none) : Same H (upd H p o) := fun b o e => by
  rw [upd_ne (ne_of_none e h)]
  exact e
theorem Same.put {H0 H : Hp} {p : Addr} {o : HO} (s : Same H0 H) (h : H0 p = none) : Same H0 (upd H p o) := fun b o e => by
  rw [upd_ne (ne_of_none e h)]
  exact s b o e
/-! ### comprehensions whose elements are known -/
/-- .. over the signs of a text -/
theorem lc_text {z : Str} {ys : List V} {te : TE} {i0 : Nat} {vs : List Nat} {σ : L2.St} {H1 : Hp} {D : Addr} {Qd : Hp → Prop} (hD : H1 D = none) (hl : ys.length = z.cps.toList.length) (hz : ys.length ≤ sizeLine)
    (hw : ∀ c : Nat, wipe ((wipe σ vs).set i0 (some (.str (sg c)))) vs = wipe σ vs)
    (he : ∀ (i c : Nat) (y : V) (H : Hp) (Q : VK), z.cps.toList[i]? = some c → ys[i]? = some y → Same H1 H → (∀ H', Same H H' → Q y H') → te ((wipe σ vs).set i0 (some (.str (sg c)))) H Q)
    (hd : ∀ H, Same H1 H → H D = some (.lst ys) → Qd H) :
    ∃ W : Nat → Nat → Hp → Prop, (∃ m, W 0 m (upd H1 D (.lst []))) ∧ ∀ i m H, W i m H → ((Its z).stop i H ∧ Qd H) ∨ ((Its z).go i H ∧ ∃ Nx : Hp → Prop, (∀ H', Nx H' → ∃ m', m' < m ∧ W (i + 1) m' H') ∧
      ∀ x H', (Its z).yld i H x H' → (gName i0) x (wipe σ vs) H' fun σ2 H2 => wipe σ2 vs = wipe σ vs ∧ tYes σ2 H2 fun b H3 => if b = true then te σ2 H3 fun y H4 => ∃ acc, H4 D = some (.lst acc) ∧ acc.length < sizeLine ∧ Nx (upd H4 D (.lst (acc ++ [y]))) else Nx H3) := by
  have hsz : z.cps.size = ys.length := by rw [hl]; simp
  refine ⟨fun i m H => m = ys.length - i ∧ i ≤ ys.length ∧ Same H1 H ∧ H D = some (.lst (ys.take i)), ⟨ys.length, rfl, Nat.zero_le _, Same.new hD, upd_same⟩, ?_⟩
  rintro i m H ⟨rfl, hi, sm, hH⟩
  by_cases lt : i < ys.length
  · refine .inr ⟨by show i < z.cps.size; omega, fun H' => Same H1 H' ∧ H' D = some (.lst (ys.take (i + 1))), fun H' q => ⟨ys.length - (i + 1), by omega, rfl, lt, q.1, q.2⟩, ?_⟩
    rintro x H' ⟨rfl, c, hc, rfl⟩
    have hc2 : z.cps.toList[i]? = some c := by rw [Array.getElem?_toList]; exact hc
    have hy : ys[i]? = some ys[i] := List.getElem?_eq_getElem lt
    refine ⟨hw c, ?_⟩
    show te _ _ _
    refine he i c _ _ _ hc2 hy sm fun H4 s4 => ⟨ys.take i, s4 _ _ hH, ?_, ?_, ?_⟩
    · rw [List.length_take]; omega
    · exact Same.put (sm.trans s4) hD
    · rw [upd_same, List.take_add_one, hy]; rfl
  · have e : i = ys.length := by omega
    subst e
    refine .inl ⟨by show z.cps.size ≤ ys.length; omega, hd H sm ?_⟩
    rw [hH, List.take_length]
/-- .. over a list -/
theorem lc_known {a : Addr} {xs ys : List V} {te : TE} {i0 : Nat} {vs : List Nat} {σ : L2.St} {H1 : Hp} {D : Addr} {Qd : Hp → Prop} (hD : H1 D = none) (hq : SqL K H1 a xs) (hl : ys.length = xs.length) (hz : ys.length ≤ sizeLine)
    (hw : ∀ v : V, wipe ((wipe σ vs).set i0 (some v)) vs = wipe σ vs)
    (he : ∀ (i : Nat) (x y : V) (H : Hp) (Q : VK), xs[i]? = some x → ys[i]? = some y → Same H1 H → (∀ H', Same H H' → Q y H') → te ((wipe σ vs).set i0 (some x)) H Q)
    (hd : ∀ H, Same H1 H → H D = some (.lst ys) → Qd H) :
    ∃ W : Nat → Nat → Hp → Prop, (∃ m, W 0 m (upd H1 D (.lst []))) ∧ ∀ i m H, W i m H → ((Itl K a).stop i H ∧ Qd H) ∨ ((Itl K a).go i H ∧ ∃ Nx : Hp → Prop, (∀ H', Nx H' → ∃ m', m' < m ∧ W (i + 1) m' H') ∧
      ∀ x H', (Itl K a).yld i H x H' → (gName i0) x (wipe σ vs) H' fun σ2 H2 => wipe σ2 vs = wipe σ vs ∧ tYes σ2 H2 fun b H3 => if b = true then te σ2 H3 fun y H4 => ∃ acc, H4 D = some (.lst acc) ∧ acc.length < sizeLine ∧ Nx (upd H4 D (.lst (acc ++ [y]))) else Nx H3) := by
  refine lc_list (K := K) (a := a) (xs := xs) (g := gName i0) (tt := tYes) (te := te) (fun i H => Same H1 H ∧ H D = some (.lst (ys.take i))) ⟨Same.new hD, upd_same⟩ (fun i H _ p => p.1.seq hq) ?_ ?_
  · rintro i x H hx ⟨sm, hH⟩
    have lt : i < ys.length := by rw [hl]; exact (List.getElem?_eq_some_iff.mp hx).1
    have hy : ys[i]? = some ys[i] := List.getElem?_eq_getElem lt
    refine ⟨hw x, ?_⟩
    show te _ _ _
    refine he i x _ _ _ hx hy sm fun H4 s4 => ⟨ys.take i, s4 _ _ hH, ?_, Same.put (sm.trans s4) hD, ?_⟩
    · rw [List.length_take]; omega
    · rw [upd_same, List.take_add_one, hy]; rfl
  · rintro H ⟨sm, hH⟩
    rw [← hl, List.take_length] at hH
    exact hd H sm hH
/-! ### mirrors: texts, cells, neighbours -/
abbrev sl (z : Str) : List Nat := z.cps.toList
theorem sl_len (z : Str) : z.length = (sl z).length := by simp [Str.length]
def signB (c : Nat) : Bool := decide (32 ≤ c) && decide (c ≤ 126)
def goodB (c : Nat) : Bool := signB c && !(decide (c = 94) || decide (c = 36))
def diffB (z : Str) : Bool := decide (sl z).Nodup
def signsB (z : Str) : Bool := (decide (1 ≤ (z.length : Int)) && decide ((z.length : Int) ≤ 60)) && (diffB z && (sl z).all goodB)
def textB (t z : Str) : Bool := (decide (1 ≤ (t.length : Int)) && decide ((t.length : Int) ≤ 4)) && (sl t).all fun c => decide (c ∈ sl z)
def cellB (c : Int) : Bool := decide (0 ≤ c) && decide (c ≤ 63)
def cellsB (cs : List Int) : Bool := (decide (1 ≤ (cs.length : Int)) && decide ((cs.length : Int) ≤ 4)) && cs.all cellB
def nearB (o : Option Str) (z : Str) (e : Nat) : Bool := match o with
  | none => true
  | some t => decide (sl t ≠ []) && (diffB t && (sl t).all fun c => decide (c ∈ sl z) || decide (c = e))
def modeB (m n : Int) : Bool := decide (0 ≤ m) && decide (m < n)
def manyB (n : Int) : Bool := decide (1 ≤ n) && decide (n ≤ 4)
/-! ### their promises -/
def spSign : Sp := fun vs H Q _ => ∃ c : Nat, vs = [.str (sg c)] ∧ Q (.bl (signB c)) H
def spDiff : Sp := fun vs H Q _ => ∃ z : Str, vs = [.str z] ∧ z.length ≤ 4000 ∧ Q (.bl (diffB z)) H
def spSigns : Sp := fun vs H Q _ => ∃ z : Str, vs = [.str z] ∧ z.length ≤ 4000 ∧ ∀ H', Same H H' → Q (.bl (signsB z)) H'
def spMany : Sp := fun vs H Q _ => ∃ n : Int, vs = [.int n] ∧ Q (.bl (manyB n)) H
def spMode : Sp := fun vs H Q _ => ∃ m n : Int, vs = [.int m, .int n] ∧ Q (.bl (modeB m n)) H
def spText : Sp := fun vs H Q _ => ∃ t z : Str, vs = [.str t, .str z] ∧ t.length ≤ 4000 ∧ ∀ H', Same H H' → Q (.bl (textB t z)) H'
def spCells (K : PySem.W.Frag) : Sp := fun vs H Q _ => ∃ (a : Addr) (cs : List Int), vs = [.ref a] ∧ SqL K H a (cs.map V.int) ∧ cs.length ≤ 4000 ∧ ∀ H', Same H H' → Q (.bl (cellsB cs)) H'
def oV : Option Str → V
  | none => .non
  | some t => .str t
def spNear : Sp := fun vs H Q _ => ∃ (o : Option Str) (z : Str) (e : Nat), vs = [oV o, .str z, .str (sg e)] ∧ (∀ t, o = some t → t.length ≤ 4000) ∧ ∀ H', Same H H' → Q (.bl (nearB o z e)) H'
/-! ### they keep them -/
theorem scSign : FnScope ["character"] ["character"] (defScope sIsSign) := ⟨rfl, rfl, rfl, by decide +kernel, rfl, by decide +kernel, by decide +kernel⟩
theorem lt1 (a b : Nat) : decide ((⟨#[a]⟩ : Str).cps.toList < (⟨#[b]⟩ : Str).cps.toList) = decide (a < b) := by
  rw [decide_eq_decide]
  show [a] < [b] ↔ a < b
  rw [List.cons_lt_cons_iff]
  constructor
  · rintro (h | ⟨_, h⟩)
    · exact h
    · exact absurd h (List.not_lt_nil _)
  · exact Or.inl
theorem ok_sign (t : T K mg) : Ok P w K mg base 1 "is_sign" ["character"] spSign := by
  refine mkOk t.d_is_sign t.g_is_sign scSign (fun vs H Q E h => ?_) (fun _ _ _ _ _ _ us hl => match us, hl with | [_], _ => rfl) fun cdv A outer s H vs Q E hr h => ?_
  · obtain ⟨c, rfl, _⟩ := h; rfl
  obtain ⟨c, rfl, q⟩ := h
  refine ⟨_, pss_one (ps_ret (pe_chain op_le_str op_le_str pe_str (pv 0) pe_str)), ?_⟩
  refine ⟨_, rfl, _, _, rfl, rfl, _, rfl, ?_⟩
  have e1 : (!decide ((sg c).cps.toList < (Str.ofString " ").cps.toList)) = decide (32 ≤ c) := by
    have e : Str.ofString " " = sg 32 := by decide +kernel
    rw [e, lt1, ← decide_not, decide_eq_decide]; omega
  have e2 : (!decide ((Str.ofString "~").cps.toList < (sg c).cps.toList)) = decide (c ≤ 126) := by
    have e : Str.ofString "~" = sg 126 := by decide +kernel
    rw [e, lt1, ← decide_not, decide_eq_decide]; omega
  show if (!decide ((sg c).cps.toList < (Str.ofString " ").cps.toList)) = true then _ else _
  rw [e1]
  unfold signB at q
  refine ite2 (fun h => ?_) (fun h => ?_)
  · refine ⟨_, _, rfl, rfl, ?_⟩
    rw [h, Bool.true_and] at q
    show Q (.bl (!decide ((Str.ofString "~").cps.toList < (sg c).cps.toList))) _
    rw [e2]
    exact q
  · rw [Bool.not_eq_true] at h
    rw [h, Bool.false_and] at q
    exact q
end
end Sx

set_option Elab.async false
set_option linter.all false
set_option maxRecDepth 100000
set_option maxHeartbeats 1000000
namespace Sx
open PySem PySem.Spec PyProof.Rows L2 SxA
section
variable {P : Program} {w : World} {K : PySem.W.Frag} {mg : Str → Option Value} {base : Heap}
theorem pgi {X : Cx} {x : Str} {i : Int} {k : Tok} {pos : Pos} (hg : Gl X x) (hm : X.mg x = some (.int i k)) (hd : (x == ("__debug__" : Str)) = false := by decide) : PE X (.Name x pos) (tC (.int i)) := pe_glob (v := .int i) hg hm ⟨_, rfl⟩ hd
theorem pgs {X : Cx} {x z : Str} {k : Tok} {pos : Pos} (hg : Gl X x) (hm : X.mg x = some (.str z k)) (hd : (x == ("__debug__" : Str)) = false := by decide) : PE X (.Name x pos) (tC (.str z)) := pe_glob (v := .str z) hg hm ⟨_, rfl⟩ hd
theorem op_notInK {X : Cx} {K : PySem.W.Frag} (h : X.K = K) : OpR X (compareOp .NotIn) (rIn K true) := by
  subst h
  exact op_notIn_seq
theorem small4 {n : Nat} (h : n ≤ 4000) : n ≤ sizeLine := Nat.le_trans h (by decide)
theorem sqD {D : Addr} {H : Hp} {ys : List V} (h : H D = some (.lst ys)) : SqL K H D ys := SqL.of h
theorem scDiff : FnScope ["text"] ["text"] (defScope sAreDifferent) := ⟨rfl, rfl, rfl, by decide +kernel, rfl, by decide +kernel, by decide +kernel⟩
theorem ok_diff (t : T K mg) : Ok P w K mg base 1 "are_different" ["text"] spDiff := by
  refine mkOk t.d_are_different t.g_are_different scDiff (fun vs H Q E h => ?_) (fun _ _ _ _ _ _ us hl => match us, hl with | [_], _ => rfl) fun cdv A outer s H vs Q E hr h => ?_
  · obtain ⟨z, rfl, _⟩ := h; rfl
  obtain ⟨z, rfl, hz, q⟩ := h
  refine ⟨_, pss_one (ps_ret (pe_cmpR op_eq (pe_kinds rfl t.f_len rfl t.f_set (pv 0)) (pe_callB call_len_str rfl t.f_len boot_len (pa_cons (pv 0) pa_nil)) (nomark _))), ?_⟩
  refine ⟨_, rfl, z, rfl, hz, _, rfl, z, rfl, small4 hz, rfl, ?_⟩
  have e : decide (V.int (kinds z : Nat) = V.int (z.length : Nat)) = diffB z := by
    unfold diffB
    rw [decide_eq_decide, ← kinds_eq]
    constructor
    · intro h
      have := V.int.inj h
      omega
    · intro h
      rw [h]
  show Q (.bl (decide (V.int (kinds z : Nat) = V.int (z.length : Nat)))) H
  rw [e]
  exact q
theorem scSigns : FnScope ["signs", "sign"] ["signs"] (defScope sAreSigns) := ⟨rfl, rfl, rfl, by decide +kernel, rfl, by decide +kernel, by decide +kernel⟩
theorem inV2 (c : Nat) (k1 k2 : Str) (h1 : k1 = sg 94) (h2 : k2 = sg 36) : (!inV (.str (sg c)) [.str k1, .str k2]) = !(decide (c = 94) || decide (c = 36)) := by
  subst h1 h2
  have e : ∀ d : Nat, eqV (.str (sg d)) (.str (sg c)) = decide (c = d) := fun d => by
    show (sg d == sg c) = decide (c = d)
    by_cases h : c = d
    · subst h; simp
    · rw [decide_eq_false h]
      exact beq_eq_false_iff_ne.mpr fun q => h (sg_inj q).symm
  unfold inV
  rw [List.any_cons, List.any_cons, List.any_nil, e, e, Bool.or_false]
theorem ok_signs (t : T K mg) : Ok P w K mg base 2 "are_signs" ["signs"] spSigns := by
  obtain ⟨k1, m1⟩ := t.i_MOST_SIGNS
  obtain ⟨k2, m2⟩ := t.s_BEGINNING
  obtain ⟨k3, m3⟩ := t.s_END
  refine mkOk t.d_are_signs t.g_are_signs scSigns (fun vs H Q E h => ?_) (fun _ _ _ _ _ _ us hl => match us, hl with | [_], _ => rfl) fun cdv A outer s H vs Q E hr h => ?_
  · obtain ⟨z, rfl, _⟩ := h; rfl
  obtain ⟨z, rfl, hz, q⟩ := h
  refine ⟨_, pss_one (ps_ret (pe_and (pe_chain op_le op_le pe_int (pe_callB call_len_str rfl t.f_len boot_len (pa_cons (pv 0) pa_nil)) (pgi rfl m1))
    (pe_and (pe_ok (ok_diff t) hr rfl (pa_cons (pv 0) pa_nil)) (pe_one (pe_callB (cr_all rfl) rfl t.f_all (by decide +kernel) (pa_cons
      (pe_lc (own := [("sign", 1)]) (g := gName 1) (tt := tYes) rfl scSigns.nd (pi_str (pv 0)) (blkOk_by (own := [("sign", 1)]) (N := ["signs", "sign"]) (sc := defScope sAreSigns) (by decide +kernel)) (fun _ _ _ _ _ => pg_name (i := 1) scSigns.nd rfl (Or.inl rfl)) (fun _ _ _ _ _ => pts_nil)
        (fun _ _ _ _ _ => pe_and (pe_ok (ok_sign t) hr rfl (pa_cons (pv 1) pa_nil)) (pe_one (pe_cmpR (op_notInK (K := K) rfl) (pv 1) (pe_tup (pa_cons (pgs rfl m2) (pa_cons (pgs rfl m3) pa_nil))) rfl)))) pa_nil)))))), ?_⟩
  have q' : ∀ (b : Bool) (H' : Hp), Same H H' → signsB z = b → Q (.bl b) H' := fun b H' s e => e ▸ q H' s
  unfold signsB at q'
  refine ⟨_, rfl, z, rfl, small4 hz, _, _, rfl, rfl, _, rfl, ?_⟩
  refine ite2 (fun h1 => ?_) (fun h1 => ⟨_, rfl, iteF (q' _ _ (Same.refl _) (by rw [Bool.not_eq_true] at h1; simp only [h1, Bool.false_and]))⟩)
  refine ⟨_, _, rfl, rfl, _, rfl, ?_⟩
  refine ite2 (fun h2 => ?_) (fun h2 => q' _ _ (Same.refl _) (by rw [Bool.not_eq_true] at h2; simp only [h2, Bool.false_and, Bool.and_false]))
  refine ⟨_, rfl, z, rfl, hz, _, rfl, ?_⟩
  refine ite2 (fun h3 => ?_) (fun h3 => q' _ _ (Same.refl _) (by rw [Bool.not_eq_true] at h3; simp only [h3, Bool.false_and, Bool.and_false]))
  refine ⟨_, rfl, z, rfl, fun D hD => ?_⟩
  refine lc_text (ys := (sl z).map fun c => V.bl (goodB c)) hD (by simp) (by rw [List.length_map]; exact small4 (by rw [← sl_len]; exact hz)) (fun _ => rfl) (fun i c y H1 Q1 hc hy sm k => ?_) (fun H' sm hH => ?_)
  · have ey : y = .bl (goodB c) := by
      rw [List.getElem?_map, hc] at hy
      exact (Option.some.inj hy).symm
    subst ey
    have k' : ∀ (b : Bool) (H' : Hp), Same H1 H' → goodB c = b → Q1 (.bl b) H' := fun b H' s e => e ▸ k H' s
    unfold goodB at k'
    refine ⟨_, rfl, c, rfl, _, rfl, ?_⟩
    refine ite2 (fun h4 => ?_) (fun h4 => k' _ _ (Same.refl _) (by rw [Bool.not_eq_true] at h4; rw [h4, Bool.false_and]))
    refine ⟨_, rfl, by show 2 ≤ sizeLine; decide, fun p hp => ?_⟩
    refine ⟨p, _, rfl, .inr (SqT.of upd_same), rfl, rfl, k' _ _ (Same.new hp) ?_⟩
    rw [h4, Bool.true_and]
    exact (inV2 c _ _ (by decide +kernel) (by decide +kernel)).symm
  · refine ⟨D, (sl z).map goodB, rfl, sqD (by rw [hH]; simp), q' _ _ sm ?_⟩
    rw [h1, h2, h3]
    simp
theorem scMany : FnScope ["modes"] ["modes"] (defScope sIsModeCount) := ⟨rfl, rfl, rfl, by decide +kernel, rfl, by decide +kernel, by decide +kernel⟩
theorem ok_many (t : T K mg) : Ok P w K mg base 1 "is_mode_count" ["modes"] spMany := by
  obtain ⟨k1, m1⟩ := t.i_MOST_MODES
  refine mkOk t.d_is_mode_count t.g_is_mode_count scMany (fun vs H Q E h => ?_) (fun _ _ _ _ _ _ us hl => match us, hl with | [_], _ => rfl) fun cdv A outer s H vs Q E hr h => ?_
  · obtain ⟨n, rfl, _⟩ := h; rfl
  obtain ⟨n, rfl, q⟩ := h
  refine ⟨_, pss_one (ps_ret (pe_chain op_le op_le pe_int (pv 0) (pgi rfl m1))), ?_⟩
  unfold manyB at q
  refine ⟨_, rfl, _, _, rfl, rfl, _, rfl, ?_⟩
  refine ite2 (fun h => ⟨_, _, rfl, rfl, ?_⟩) (fun h => ?_)
  · rw [h, Bool.true_and] at q; exact q
  · rw [Bool.not_eq_true] at h; rw [h, Bool.false_and] at q; exact q
theorem scMode : FnScope ["mode", "modes"] ["mode", "modes"] (defScope sIsMode) := ⟨rfl, rfl, rfl, by decide +kernel, rfl, by decide +kernel, by decide +kernel⟩
theorem ok_mode (t : T K mg) : Ok P w K mg base 1 "is_mode" ["mode", "modes"] spMode := by
  refine mkOk t.d_is_mode t.g_is_mode scMode (fun vs H Q E h => ?_) (fun _ _ _ _ _ _ us hl => match us, hl with | [_, _], _ => rfl) fun cdv A outer s H vs Q E hr h => ?_
  · obtain ⟨m, n, rfl, _⟩ := h; rfl
  obtain ⟨m, n, rfl, q⟩ := h
  refine ⟨_, pss_one (ps_ret (pe_chain op_le op_lt pe_int (pv 0) (pv 1))), ?_⟩
  unfold modeB at q
  refine ⟨_, rfl, _, _, rfl, rfl, _, rfl, ?_⟩
  refine ite2 (fun h => ⟨_, rfl, _, _, rfl, rfl, ?_⟩) (fun h => ?_)
  · rw [h, Bool.true_and] at q; exact q
  · rw [Bool.not_eq_true] at h; rw [h, Bool.false_and] at q; exact q
theorem scText : FnScope ["text", "signs", "sign"] ["text", "signs"] (defScope sIsRuleText) := ⟨rfl, rfl, rfl, by decide +kernel, rfl, by decide +kernel, by decide +kernel⟩
theorem ok_text (t : T K mg) : Ok P w K mg base 1 "is_rule_text" ["text", "signs"] spText := by
  obtain ⟨k1, m1⟩ := t.i_MOST_RULE_SIGNS
  refine mkOk t.d_is_rule_text t.g_is_rule_text scText (fun vs H Q E h => ?_) (fun _ _ _ _ _ _ us hl => match us, hl with | [_, _], _ => rfl) fun cdv A outer s H vs Q E hr h => ?_
  · obtain ⟨x, z, rfl, _⟩ := h; rfl
  obtain ⟨x, z, rfl, hx, q⟩ := h
  refine ⟨_, pss_one (ps_ret (pe_and (pe_chain op_le op_le pe_int (pe_callB call_len_str rfl t.f_len boot_len (pa_cons (pv 0) pa_nil)) (pgi rfl m1))
    (pe_one (pe_callB (cr_all rfl) rfl t.f_all (by decide +kernel) (pa_cons
      (pe_lc (own := [("sign", 2)]) (g := gName 2) (tt := tYes) rfl scText.nd (pi_str (pv 0)) (blkOk_by (own := [("sign", 2)]) (N := ["text", "signs", "sign"]) (sc := defScope sIsRuleText) (by decide +kernel)) (fun _ _ _ _ _ => pg_name (i := 2) scText.nd rfl (Or.inl rfl)) (fun _ _ _ _ _ => pts_nil)
        (fun _ _ _ _ _ => pe_cmpR op_in_sign (pv 2) (pv 1) rfl)) pa_nil))))), ?_⟩
  have q' : ∀ (b : Bool) (H' : Hp), Same H H' → textB x z = b → Q (.bl b) H' := fun b H' s e => e ▸ q H' s
  unfold textB at q'
  refine ⟨_, rfl, x, rfl, small4 hx, _, _, rfl, rfl, _, rfl, ?_⟩
  refine ite2 (fun h1 => ?_) (fun h1 => ⟨_, rfl, iteF (q' _ _ (Same.refl _) (by rw [Bool.not_eq_true] at h1; simp only [h1, Bool.false_and]))⟩)
  refine ⟨_, _, rfl, rfl, _, rfl, ?_⟩
  refine ite2 (fun h2 => ?_) (fun h2 => q' _ _ (Same.refl _) (by rw [Bool.not_eq_true] at h2; simp only [h2, Bool.false_and, Bool.and_false]))
  refine ⟨_, rfl, x, rfl, fun D hD => ?_⟩
  refine lc_text (ys := (sl x).map fun c => V.bl (decide (c ∈ sl z))) hD (by simp) (by rw [List.length_map]; exact small4 (by rw [← sl_len]; exact hx)) (fun _ => rfl) (fun i c y H1 Q1 hc hy sm k => ?_) (fun H' sm hH => ?_)
  · have ey : y = .bl (decide (c ∈ sl z)) := by
      rw [List.getElem?_map, hc] at hy
      exact (Option.some.inj hy).symm
    subst ey
    exact ⟨_, rfl, _, rfl, c, z, rfl, rfl, k _ (Same.refl _)⟩
  · refine ⟨D, (sl x).map fun c => decide (c ∈ sl z), rfl, sqD (by rw [hH]; simp), q' _ _ sm ?_⟩
    rw [h1, h2]
    simp
theorem scCells : FnScope ["cells", "cell"] ["cells"] (defScope sAreRuleCells) := ⟨rfl, rfl, rfl, by decide +kernel, rfl, by decide +kernel, by decide +kernel⟩
theorem ok_cells (t : T K mg) : Ok P w K mg base 1 "are_rule_cells" ["cells"] (spCells K) := by
  obtain ⟨k1, m1⟩ := t.i_MOST_RULE_CELLS
  obtain ⟨k2, m2⟩ := t.i_MOST_CELL
  refine mkOk t.d_are_rule_cells t.g_are_rule_cells scCells (fun vs H Q E h => ?_) (fun _ _ _ _ _ _ us hl => match us, hl with | [_], _ => rfl) fun cdv A outer s H vs Q E hr h => ?_
  · obtain ⟨a, cs, rfl, _⟩ := h; rfl
  obtain ⟨a, cs, rfl, hS, hn, q⟩ := h
  refine ⟨_, pss_one (ps_ret (pe_and (pe_chain op_le op_le pe_int (pe_callB call_len_seq rfl t.f_len boot_len (pa_cons (pv 0) pa_nil)) (pgi rfl m1))
    (pe_one (pe_callB (cr_all rfl) rfl t.f_all (by decide +kernel) (pa_cons
      (pe_lc (own := [("cell", 1)]) (g := gName 1) (tt := tYes) rfl scCells.nd (pi_list (pv 0)) (blkOk_by (own := [("cell", 1)]) (N := ["cells", "cell"]) (sc := defScope sAreRuleCells) (by decide +kernel)) (fun _ _ _ _ _ => pg_name (i := 1) scCells.nd rfl (Or.inl rfl)) (fun _ _ _ _ _ => pts_nil)
        (fun _ _ _ _ _ => pe_chain op_le op_le pe_int (pv 1) (pgi rfl m2))) pa_nil))))), ?_⟩
  have q' : ∀ (b : Bool) (H' : Hp), Same H H' → cellsB cs = b → Q (.bl b) H' := fun b H' s e => e ▸ q H' s
  unfold cellsB at q'
  refine ⟨_, rfl, a, cs.map V.int, rfl, .inl hS, _, _, rfl, rfl, _, rfl, ?_⟩
  rw [List.length_map]
  refine ite2 (fun h1 => ?_) (fun h1 => ⟨_, rfl, iteF (q' _ _ (Same.refl _) (by rw [Bool.not_eq_true] at h1; simp only [h1, Bool.false_and]))⟩)
  refine ⟨_, _, rfl, rfl, _, rfl, ?_⟩
  refine ite2 (fun h2 => ?_) (fun h2 => q' _ _ (Same.refl _) (by rw [Bool.not_eq_true] at h2; simp only [h2, Bool.false_and, Bool.and_false]))
  refine ⟨_, rfl, a, rfl, ⟨_, hS⟩, fun D hD => ?_⟩
  refine lc_known (xs := cs.map V.int) (ys := cs.map fun c => V.bl (cellB c)) hD hS (by simp) (by simp; exact small4 hn) (fun _ => rfl) (fun i x y H1 Q1 hc hy sm k => ?_) (fun H' sm hH => ?_)
  · obtain ⟨c, h5, rfl⟩ : ∃ c, cs[i]? = some c ∧ x = V.int c := by
      rw [List.getElem?_map] at hc
      cases e : cs[i]? with
      | none => rw [e] at hc; cases hc
      | some c => rw [e] at hc; exact ⟨c, rfl, (Option.some.inj hc).symm⟩
    have ey : y = .bl (cellB c) := by
      rw [List.getElem?_map, h5] at hy
      exact (Option.some.inj hy).symm
    subst ey
    have k' := k H1 (Same.refl _)
    unfold cellB at k'
    refine ⟨_, rfl, _, _, rfl, rfl, _, rfl, ?_⟩
    refine ite2 (fun h => ⟨_, _, rfl, rfl, ?_⟩) (fun h => ?_)
    · rw [h, Bool.true_and] at k'; exact k'
    · rw [Bool.not_eq_true] at h; rw [h, Bool.false_and] at k'; exact k'
  · refine ⟨D, cs.map cellB, rfl, sqD (by rw [hH]; simp), q' _ _ sm ?_⟩
    rw [h1, h2]
    simp
theorem scNear : FnScope ["text", "signs", "edge", "sign"] ["text", "signs", "edge"] (defScope sIsNeighbour) := ⟨rfl, rfl, rfl, by decide +kernel, rfl, by decide +kernel, by decide +kernel⟩
theorem eq_sg (c e : Nat) : decide (V.str (sg c) = V.str (sg e)) = decide (c = e) := by
  rw [decide_eq_decide]
  exact ⟨fun h => sg_inj (V.str.inj h), fun h => by rw [h]⟩
theorem ok_near (t : T K mg) : Ok P w K mg base 2 "is_neighbour" ["text", "signs", "edge"] spNear := by
  refine mkOk t.d_is_neighbour t.g_is_neighbour scNear (fun vs H Q E h => ?_) (fun _ _ _ _ _ _ us hl => match us, hl with | [_, _, _], _ => rfl) fun cdv A outer s H vs Q E hr h => ?_
  · obtain ⟨x, z, e, rfl, _⟩ := h; rfl
  obtain ⟨x, z, e, rfl, hx, q⟩ := h
  refine ⟨_, pss_cons (ps_if (pt_cmp (pc_isN (pv 0))) (pss_one (ps_ret pe_bl)) pss_nil)
    (pss_one (ps_ret (pe_and (pe_cmpR op_ne (pv 0) pe_str (nomark _)) (pe_and (pe_ok (ok_diff t) hr rfl (pa_cons (pv 0) pa_nil)) (pe_one (pe_callB (cr_all rfl) rfl t.f_all (by decide +kernel) (pa_cons
      (pe_lc (own := [("sign", 3)]) (g := gName 3) (tt := tYes) rfl scNear.nd (pi_str (pv 0)) (blkOk_by (own := [("sign", 3)]) (N := ["text", "signs", "edge", "sign"]) (sc := defScope sIsNeighbour) (by decide +kernel)) (fun _ _ _ _ _ => pg_name (i := 3) scNear.nd rfl (Or.inl rfl)) (fun _ _ _ _ _ => pts_nil)
        (fun _ _ _ _ _ => pe_or (pe_cmpR op_in_sign (pv 3) (pv 1) rfl) (pe_one (pe_cmpR op_eq (pv 3) (pv 2) (nomark _))))) pa_nil))))))), ?_⟩
  have q' : ∀ (b : Bool) (H' : Hp), Same H H' → nearB x z e = b → Q (.bl b) H' := fun b H' s e => e ▸ q H' s
  cases x with
  | none => exact ⟨_, rfl, _, rfl, iteT (q' _ _ (Same.refl _) rfl)⟩
  | some x =>
    have hx := hx x rfl
    unfold nearB at q'
    dsimp only at q'
    refine ⟨_, rfl, _, rfl, iteF ?_⟩
    refine ⟨_, rfl, rfl, _, rfl, ?_⟩
    have e1 : (!decide (V.str x = V.str (Str.ofString ""))) = decide (sl x ≠ []) := by
      rw [← decide_not, decide_eq_decide]
      constructor
      · intro h h2
        apply h
        have e3 : Str.ofString "" = ⟨#[]⟩ := by decide +kernel
        rw [e3]
        obtain ⟨a⟩ := x
        have : a = #[] := by simpa using h2
        rw [this]
      · intro h h2
        apply h
        have e3 : Str.ofString "" = ⟨#[]⟩ := by decide +kernel
        rw [V.str.inj h2, e3]
    show if (!decide (V.str x = V.str (Str.ofString ""))) = true then _ else _
    rw [e1]
    refine ite2 (fun h1 => ?_) (fun h1 => q' _ _ (Same.refl _) (by rw [Bool.not_eq_true] at h1; simp only [h1, Bool.false_and]))
    refine ⟨_, rfl, x, rfl, hx, _, rfl, ?_⟩
    refine ite2 (fun h3 => ?_) (fun h3 => q' _ _ (Same.refl _) (by rw [Bool.not_eq_true] at h3; simp only [h3, Bool.false_and, Bool.and_false]))
    refine ⟨_, rfl, x, rfl, fun D hD => ?_⟩
    refine lc_text (ys := (sl x).map fun c => V.bl (decide (c ∈ sl z) || decide (c = e))) hD (by simp) (by rw [List.length_map]; exact small4 (by rw [← sl_len]; exact hx)) (fun _ => rfl) (fun i c y H1 Q1 hc hy sm k => ?_) (fun H' sm hH => ?_)
    · have ey : y = .bl (decide (c ∈ sl z) || decide (c = e)) := by
        rw [List.getElem?_map, hc] at hy
        exact (Option.some.inj hy).symm
      subst ey
      have k' : ∀ (b : Bool), (decide (c ∈ sl z) || decide (c = e)) = b → Q1 (.bl b) H1 := fun b e => e ▸ k H1 (Same.refl _)
      refine ⟨_, rfl, _, rfl, c, z, rfl, rfl, _, rfl, ?_⟩
      refine ite2 (fun h => k' _ (by rw [h]; rfl)) (fun h => ⟨_, rfl, _, rfl, rfl, k' _ ?_⟩)
      rw [Bool.not_eq_true] at h
      rw [h, Bool.false_or]
      exact (eq_sg c e).symm
    · refine ⟨D, (sl x).map fun c => decide (c ∈ sl z) || decide (c = e), rfl, sqD (by rw [hH]; simp), q' _ _ sm ?_⟩
      rw [h1, h3]
      simp
end
end Sx

set_option Elab.async false
set_option linter.all false
set_option maxRecDepth 100000
set_option maxHeartbeats 1000000
namespace Sx
open PySem PySem.Spec PyProof.Rows L2 SxA
/-! ### data -/
structure RD where
  mode : Int
  text : Str
  cells : List Int
  to : Int
  ahead : Option Str
  behind : Option Str
deriving DecidableEq
structure TD where
  signs : Str
  modes : Int
  rules : List RD
deriving DecidableEq
def RD.sz (r : RD) : Prop := r.text.length ≤ 4000 ∧ r.cells.length ≤ 4000 ∧ (∀ t, r.ahead = some t → t.length ≤ 4000) ∧ ∀ t, r.behind = some t → t.length ≤ 4000
def TD.sz (d : TD) : Prop := d.signs.length ≤ 4000 ∧ d.rules.length ≤ 4000 ∧ ∀ r ∈ d.rules, r.sz
def ruleB (r : RD) (z : Str) (n : Int) : Bool := modeB r.mode n && (textB r.text z && (cellsB r.cells && (modeB r.to n && (nearB r.ahead z 94 && nearB r.behind z 36))))
def letB (d : TD) : Bool := signsB d.signs && (manyB d.modes && (decide ((d.rules.length : Int) ≤ 80) && d.rules.all fun r => ruleB r d.signs d.modes))
def ruleF (r : RD) (l : Addr) : List (Str × V) := [("mode", .int r.mode), ("text", .str r.text), ("cells", .ref l), ("to", .int r.to), ("ahead", oV r.ahead), ("behind", oV r.behind)]
def tableF (d : TD) (l : Addr) : List (Str × V) := [("signs", .str d.signs), ("modes", .int d.modes), ("rules", .ref l)]
def RuleO (K : PySem.W.Frag) (H : Hp) (v : V) (r : RD) : Prop := ∃ x dx l, v = .ref x ∧ H x = some (.ins (He.ga K "Rule") dx (ruleF r l)) ∧ H l = some (.lst (r.cells.map V.int))
def RulesL (K : PySem.W.Frag) (H : Hp) (l : Addr) (rs : List RD) : Prop := ∃ vs, H l = some (.lst vs) ∧ vs.length = rs.length ∧ ∀ (i : Nat) v r, vs[i]? = some v → rs[i]? = some r → RuleO K H v r
def TableO (K : PySem.W.Frag) (H : Hp) (v : V) (d : TD) : Prop := ∃ x dx l, v = .ref x ∧ H x = some (.ins (He.ga K "Table") dx (tableF d l)) ∧ RulesL K H l d.rules
theorem RuleO.same {K : PySem.W.Frag} {H H' : Hp} {v : V} {r : RD} (h : RuleO K H v r) (s : Same H H') : RuleO K H' v r := by
  obtain ⟨x, dx, l, e, h1, h2⟩ := h
  exact ⟨x, dx, l, e, s _ _ h1, s _ _ h2⟩
theorem RulesL.same {K : PySem.W.Frag} {H H' : Hp} {l : Addr} {rs : List RD} (h : RulesL K H l rs) (s : Same H H') : RulesL K H' l rs := by
  obtain ⟨vs, h1, h2, h3⟩ := h
  exact ⟨vs, s _ _ h1, h2, fun i v r a b => (h3 i v r a b).same s⟩
theorem TableO.same {K : PySem.W.Frag} {H H' : Hp} {v : V} {d : TD} (h : TableO K H v d) (s : Same H H') : TableO K H' v d := by
  obtain ⟨x, dx, l, e, h1, h2⟩ := h
  exact ⟨x, dx, l, e, s _ _ h1, h2.same s⟩
/-! ### parts of heaps: all but a; what is new -/
def off (a : Addr) (H : Hp) : Hp := fun b => if b = a then none else H b
def fresh (H H' : Hp) : Hp := fun b => match H b with
  | none => H' b
  | some _ => none
theorem off_ne {a b : Addr} {H : Hp} (h : b ≠ a) : off a H b = H b := if_neg h
theorem off_some {a b : Addr} {H : Hp} {o : HO} (h : off a H b = some o) : b ≠ a ∧ H b = some o := by
  unfold off at h
  by_cases e : b = a
  · rw [if_pos e] at h; cases h
  · rw [if_neg e] at h; exact ⟨e, h⟩
theorem fresh_of {H H' : Hp} {b : Addr} (h : H b = none) : fresh H H' b = H' b := by
  unfold fresh; rw [h]
theorem fresh_some {H H' : Hp} {b : Addr} {o : HO} (h : fresh H H' b = some o) : H b = none ∧ H' b = some o := by
  unfold fresh at h
  cases e : H b with
  | none => rw [e] at h; exact ⟨rfl, h⟩
  | some u => rw [e] at h; cases h
theorem off_le {a : Addr} {H : Hp} : Same (off a H) H := fun b o h => (off_some h).2
theorem off_up {a : Addr} {H H' : Hp} (s : Same H H') : Same (off a H) (off a H') := fun b o h => by
  obtain ⟨h1, h2⟩ := off_some h
  rw [off_ne h1]
  exact s _ _ h2
theorem off_but {a : Addr} {H H' : Hp} (s : But a H H') : Same (off a H) (off a H') := fun b o h => by
  obtain ⟨h1, h2⟩ := off_some h
  rw [off_ne h1]
  exact s _ _ h2 h1
theorem off_put (a : Addr) (H : Hp) (o : HO) : off a (upd H a o) = off a H := by
  funext b
  unfold off
  by_cases e : b = a
  · rw [if_pos e, if_pos e]
  · rw [if_neg e, if_neg e, upd_ne e]
theorem off_in {a : Addr} {H0 H : Hp} (s : Same H0 H) (h : H0 a = none) : Same H0 (off a H) := fun b o e => by
  rw [off_ne (ne_of_none e h)]
  exact s _ _ e
theorem fresh_le {H H' : Hp} : Same (fresh H H') H' := fun b o h => (fresh_some h).2
theorem fresh_off {a : Addr} {H H' : Hp} {u : HO} (h : H a = some u) : Same (fresh H H') (off a H') := fun b o e => by
  obtain ⟨h1, h2⟩ := fresh_some e
  rw [off_ne fun q => by rw [q, h] at h1; cases h1]
  exact h2
theorem fresh_up {H H1 H' H2 : Hp} (s : ∀ b, H1 b = none → H b = none) (s2 : Same H' H2) : Same (fresh H1 H') (fresh H H2) := fun b o e => by
  obtain ⟨h1, h2⟩ := fresh_some e
  rw [fresh_of (s b h1)]
  exact s2 _ _ h2
theorem Same.none {H H' : Hp} (s : Same H H') : ∀ b, H' b = Option.none → H b = Option.none := fun b h => s.free h
/-! ### an attribute, put -/
theorem put_new (f : Str) (v : V) : ∀ fs : List (Str × V), (∀ q ∈ fs, q.1 ≠ f) → putF f v fs = fs ++ [(f, v)]
  | [], _ => rfl
  | (g, x) :: r, h => by
    show (if g = f then (g, v) :: r else (g, x) :: putF f v r) = _
    rw [if_neg (h (g, x) (.head _)), put_new f v r fun q hq => h q (.tail _ hq)]
    rfl
/-! ### promises -/
def spRule (K : PySem.W.Frag) : Sp := fun vs H Q _ => ∃ (p dx c : Addr) (r : RD), vs = [.ref p, .int r.mode, .str r.text, .ref c, .int r.to, oV r.ahead, oV r.behind] ∧ H p = some (.ins (He.ga K "Rule") dx []) ∧ SqL K H c (r.cells.map V.int) ∧
  ∀ H' l, H l = none → H' p = some (.ins (He.ga K "Rule") dx (ruleF r l)) → H' l = some (.lst (r.cells.map V.int)) → (∀ b o, H b = some o → b ≠ p → H' b = some o) → Q .non H'
def spCopy (K : PySem.W.Frag) : Sp := fun vs H Q _ => ∃ (v : V) (r : RD), vs = [v] ∧ RuleO K H v r ∧ ∀ v' H', Same H H' → RuleO K (fresh H H') v' r → Q v' H'
def spTable (K : PySem.W.Frag) : Sp := fun vs H Q _ => ∃ (p dx l : Addr) (d : TD), vs = [.ref p, .str d.signs, .int d.modes, .ref l] ∧ H p = some (.ins (He.ga K "Table") dx []) ∧ RulesL K H l d.rules ∧ d.rules.length ≤ 4000 ∧
  ∀ H' l', H l' = none → H' p = some (.ins (He.ga K "Table") dx (tableF d l')) → RulesL K (fresh H H') l' d.rules → (∀ b o, H b = some o → b ≠ p → H' b = some o) → Q .non H'
/-! ### Rule.__init__ -/
section
variable {P : Program} {w : World} {K : PySem.W.Frag} {mg : Str → Option Value} {base : Heap}
abbrev psRule : List Str := ["self", "mode", "text", "cells", "to", "ahead", "behind"]
/-- Rule(..), by a call with and without its keywords -/
def OkRule (P : Program) (w : World) (K : PySem.W.Frag) (mg : Str → Option Value) (base : Heap) : Prop :=
  ∃ fd, FnOk P w K mg base CX0 1 (He.ma K (He.ga K "Rule") "__init__") fd psRule (spRule K) ∧ (∃ ds, Vals [V.non, V.non] ds ∧ Binds K fd psRule ds) ∧ KBn K fd psRule 5 ["ahead", "behind"] (fun us ws => us ++ ws) (fun vs zs => vs ++ zs)
theorem scRule : FnScope psRule psRule (defScope sRuleInit) := ⟨rfl, rfl, rfl, by decide +kernel, rfl, by decide +kernel, by decide +kernel⟩
theorem ruleF_put (r : RD) (l : Addr) : putF "behind" (oV r.behind) (putF "ahead" (oV r.ahead) (putF "to" (.int r.to) (putF "cells" (.ref l) (putF "text" (.str r.text) (putF "mode" (.int r.mode) []))))) = ruleF r l := by
  rw [put_new "mode" _ [] (by simp), put_new "text" _ _ (by simp only [List.nil_append, List.mem_cons, List.not_mem_nil, or_false, forall_eq]; decide +kernel)]
  rw [put_new "cells" _ _ (by simp only [List.nil_append, List.cons_append, List.mem_cons, List.not_mem_nil, or_false, forall_eq_or_imp, forall_eq]; decide +kernel)]
  rw [put_new "to" _ _ (by simp only [List.nil_append, List.cons_append, List.mem_cons, List.not_mem_nil, or_false, forall_eq_or_imp, forall_eq]; decide +kernel)]
  rw [put_new "ahead" _ _ (by simp only [List.nil_append, List.cons_append, List.mem_cons, List.not_mem_nil, or_false, forall_eq_or_imp, forall_eq]; decide +kernel)]
  rw [put_new "behind" _ _ (by simp only [List.nil_append, List.cons_append, List.mem_cons, List.not_mem_nil, or_false, forall_eq_or_imp, forall_eq]; decide +kernel)]
  rfl
theorem len_put (f : Str) (v : V) : ∀ fs : List (Str × V), (putF f v fs).length ≤ fs.length + 1
  | [] => Nat.le_refl _
  | (g, x) :: r => by
    show (if g = f then (g, v) :: r else (g, x) :: putF f v r).length ≤ _
    by_cases h : g = f
    · rw [if_pos h]; exact Nat.le_succ _
    · rw [if_neg h]; exact Nat.succ_le_succ (len_put f v r)
theorem len_put_lt {f : Str} {v : V} {fs : List (Str × V)} {n : Nat} (h : fs.length ≤ n) : (putF f v fs).length ≤ n + 1 := Nat.le_trans (len_put f v fs) (Nat.succ_le_succ h)
theorem ok_rule (t : T K mg) : OkRule P w K mg base := by
  obtain ⟨fd, F⟩ := t.d_Rule_init
  refine ⟨fd, F.ok scRule (fun vs H Q E h => ?_) (fun cdv A outer s H vs Q E hr h => ?_), ?_, ?_⟩
  · obtain ⟨p, dx, c, r, rfl, _⟩ := h; rfl
  · obtain ⟨p, dx, c, r, rfl, hp, hS, k⟩ := h
    refine ⟨_, PSs.nox (pss_cons (ps_fld (pv 0) (pv 1) rfl) (pss_cons (ps_fld (pv 0) (pv 2) rfl) (pss_cons (ps_fld (pv 0) (pe_callTy call_list_of rfl t.f_list (by decide +kernel) (pa_cons (pv 3) pa_nil)) rfl)
      (pss_cons (ps_fld (pv 0) (pv 4) rfl) (pss_cons (ps_fld (pv 0) (pv 5) rfl) (pss_one (ps_fld (pv 0) (pv 6) rfl))))))), ?_⟩
    have l0 : ([] : List (Str × V)).length ≤ 0 := Nat.le_refl _
    refine ⟨_, rfl, _, rfl, p, _, dx, [], rfl, hp, t.c_Rule, t.n_Rule_mode, (by decide), ?_⟩
    refine ⟨_, rfl, _, rfl, p, _, dx, _, rfl, upd_same, t.c_Rule, t.n_Rule_text, (Nat.lt_of_le_of_lt (len_put_lt l0) (by decide)), ?_⟩
    have hS' : SqL K (upd (upd H p (.ins (He.ga K "Rule") dx (putF "mode" (V.int r.mode) []))) p (.ins (He.ga K "Rule") dx (putF "text" (V.str r.text) (putF "mode" (V.int r.mode) [])))) c (r.cells.map V.int) := by
      rcases hS with (h | ⟨o, h⟩) | h
      · have e := ne_of h hp (by intro z; cases z)
        exact .inl (.inl (by rw [upd_ne e, upd_ne e]; exact h))
      · have e := ne_of h hp (by intro z; cases z)
        exact .inl (.inr ⟨o, by rw [upd_ne e, upd_ne e]; exact h⟩)
      · exact .inr h
    refine ⟨_, rfl, c, _, rfl, .inl hS', fun l hl => ?_⟩
    have npl : p ≠ l := fun e => by
      rw [e, upd_same] at hl
      cases hl
    have hl0 : H l = none := by
      rw [upd_ne npl.symm, upd_ne npl.symm] at hl
      exact hl
    refine ⟨_, rfl, p, _, dx, _, rfl, (by rw [upd_ne npl]; exact upd_same), t.c_Rule, t.n_Rule_cells, (Nat.lt_of_le_of_lt (len_put_lt (len_put_lt l0)) (by decide)), ?_⟩
    refine ⟨_, rfl, _, rfl, p, _, dx, _, rfl, upd_same, t.c_Rule, t.n_Rule_to, (Nat.lt_of_le_of_lt (len_put_lt (len_put_lt (len_put_lt l0))) (by decide)), ?_⟩
    refine ⟨_, rfl, _, rfl, p, _, dx, _, rfl, upd_same, t.c_Rule, t.n_Rule_ahead, (Nat.lt_of_le_of_lt (len_put_lt (len_put_lt (len_put_lt (len_put_lt l0)))) (by decide)), ?_⟩
    refine ⟨_, rfl, _, rfl, p, _, dx, _, rfl, upd_same, t.c_Rule, t.n_Rule_behind, (Nat.lt_of_le_of_lt (len_put_lt (len_put_lt (len_put_lt (len_put_lt (len_put_lt l0))))) (by decide)), ?_⟩
    refine k _ l hl0 (Eq.trans upd_same (congrArg (fun q => some (HO.ins _ dx q)) (ruleF_put r l))) ?_ fun b o e hb => ?_
    · rw [upd_ne npl.symm, upd_ne npl.symm, upd_ne npl.symm, upd_ne npl.symm, upd_same]
    · rw [upd_ne hb, upd_ne hb, upd_ne hb, upd_ne hb, upd_ne (ne_of_none e hl0), upd_ne hb, upd_ne hb]
      exact e
  · exact F.binds0 5 (by simp) rfl fun D doc pm an cdv ct us ks h1 h2 => match us, h1, ks, h2 with
      | [_, _, _, _, _], _, [_, _], _ => ⟨_, _, _, _, _, _, rfl, rfl, _, _, _, _, _, _, rfl, rfl, rfl⟩
  · obtain ⟨mv, hk⟩ := F.kbinds0 (ps := psRule) 5 ["ahead", "behind"] [] (fun us mv ws => us ++ ws) (by simp) (fun q hq => by cases hq) (fun r1 r2 r3 => r1.append r3) fun D doc pm an cdv ct us mv ws h1 h2 h3 => match us, h1, mv, h2, ws, h3 with
      | [_, _, _, _, _], _, [], _, [_, _], _ => by
        show bindArgs _ _ = pure _
        rfl
    exact hk
end
end Sx

set_option Elab.async false
set_option linter.all false
set_option maxRecDepth 100000
set_option maxHeartbeats 1000000
namespace Sx
open PySem PySem.Spec PyProof.Rows L2 SxA
/-! ### data compared -/
def pInts (cs : List Int) : PyData := .list (cs.map PyData.int)
theorem eqvAll_ints : ∀ xs ys : List Int, PyData.eqvAll (xs.map PyData.int) (ys.map PyData.int) = decide (xs = ys)
  | [], [] => rfl
  | [], y :: ys => by simp [PyData.eqvAll]
  | x :: xs, [] => by simp [PyData.eqvAll]
  | x :: xs, y :: ys => by
    rw [List.map_cons, List.map_cons, PyData.eqvAll, eqvAll_ints xs ys, PyData.eqv]
    by_cases h : x = y
    · subst h; simp
    · simp [h]
theorem eqv_ints (xs ys : List Int) : PyData.eqv (pInts xs) (pInts ys) = decide (xs = ys) := by
  unfold pInts
  rw [PyData.eqv]
  exact eqvAll_ints xs ys
theorem lay_ints : ∀ xs : List Int, PyData.canLayAll0 (xs.map PyData.int) = true
  | [] => rfl
  | x :: xs => by
    rw [List.map_cons, PyData.canLayAll0, lay_ints xs]
    rfl
theorem dep_ints : ∀ xs : List Int, PyData.depthAll (xs.map PyData.int) ≤ 1
  | [] => Nat.zero_le _
  | x :: xs => by
    rw [List.map_cons, PyData.depthAll]
    exact Nat.max_le.mpr ⟨by rw [PyData.depth]; decide, dep_ints xs⟩
theorem shaped_ints (xs : List Int) : SeqAt.shaped (pInts xs) = true := by
  unfold SeqAt.shaped pInts
  rw [PyData.canLay0, lay_ints, PyData.depth]
  have := dep_ints xs
  simp
  omega
theorem dpAll_ints (K : PySem.W.Frag) (H : Hp) : ∀ xs : List Int, DpAll K H (xs.map V.int) (xs.map PyData.int)
  | [] => .nil
  | x :: xs => .cons (.int x) (dpAll_ints K H xs)
theorem dp_ints {K : PySem.W.Frag} {H : Hp} {a : Addr} {xs : List Int} (h : SqL K H a (xs.map V.int)) : Dp K H (.ref a) (pInts xs) := .lst h (dpAll_ints K H xs)
section
variable {P : Program} {w : World} {K : PySem.W.Frag} {mg : Str → Option Value} {base : Heap}
/-! ### attributes looked up -/
theorem lk_mode (r : RD) (l : Addr) : (ruleF r l).lookup ("mode" : Str) = some (.int r.mode) := rfl
theorem lk_text (r : RD) (l : Addr) : (ruleF r l).lookup ("text" : Str) = some (.str r.text) := rfl
theorem lk_cells (r : RD) (l : Addr) : (ruleF r l).lookup ("cells" : Str) = some (.ref l) := rfl
theorem lk_to (r : RD) (l : Addr) : (ruleF r l).lookup ("to" : Str) = some (.int r.to) := rfl
theorem lk_ahead (r : RD) (l : Addr) : (ruleF r l).lookup ("ahead" : Str) = some (oV r.ahead) := rfl
theorem lk_behind (r : RD) (l : Addr) : (ruleF r l).lookup ("behind" : Str) = some (oV r.behind) := rfl
theorem lk_signs (d : TD) (l : Addr) : (tableF d l).lookup ("signs" : Str) = some (.str d.signs) := rfl
theorem lk_modes (d : TD) (l : Addr) : (tableF d l).lookup ("modes" : Str) = some (.int d.modes) := rfl
theorem lk_rules (d : TD) (l : Addr) : (tableF d l).lookup ("rules" : Str) = some (.ref l) := rfl

/-! ### comprehensions whose elements are told -/
theorem lc_rel {a : Addr} {xs : List V} {te : TE} {i0 : Nat} {vs : List Nat} {σ : L2.St} {H1 : Hp} {D : Addr} {Qd : Hp → Prop} (Rel : Nat → V → Hp → Prop) (hm : ∀ i v H H', Rel i v H → Same H H' → Rel i v H') (hD : H1 D = none) (hq : SqL K H1 a xs) (hz : xs.length ≤ sizeLine)
    (hw : ∀ v : V, wipe ((wipe σ vs).set i0 (some v)) vs = wipe σ vs)
    (he : ∀ (i : Nat) (x : V) (H : Hp) (Q : VK) (acc : List V), xs[i]? = some x → Same H1 H → H D = some (.lst acc) → (∀ y H', Same H H' → Rel i y (fresh H H') → Q y H') → te ((wipe σ vs).set i0 (some x)) H Q)
    (hd : ∀ H ys, Same H1 H → H D = some (.lst ys) → ys.length = xs.length → (∀ i y, ys[i]? = some y → Rel i y (fresh H1 (off D H))) → Qd H) :
    ∃ W : Nat → Nat → Hp → Prop, (∃ m, W 0 m (upd H1 D (.lst []))) ∧ ∀ i m H, W i m H → ((Itl K a).stop i H ∧ Qd H) ∨ ((Itl K a).go i H ∧ ∃ Nx : Hp → Prop, (∀ H', Nx H' → ∃ m', m' < m ∧ W (i + 1) m' H') ∧
      ∀ x H', (Itl K a).yld i H x H' → (gName i0) x (wipe σ vs) H' fun σ2 H2 => wipe σ2 vs = wipe σ vs ∧ tYes σ2 H2 fun b H3 => if b = true then te σ2 H3 fun y H4 => ∃ acc, H4 D = some (.lst acc) ∧ acc.length < sizeLine ∧ Nx (upd H4 D (.lst (acc ++ [y]))) else Nx H3) := by
  refine lc_list (K := K) (a := a) (xs := xs) (g := gName i0) (tt := tYes) (te := te) (fun i H => Same H1 H ∧ ∃ ys, H D = some (.lst ys) ∧ ys.length = i ∧ ∀ j y, ys[j]? = some y → Rel j y (fresh H1 (off D H)))
    ⟨Same.new hD, [], upd_same, rfl, fun j y h => by simp at h⟩ (fun i H _ p => p.1.seq hq) ?_ ?_
  · rintro i x H hx ⟨sm, ys, hH, hl, hr⟩
    have lt : i < xs.length := (List.getElem?_eq_some_iff.mp hx).1
    refine ⟨hw x, ?_⟩
    show te _ _ _
    refine he i x _ _ ys hx sm hH fun y H4 s4 r4 => ⟨ys, s4 _ _ hH, by omega, Same.put (sm.trans s4) hD, ys ++ [y], upd_same, by rw [List.length_append, hl]; rfl, fun j v hj => ?_⟩
    rw [off_put]
    by_cases hji : j < ys.length
    · rw [List.getElem?_append_left hji] at hj
      exact hm _ _ _ _ (hr j v hj) (fresh_up (fun b h => h) (off_up s4))
    · rw [List.getElem?_append_right (by omega)] at hj
      have hj0 : j - ys.length = 0 := by
        have := (List.getElem?_eq_some_iff.mp hj).1
        rw [List.length_singleton] at this
        omega
      rw [hj0] at hj
      obtain rfl : y = v := Option.some.inj hj
      have e : j = i := by omega
      rw [e]
      refine hm _ _ _ _ r4 fun b o e => ?_
      obtain ⟨h1, h2⟩ := fresh_some e
      have hb : b ≠ D := fun q => by rw [q, hH] at h1; cases h1
      rw [fresh_of (Sx.Same.none sm b h1), off_ne hb]
      exact h2
  · rintro H ⟨sm, ys, hH, hl, hr⟩
    exact hd H ys sm hH hl hr
/-! ### copy_of_rule, Table.__init__ -/
theorem scCopy : FnScope ["rule"] ["rule"] (defScope sCopyOfRule) := ⟨rfl, rfl, rfl, by decide +kernel, rfl, by decide +kernel, by decide +kernel⟩
theorem ok_copy (t : T K mg) : Ok P w K mg base 3 "copy_of_rule" ["rule"] (spCopy K) := by
  obtain ⟨fd, F, _, kb⟩ := ok_rule (P := P) (w := w) (base := base) t
  refine mkOk t.d_copy_of_rule t.g_copy_of_rule scCopy (fun vs H Q E h => ?_) (fun _ _ _ _ _ _ us hl => match us, hl with | [_], _ => rfl) fun cdv A outer s H vs Q E hr h => ?_
  · obtain ⟨v, r, rfl, _⟩ := h; rfl
  obtain ⟨v, r, rfl, ⟨x, dx, l, rfl, hx, hl⟩, k⟩ := h
  refine ⟨_, pss_one (ps_ret (pe_makeK (n := 4) (ks := ["ahead", "behind"]) t.m_Rule F hr rfl t.g_Rule kb pass0 (pa_cons (pe_fld (pv 0) rfl) (pa_cons (pe_fld (pv 0) rfl) (pa_cons (pe_fld (pv 0) rfl) (pa_cons (pe_fld (pv 0) rfl) pa_nil)))) (pk_cons (pe_fld (pv 0) rfl) (pk_cons (pe_fld (pv 0) rfl) pk_nil)))), ?_⟩
  refine ⟨_, rfl, x, _, dx, _, _, rfl, hx, t.c_Rule, t.n_Rule_mode, lk_mode _ _, ?_⟩
  refine ⟨_, rfl, x, _, dx, _, _, rfl, hx, t.c_Rule, t.n_Rule_text, lk_text _ _, ?_⟩
  refine ⟨_, rfl, x, _, dx, _, _, rfl, hx, t.c_Rule, t.n_Rule_cells, lk_cells _ _, ?_⟩
  refine ⟨_, rfl, x, _, dx, _, _, rfl, hx, t.c_Rule, t.n_Rule_to, lk_to _ _, ?_⟩
  refine ⟨_, rfl, x, _, dx, _, _, rfl, hx, t.c_Rule, t.n_Rule_ahead, lk_ahead _ _, ?_⟩
  refine ⟨_, rfl, x, _, dx, _, _, rfl, hx, t.c_Rule, t.n_Rule_behind, lk_behind _ _, ?_⟩
  refine ⟨rfl, rfl, fun y dy hy hdy ney => ?_⟩
  have s1 : Same H (upd (upd H dy (.own y)) y (.ins (He.ga K "Rule") dy [])) := fun b o e => by
    rw [upd_ne (ne_of_none e hy), upd_ne (ne_of_none e hdy)]
    exact e
  refine ⟨y, dy, l, r, rfl, upd_same, SqL.of (s1 _ _ hl), fun H' l' hl' h1 h2 fr => ⟨rfl, ?_⟩⟩
  have s2 : Same H H' := Same.made hy hdy fr
  refine k _ H' s2 ⟨y, dy, l', rfl, ?_, ?_⟩
  · rw [fresh_of hy]; exact h1
  · rw [fresh_of (Sx.Same.none s1 _ hl')]; exact h2
abbrev psTable : List Str := ["self", "signs", "modes", "rules"]
abbrev nsTable : List Str := ["self", "signs", "modes", "rules", "rule"]
theorem scTable : FnScope nsTable psTable (defScope sTableInit) := ⟨rfl, rfl, rfl, by decide +kernel, rfl, by decide +kernel, by decide +kernel⟩
def OkTable (P : Program) (w : World) (K : PySem.W.Frag) (mg : Str → Option Value) (base : Heap) : Prop :=
  ∃ fd, FnOk P w K mg base CX0 4 (He.ma K (He.ga K "Table") "__init__") fd psTable (spTable K) ∧ Binds K fd psTable []
theorem tableF_put (d : TD) (l : Addr) : putF "rules" (.ref l) (putF "modes" (.int d.modes) (putF "signs" (.str d.signs) [])) = tableF d l := by
  rw [put_new "signs" _ [] (by simp), put_new "modes" _ _ (by simp only [List.nil_append, List.mem_cons, List.not_mem_nil, or_false, forall_eq]; decide +kernel)]
  rw [put_new "rules" _ _ (by simp only [List.nil_append, List.cons_append, List.mem_cons, List.not_mem_nil, or_false, forall_eq_or_imp, forall_eq]; decide +kernel)]
  rfl
theorem ok_table (t : T K mg) : OkTable P w K mg base := by
  obtain ⟨fd, F⟩ := t.d_Table_init
  refine ⟨fd, F.ok scTable (fun vs H Q E h => ?_) (fun cdv A outer s H vs Q E hr h => ?_), F.bindsN fun _ _ _ _ _ _ us hl => match us, hl with | [_, _, _, _], _ => rfl⟩
  · obtain ⟨p, dx, l, d, rfl, _⟩ := h; rfl
  obtain ⟨p, dx, l, d, rfl, hp, ⟨vs, hl, hlen, hr0⟩, hsz, k⟩ := h
  refine ⟨_, PSs.nox (pss_cons (ps_fld (pv 0) (pv 1) rfl) (pss_cons (ps_fld (pv 0) (pv 2) rfl) (pss_one (ps_fld (pv 0)
    (pe_lc (own := [("rule", 4)]) (g := gName 4) (tt := tYes) rfl scTable.nd (pi_list (pv 3)) (blkOk_by (own := [("rule", 4)]) (N := nsTable) (sc := defScope sTableInit) (by decide +kernel)) (fun _ _ _ _ _ => pg_name (i := 4) scTable.nd rfl (Or.inl rfl)) (fun _ _ _ _ _ => pts_nil)
      (fun _ _ _ _ _ => pe_ok (ok_copy t) hr rfl (pa_cons (pv 4) pa_nil))) rfl)))), ?_⟩
  have l0 : ([] : List (Str × V)).length ≤ 0 := Nat.le_refl _
  refine ⟨_, rfl, _, rfl, p, _, dx, [], rfl, hp, t.c_Table, t.n_Table_signs, (by decide), ?_⟩
  refine ⟨_, rfl, _, rfl, p, _, dx, _, rfl, upd_same, t.c_Table, t.n_Table_modes, (Nat.lt_of_le_of_lt (len_put_lt l0) (by decide)), ?_⟩
  generalize hH2 : upd (upd H p (.ins (He.ga K "Table") dx (putF "signs" (V.str d.signs) []))) p (.ins (He.ga K "Table") dx (putF "modes" (V.int d.modes) (putF "signs" (V.str d.signs) []))) = H2
  have f2 : ∀ b, b ≠ p → H2 b = H b := fun b hb => by rw [← hH2, upd_ne hb, upd_ne hb]
  have p2 : H2 p = some (.ins (He.ga K "Table") dx (putF "modes" (V.int d.modes) (putF "signs" (V.str d.signs) []))) := by rw [← hH2]; exact upd_same
  have nl : l ≠ p := ne_of hl hp (by intro z; cases z)
  have hl2 : H2 l = some (.lst vs) := by rw [f2 _ nl]; exact hl
  have hr2 : ∀ (i : Nat) v r, vs[i]? = some v → d.rules[i]? = some r → RuleO K H2 v r := fun i v r a b => by
    obtain ⟨x, dy, m, e, h1, h2⟩ := hr0 i v r a b
    refine ⟨x, dy, m, e, ?_, ?_⟩
    · rw [f2 x fun q => ?_]
      · exact h1
      · rw [q, hp] at h1
        have e2 := HO.ins.inj (Option.some.inj h1)
        have e3 := congrArg List.length e2.2.2
        simp [ruleF] at e3
    · rw [f2 m (ne_of h2 hp (by intro z; cases z))]
      exact h2
  refine ⟨_, rfl, l, rfl, ⟨_, SqL.of hl2⟩, fun D hD => ?_⟩
  have hlen' : vs.length ≤ sizeLine := by rw [hlen]; exact small4 hsz
  refine lc_rel (K := K) (fun i v G => ∃ r, d.rules[i]? = some r ∧ RuleO K G v r) (fun i v G G' ⟨r, e, o⟩ s => ⟨r, e, o.same s⟩) hD (SqL.of hl2) hlen' (fun _ => rfl) (fun i x H3 Q3 acc hx sm hacc k3 => ?_) (fun H3 ys sm hD3 hly hry => ?_)
  · have li : i < d.rules.length := by rw [← hlen]; exact (List.getElem?_eq_some_iff.mp hx).1
    have hri : d.rules[i]? = some d.rules[i] := List.getElem?_eq_getElem li
    exact ⟨_, rfl, x, d.rules[i], rfl, (hr2 i x _ hx hri).same sm, fun v' H' s' o' => k3 v' H' s' ⟨_, hri, o'⟩⟩
  · have hp3 := sm _ _ p2
    have npD : p ≠ D := ne_of_none p2 hD
    refine ⟨_, rfl, p, _, dx, _, rfl, hp3, t.c_Table, t.n_Table_rules, (Nat.lt_of_le_of_lt (len_put_lt (len_put_lt l0)) (by decide)), ?_⟩
    have hD0 : H D = none := by rw [← f2 D npD.symm]; exact hD
    refine k _ D hD0 (Eq.trans upd_same (congrArg (fun q => some (HO.ins _ dx q)) (tableF_put d D))) ⟨ys, ?_, by rw [hly, hlen], fun i v r a b => ?_⟩ fun b o e hb => ?_
    · rw [fresh_of hD0, upd_ne npD.symm]; exact hD3
    · obtain ⟨r', e', o'⟩ := hry i v a
      obtain rfl : r' = r := Option.some.inj (e'.symm.trans b)
      refine o'.same fun c o e => ?_
      obtain ⟨h1, h2⟩ := fresh_some e
      obtain ⟨h3, h4⟩ := off_some h2
      have hc : c ≠ p := fun q => by rw [q, p2] at h1; cases h1
      rw [fresh_of (by rw [← f2 c hc]; exact h1), upd_ne hc]
      exact h4
    · rw [upd_ne hb]
      exact sm _ _ (by rw [f2 b hb]; exact e)
end
end Sx

set_option Elab.async false
set_option linter.all false
set_option maxRecDepth 100000
set_option maxHeartbeats 1000000
namespace Sx
open PySem PySem.Spec PyProof.Rows L2 SxA
section
variable {P : Program} {w : World} {K : PySem.W.Frag} {mg : Str → Option Value} {base : Heap}
theorem hu64 {A : Around} {k : Nat} (hr : Room k A) : A.units + 64 < cLine := by
  have := hr.un
  omega
theorem lc_zip {a b : Addr} {xs ys zs : List V} {te : TE} {i0 j0 : Nat} {vs : List Nat} {σ : L2.St} {H1 : Hp} {D : Addr} {Qd : Hp → Prop} (hD : H1 D = none) (hx : SqL K H1 a xs) (hy : SqL K H1 b ys) (hl : ys.length = xs.length) (hz : zs.length = xs.length) (hb : zs.length ≤ sizeLine)
    (hw : ∀ u v : V, wipe (((wipe σ vs).set i0 (some u)).set j0 (some v)) vs = wipe σ vs)
    (he : ∀ (i : Nat) (x y z : V) (H : Hp) (Q : VK), xs[i]? = some x → ys[i]? = some y → zs[i]? = some z → Same H1 H → (∀ H', Same H H' → Q z H') → te (((wipe σ vs).set i0 (some x)).set j0 (some y)) H Q)
    (hd : ∀ H, Same H1 H → H D = some (.lst zs) → Qd H) :
    ∃ W : Nat → Nat → Hp → Prop, (∃ m, W 0 m (upd H1 D (.lst []))) ∧ ∀ i m H, W i m H → ((Itz K a b).stop i H ∧ Qd H) ∨ ((Itz K a b).go i H ∧ ∃ Nx : Hp → Prop, (∀ H', Nx H' → ∃ m', m' < m ∧ W (i + 1) m' H') ∧
      ∀ x H', (Itz K a b).yld i H x H' → (gTup K 2 (gCons (gName i0) (gCons (gName j0) gNil))) x (wipe σ vs) H' fun σ2 H2 => wipe σ2 vs = wipe σ vs ∧ tYes σ2 H2 fun b H3 => if b = true then te σ2 H3 fun y H4 => ∃ acc, H4 D = some (.lst acc) ∧ acc.length < sizeLine ∧ Nx (upd H4 D (.lst (acc ++ [y]))) else Nx H3) := by
  refine ⟨fun i m H => m = zs.length - i ∧ i ≤ zs.length ∧ Same H1 H ∧ H D = some (.lst (zs.take i)), ⟨zs.length, rfl, Nat.zero_le _, Same.new hD, upd_same⟩, ?_⟩
  rintro i m H ⟨rfl, hi, sm, hH⟩
  by_cases lt : i < zs.length
  · have ex : xs[i]? = some (xs[i]'(by omega)) := List.getElem?_eq_getElem _
    have ey : ys[i]? = some (ys[i]'(by omega)) := List.getElem?_eq_getElem _
    have ez : zs[i]? = some zs[i] := List.getElem?_eq_getElem lt
    refine .inr ⟨⟨xs, ys, _, _, sm.seq hx, sm.seq hy, ex, ey⟩, fun H' => Same H1 H' ∧ H' D = some (.lst (zs.take (i + 1))), fun H' q => ⟨zs.length - (i + 1), by omega, rfl, lt, q.1, q.2⟩, ?_⟩
    rintro v H' ⟨T, x, y, rfl, hT, rfl, h1, h2⟩
    have hx2 := h1 _ (sm.seq hx)
    have hy2 := h2 _ (sm.seq hy)
    refine ⟨T, [x, y], rfl, SqT.of upd_same, rfl, x, _, rfl, y, _, rfl, rfl, hw x y, ?_⟩
    show te _ _ _
    have nDT : D ≠ T := ne_of_none hH hT
    refine he i x y _ _ _ hx2 hy2 ez (sm.trans (Same.new hT)) fun H4 s4 => ⟨zs.take i, s4 _ _ (by rw [upd_ne nDT]; exact hH), ?_, ?_, ?_⟩
    · rw [List.length_take]; omega
    · exact Same.put ((sm.trans (Same.new hT)).trans s4) hD
    · rw [upd_same, List.take_add_one, ez]; rfl
  · have e : i = zs.length := by omega
    subst e
    refine .inl ⟨⟨xs, ys, sm.seq hx, sm.seq hy, .inl (by omega)⟩, hd H sm ?_⟩
    rw [hH, List.take_length]
/-- .. over a range, filtered -/
theorem lc_rangeF {lo : Int} {n : Nat} {f : Nat → Bool} {F : Nat → V} {tt : TT} {te : TE} {i0 : Nat} {vs : List Nat} {σ : L2.St} {H1 : Hp} {D : Addr} {Qd : Hp → Prop} (hD : H1 D = none) (hn : n ≤ sizeLine)
    (hw : ∀ u : V, wipe ((wipe σ vs).set i0 (some u)) vs = wipe σ vs)
    (ht : ∀ (i : Nat) (H : Hp) (Q : Bool → Hp → Prop), i < n → Same H1 H → Q (f i) H → tt ((wipe σ vs).set i0 (some (.int (lo + (i : Nat))))) H Q)
    (he : ∀ (i : Nat) (H : Hp) (Q : VK), i < n → Same H1 H → Q (F i) H → te ((wipe σ vs).set i0 (some (.int (lo + (i : Nat))))) H Q)
    (hd : ∀ H, Same H1 H → H D = some (.lst (((List.range n).filter f).map F)) → Qd H) :
    ∃ W : Nat → Nat → Hp → Prop, (∃ m, W 0 m (upd H1 D (.lst []))) ∧ ∀ i m H, W i m H → ((Itr lo n).stop i H ∧ Qd H) ∨ ((Itr lo n).go i H ∧ ∃ Nx : Hp → Prop, (∀ H', Nx H' → ∃ m', m' < m ∧ W (i + 1) m' H') ∧
      ∀ x H', (Itr lo n).yld i H x H' → (gName i0) x (wipe σ vs) H' fun σ2 H2 => wipe σ2 vs = wipe σ vs ∧ tt σ2 H2 fun b H3 => if b = true then te σ2 H3 fun y H4 => ∃ acc, H4 D = some (.lst acc) ∧ acc.length < sizeLine ∧ Nx (upd H4 D (.lst (acc ++ [y]))) else Nx H3) := by
  have step : ∀ i, ((List.range (i + 1)).filter f).map F = ((List.range i).filter f).map F ++ (if f i = true then [F i] else []) := fun i => by
    rw [List.range_succ, List.filter_append, List.map_append]
    by_cases h : f i = true
    · rw [if_pos h]; simp [List.filter_cons, h]
    · rw [if_neg h]; simp [List.filter_cons, h]
  have small : ∀ i, i < n → (((List.range i).filter f).map F).length < sizeLine := fun i h => by
    rw [List.length_map]
    have := List.length_filter_le f (List.range i)
    rw [List.length_range] at this
    omega
  refine lc_range (g := gName i0) (tt := tt) (te := te) (fun i H => Same H1 H ∧ H D = some (.lst (((List.range i).filter f).map F))) ⟨Same.new hD, upd_same⟩ ?_ (fun H q => hd H q.1 q.2)
  rintro i H hi ⟨sm, hH⟩
  refine ⟨hw _, ht i H _ hi sm ?_⟩
  by_cases h : f i = true
  · rw [if_pos h]
    refine he i H _ hi sm ⟨_, hH, small i hi, Same.put sm hD, ?_⟩
    rw [upd_same, step, if_pos h]
  · rw [if_neg h]
    exact ⟨sm, by rw [hH, step, if_neg h, List.append_nil]⟩
/-! ### same_rule, same_table -/
def spSameR (K : PySem.W.Frag) : Sp := fun vs H Q _ => ∃ (v v' : V) (r r' : RD), vs = [v, v'] ∧ RuleO K H v r ∧ RuleO K H v' r' ∧ Q (.bl (decide (r = r'))) H
def spSameT (K : PySem.W.Frag) : Sp := fun vs H Q _ => ∃ (v v' : V) (d d' : TD), vs = [v, v'] ∧ TableO K H v d ∧ TableO K H v' d' ∧ d.rules.length ≤ 4000 ∧ ∀ H', Same H H' → Q (.bl (decide (d = d'))) H'
theorem scSameR : FnScope ["rule", "other"] ["rule", "other"] (defScope sSameRule) := ⟨rfl, rfl, rfl, by decide +kernel, rfl, by decide +kernel, by decide +kernel⟩
theorem scal_oV (a b : Option Str) : scal (oV a) (oV b) = true := by
  cases a <;> cases b <;> rfl
theorem eq_oV (a b : Option Str) : decide (oV a = oV b) = decide (a = b) := by
  rw [decide_eq_decide]
  cases a <;> cases b <;> simp [oV]
theorem eq_int (a b : Int) : decide (V.int a = V.int b) = decide (a = b) := by
  rw [decide_eq_decide]
  exact ⟨V.int.inj, congrArg V.int⟩
theorem eq_str (a b : Str) : decide (V.str a = V.str b) = decide (a = b) := by
  rw [decide_eq_decide]
  exact ⟨V.str.inj, congrArg V.str⟩
theorem rd_eq (r r' : RD) : decide (r = r') = (decide (r.mode = r'.mode) && (decide (r.text = r'.text) && (decide (r.cells = r'.cells) && (decide (r.to = r'.to) && (decide (r.ahead = r'.ahead) && decide (r.behind = r'.behind)))))) := by
  obtain ⟨a, b, c, d, e, f⟩ := r
  obtain ⟨a', b', c', d', e', f'⟩ := r'
  simp only [RD.mk.injEq, Bool.decide_and]
theorem ok_sameR (t : T K mg) : Ok P w K mg base 1 "same_rule" ["rule", "other"] (spSameR K) := by
  refine mkOk t.d_same_rule t.g_same_rule scSameR (fun vs H Q E h => ?_) (fun _ _ _ _ _ _ us hl => match us, hl with | [_, _], _ => rfl) fun cdv A outer s H vs Q E hr h => ?_
  · obtain ⟨v, v', r, r', rfl, _⟩ := h; rfl
  obtain ⟨_, _, r, r', rfl, ⟨x, dx, l, rfl, hx, hl⟩, ⟨y, dy, m, rfl, hy, hm⟩, q⟩ := h
  refine ⟨_, pss_one (ps_ret (pe_and (pe_cmpR op_eq (pe_fld (pv 0) rfl) (pe_fld (pv 1) rfl) (nomark _)) (pe_and (pe_cmpR op_eq (pe_fld (pv 0) rfl) (pe_fld (pv 1) rfl) (nomark _)) (pe_and (pe_cmpR (op_eqD (hu64 hr)) (pe_fld (pv 0) rfl) (pe_fld (pv 1) rfl) (nomark _))
    (pe_and (pe_cmpR op_eq (pe_fld (pv 0) rfl) (pe_fld (pv 1) rfl) (nomark _)) (pe_and (pe_cmpR op_eq (pe_fld (pv 0) rfl) (pe_fld (pv 1) rfl) (nomark _)) (pe_one (pe_cmpR op_eq (pe_fld (pv 0) rfl) (pe_fld (pv 1) rfl) (nomark _))))))))), ?_⟩
  rw [rd_eq] at q
  have q' : ∀ b : Bool, (decide (r.mode = r'.mode) && (decide (r.text = r'.text) && (decide (r.cells = r'.cells) && (decide (r.to = r'.to) && (decide (r.ahead = r'.ahead) && decide (r.behind = r'.behind)))))) = b → Q (.bl b) H := fun b e => e ▸ q
  refine ⟨_, rfl, x, _, dx, _, _, rfl, hx, t.c_Rule, t.n_Rule_mode, lk_mode _ _, _, rfl, y, _, dy, _, _, rfl, hy, t.c_Rule, t.n_Rule_mode, lk_mode _ _, rfl, _, rfl, ?_⟩
  rw [eq_int]
  refine ite2 (fun h1 => ?_) (fun h1 => q' _ (by rw [Bool.not_eq_true] at h1; simp only [h1, Bool.false_and]))
  refine ⟨_, rfl, x, _, dx, _, _, rfl, hx, t.c_Rule, t.n_Rule_text, lk_text _ _, _, rfl, y, _, dy, _, _, rfl, hy, t.c_Rule, t.n_Rule_text, lk_text _ _, rfl, _, rfl, ?_⟩
  rw [eq_str]
  refine ite2 (fun h2 => ?_) (fun h2 => q' _ (by rw [Bool.not_eq_true] at h2; simp only [h2, Bool.false_and, Bool.and_false]))
  refine ⟨_, rfl, x, _, dx, _, _, rfl, hx, t.c_Rule, t.n_Rule_cells, lk_cells _ _, _, rfl, y, _, dy, _, _, rfl, hy, t.c_Rule, t.n_Rule_cells, lk_cells _ _, _, _, dp_ints (SqL.of hl), dp_ints (SqL.of hm), shaped_ints _, shaped_ints _, _, rfl, ?_⟩
  rw [eqv_ints]
  refine ite2 (fun h3 => ?_) (fun h3 => q' _ (by rw [Bool.not_eq_true] at h3; simp only [h3, Bool.false_and, Bool.and_false]))
  refine ⟨_, rfl, x, _, dx, _, _, rfl, hx, t.c_Rule, t.n_Rule_to, lk_to _ _, _, rfl, y, _, dy, _, _, rfl, hy, t.c_Rule, t.n_Rule_to, lk_to _ _, rfl, _, rfl, ?_⟩
  rw [eq_int]
  refine ite2 (fun h4 => ?_) (fun h4 => q' _ (by rw [Bool.not_eq_true] at h4; simp only [h4, Bool.false_and, Bool.and_false]))
  refine ⟨_, rfl, x, _, dx, _, _, rfl, hx, t.c_Rule, t.n_Rule_ahead, lk_ahead _ _, _, rfl, y, _, dy, _, _, rfl, hy, t.c_Rule, t.n_Rule_ahead, lk_ahead _ _, scal_oV _ _, _, rfl, ?_⟩
  rw [eq_oV]
  refine ite2 (fun h5 => ?_) (fun h5 => q' _ (by rw [Bool.not_eq_true] at h5; simp only [h5, Bool.false_and, Bool.and_false]))
  refine ⟨_, rfl, x, _, dx, _, _, rfl, hx, t.c_Rule, t.n_Rule_behind, lk_behind _ _, _, rfl, y, _, dy, _, _, rfl, hy, t.c_Rule, t.n_Rule_behind, lk_behind _ _, scal_oV _ _, ?_⟩
  rw [eq_oV]
  exact q' _ (by rw [h1, h2, h3, h4, h5]; simp only [Bool.true_and])
abbrev nsSameT : List Str := ["table", "other", "rule", "twin"]
theorem scSameT : FnScope nsSameT ["table", "other"] (defScope sSameTable) := ⟨rfl, rfl, rfl, by decide +kernel, rfl, by decide +kernel, by decide +kernel⟩
theorem td_eq (d d' : TD) : decide (d = d') = (decide (d.signs = d'.signs) && (decide (d.modes = d'.modes) && decide (d.rules = d'.rules))) := by
  obtain ⟨a, b, c⟩ := d
  obtain ⟨a', b', c'⟩ := d'
  simp only [TD.mk.injEq, Bool.decide_and]
theorem zip_eq : ∀ rs rs' : List RD, rs'.length = rs.length → ((rs.zip rs').map fun p => decide (p.1 = p.2)).all id = decide (rs = rs')
  | [], [], _ => rfl
  | r :: rs, r' :: rs', h => by
    have ih := zip_eq rs rs' (by simpa using h)
    rw [List.zip_cons_cons, List.map_cons, List.all_cons, ih]
    by_cases e : r = r'
    · subst e; simp
    · simp [e]
theorem ok_sameT (t : T K mg) : Ok P w K mg base 2 "same_table" ["table", "other"] (spSameT K) := by
  refine mkOk t.d_same_table t.g_same_table scSameT (fun vs H Q E h => ?_) (fun _ _ _ _ _ _ us hl => match us, hl with | [_, _], _ => rfl) fun cdv A outer s H vs Q E hr h => ?_
  · obtain ⟨v, v', d, d', rfl, _⟩ := h; rfl
  obtain ⟨_, _, d, d', rfl, ⟨x, dx, l, rfl, hx, ⟨as, hl, hla, hra⟩⟩, ⟨y, dy, m, rfl, hy, ⟨bs, hm, hlb, hrb⟩⟩, hz, q⟩ := h
  refine ⟨_, pss_one (ps_ret (pe_and (pe_cmpR op_eq (pe_fld (pv 0) rfl) (pe_fld (pv 1) rfl) (nomark _)) (pe_and (pe_cmpR op_eq (pe_fld (pv 0) rfl) (pe_fld (pv 1) rfl) (nomark _))
    (pe_and (pe_cmpR op_eq (pe_callB call_len_seq rfl t.f_len boot_len (pa_cons (pe_fld (pv 0) rfl) pa_nil)) (pe_callB call_len_seq rfl t.f_len boot_len (pa_cons (pe_fld (pv 1) rfl) pa_nil)) (nomark _))
    (pe_one (pe_callB (cr_all rfl) rfl t.f_all (by decide +kernel) (pa_cons
      (pe_lc (own := [("rule", 2), ("twin", 3)]) (g := gTup K 2 (gCons (gName 2) (gCons (gName 3) gNil))) (tt := tYes) rfl scSameT.nd (pi_zip rfl t.f_zip (pa_cons (pe_fld (pv 0) rfl) (pa_cons (pe_fld (pv 1) rfl) pa_nil))) (blkOk_by (own := [("rule", 2), ("twin", 3)]) (N := nsSameT) (sc := defScope sSameTable) (by decide +kernel))
        (fun _ _ _ _ _ => pg_tup rfl (pgs_cons (pg_name (i := 2) scSameT.nd rfl (Or.inl rfl)) (pgs_cons (pg_name (i := 3) scSameT.nd rfl (Or.inl rfl)) pgs_nil))) (fun _ _ _ _ _ => pts_nil)
        (fun _ _ _ _ _ => pe_ok (ok_sameR t) hr rfl (pa_cons (pv 2) (pa_cons (pv 3) pa_nil)))) pa_nil))))))), ?_⟩
  rw [td_eq] at q
  have q' : ∀ (b : Bool) (H' : Hp), Same H H' → (decide (d.signs = d'.signs) && (decide (d.modes = d'.modes) && decide (d.rules = d'.rules))) = b → Q (.bl b) H' := fun b H' s e => e ▸ q H' s
  refine ⟨_, rfl, x, _, dx, _, _, rfl, hx, t.c_Table, t.n_Table_signs, lk_signs _ _, _, rfl, y, _, dy, _, _, rfl, hy, t.c_Table, t.n_Table_signs, lk_signs _ _, rfl, _, rfl, ?_⟩
  rw [eq_str]
  refine ite2 (fun h1 => ?_) (fun h1 => q' _ _ (Same.refl _) (by rw [Bool.not_eq_true] at h1; simp only [h1, Bool.false_and]))
  refine ⟨_, rfl, x, _, dx, _, _, rfl, hx, t.c_Table, t.n_Table_modes, lk_modes _ _, _, rfl, y, _, dy, _, _, rfl, hy, t.c_Table, t.n_Table_modes, lk_modes _ _, rfl, _, rfl, ?_⟩
  rw [eq_int]
  refine ite2 (fun h2 => ?_) (fun h2 => q' _ _ (Same.refl _) (by rw [Bool.not_eq_true] at h2; simp only [h2, Bool.false_and, Bool.and_false]))
  refine ⟨_, rfl, x, _, dx, _, _, rfl, hx, t.c_Table, t.n_Table_rules, lk_rules _ _, l, as, rfl, .inl (SqL.of hl), _, rfl, y, _, dy, _, _, rfl, hy, t.c_Table, t.n_Table_rules, lk_rules _ _, m, bs, rfl, .inl (SqL.of hm), rfl, _, rfl, ?_⟩
  rw [eq_int]
  refine ite2 (fun h3 => ?_) (fun h3 => q' _ _ (Same.refl _) ?_)
  · have h3' : as.length = bs.length := by have := of_decide_eq_true h3; omega
    refine ⟨_, rfl, x, _, dx, _, _, rfl, hx, t.c_Table, t.n_Table_rules, lk_rules _ _, _, rfl, y, _, dy, _, _, rfl, hy, t.c_Table, t.n_Table_rules, lk_rules _ _, l, m, as, bs, rfl, SqL.of hl, SqL.of hm, fun D hD => ?_⟩
    refine lc_zip (zs := ((d.rules.zip d'.rules).map fun p => V.bl (decide (p.1 = p.2)))) hD (SqL.of hl) (SqL.of hm) h3'.symm (by rw [List.length_map, List.length_zip]; omega) (by rw [List.length_map, List.length_zip]; exact Nat.le_trans (Nat.min_le_left _ _) (small4 hz)) (fun _ _ => rfl) (fun i u v z H1 Q1 hu hv hzz sm k => ?_) (fun H' sm hH => ?_)
    · rw [List.getElem?_map] at hzz
      cases ez : (d.rules.zip d'.rules)[i]? with
      | none => rw [ez] at hzz; cases hzz
      | some p =>
        rw [ez] at hzz
        obtain rfl : V.bl (decide (p.1 = p.2)) = z := Option.some.inj hzz
        have e1 := List.getElem?_zip_eq_some.mp ez
        exact ⟨_, rfl, _, rfl, u, v, p.1, p.2, rfl, (hra i u _ hu e1.1).same sm, (hrb i v _ hv e1.2).same sm, k _ (Same.refl _)⟩
    · refine ⟨D, (d.rules.zip d'.rules).map fun p => decide (p.1 = p.2), rfl, sqD (by rw [hH]; simp), q' _ _ sm ?_⟩
      rw [h1, h2, zip_eq _ _ (by omega)]
      simp only [Bool.true_and]
  · have hne : ¬ d.rules = d'.rules := fun e => h3 (decide_eq_true (by rw [hla, hlb, e]))
    rw [decide_eq_false hne, Bool.and_false, Bool.and_false]
end
end Sx

set_option Elab.async false
set_option linter.all false
set_option maxRecDepth 100000
set_option maxHeartbeats 1000000
namespace Sx
open PySem PySem.Spec PyProof.Rows L2 SxA
/-! ### is_rule, is_let_by -/
def spIsRule (K : PySem.W.Frag) : Sp := fun vs H Q _ => ∃ (v : V) (z : Str) (n : Int) (r : RD), vs = [v, .str z, .int n] ∧ RuleO K H v r ∧ r.sz ∧ ∀ H', Same H H' → Q (.bl (ruleB r z n)) H'
def spLet (K : PySem.W.Frag) : Sp := fun vs H Q _ => ∃ (v : V) (d : TD), vs = [v] ∧ TableO K H v d ∧ d.sz ∧ ∀ H', Same H H' → Q (.bl (letB d)) H'
section
variable {P : Program} {w : World} {K : PySem.W.Frag} {mg : Str → Option Value} {base : Heap}
theorem pe_fldK {X : Cx} {K : PySem.W.Frag} {e : Expr} {f : Str} {pos : Pos} {ta : TE} (h : X.K = K) (ha : PE X e ta) (hb : attributeBase e f X.env (eval e X.env) = eval e X.env := by rfl) : PE X (.Attribute e f pos) (tFld K ta f) := by
  subst h
  exact pe_fld ha hb
theorem scIsRule : FnScope ["rule", "signs", "modes"] ["rule", "signs", "modes"] (defScope sIsRule) := ⟨rfl, rfl, rfl, by decide +kernel, rfl, by decide +kernel, by decide +kernel⟩
theorem ok_isRule (t : T K mg) : Ok P w K mg base 3 "is_rule" ["rule", "signs", "modes"] (spIsRule K) := by
  obtain ⟨k2, m2⟩ := t.s_BEGINNING
  obtain ⟨k3, m3⟩ := t.s_END
  refine mkOk t.d_is_rule t.g_is_rule scIsRule (fun vs H Q E h => ?_) (fun _ _ _ _ _ _ us hl => match us, hl with | [_, _, _], _ => rfl) fun cdv A outer s H vs Q E hr h => ?_
  · obtain ⟨v, z, n, r, rfl, _⟩ := h; rfl
  obtain ⟨v, z, n, r, rfl, ⟨x, dx, l, rfl, hx, hl⟩, ⟨hs1, hs2, hs3, hs4⟩, q⟩ := h
  have hr1 : Room 1 _ := hr.mono (by decide)
  refine ⟨_, pss_one (ps_ret (pe_and (pe_ok (ok_mode t) hr1 rfl (pa_cons (pe_fld (pv 0) rfl) (pa_cons (pv 2) pa_nil))) (pe_and (pe_ok (ok_text t) hr1 rfl (pa_cons (pe_fld (pv 0) rfl) (pa_cons (pv 1) pa_nil)))
    (pe_and (pe_ok (ok_cells t) hr1 rfl (pa_cons (pe_fld (pv 0) rfl) pa_nil)) (pe_and (pe_ok (ok_mode t) hr1 rfl (pa_cons (pe_fld (pv 0) rfl) (pa_cons (pv 2) pa_nil)))
    (pe_and (pe_ok (ok_near t) hr rfl (pa_cons (pe_fld (pv 0) rfl) (pa_cons (pv 1) (pa_cons (pgs rfl m2) pa_nil)))) (pe_one (pe_ok (ok_near t) hr rfl (pa_cons (pe_fld (pv 0) rfl) (pa_cons (pv 1) (pa_cons (pgs rfl m3) pa_nil))))))))))), ?_⟩
  have q' : ∀ (b : Bool) (H' : Hp), Same H H' → ruleB r z n = b → Q (.bl b) H' := fun b H' s e => e ▸ q H' s
  unfold ruleB at q'
  have e94 : Str.ofString "^" = sg 94 := by decide +kernel
  have e36 : Str.ofString "$" = sg 36 := by decide +kernel
  refine ⟨_, rfl, x, _, dx, _, _, rfl, hx, t.c_Rule, t.n_Rule_mode, lk_mode _ _, _, rfl, _, _, rfl, _, rfl, ?_⟩
  refine ite2 (fun h1 => ?_) (fun h1 => q' _ _ (Same.refl _) (by rw [Bool.not_eq_true] at h1; simp only [h1, Bool.false_and]))
  refine ⟨_, rfl, x, _, dx, _, _, rfl, hx, t.c_Rule, t.n_Rule_text, lk_text _ _, _, rfl, _, _, rfl, hs1, fun G1 s1 => ⟨_, rfl, ?_⟩⟩
  refine ite2 (fun h2 => ?_) (fun h2 => q' _ _ s1 (by rw [Bool.not_eq_true] at h2; simp only [h2, Bool.false_and, Bool.and_false]))
  refine ⟨_, rfl, x, _, dx, _, _, rfl, s1 _ _ hx, t.c_Rule, t.n_Rule_cells, lk_cells _ _, l, _, rfl, SqL.of (s1 _ _ hl), hs2, fun G2 s2 => ⟨_, rfl, ?_⟩⟩
  have s12 := s1.trans s2
  refine ite2 (fun h3 => ?_) (fun h3 => q' _ _ s12 (by rw [Bool.not_eq_true] at h3; simp only [h3, Bool.false_and, Bool.and_false]))
  refine ⟨_, rfl, x, _, dx, _, _, rfl, s12 _ _ hx, t.c_Rule, t.n_Rule_to, lk_to _ _, _, rfl, _, _, rfl, _, rfl, ?_⟩
  refine ite2 (fun h4 => ?_) (fun h4 => q' _ _ s12 (by rw [Bool.not_eq_true] at h4; simp only [h4, Bool.false_and, Bool.and_false]))
  refine ⟨_, rfl, x, _, dx, _, _, rfl, s12 _ _ hx, t.c_Rule, t.n_Rule_ahead, lk_ahead _ _, _, rfl, r.ahead, z, 94, by rw [e94]; rfl, hs3, fun G3 s3 => ⟨_, rfl, ?_⟩⟩
  have s13 := s12.trans s3
  refine ite2 (fun h5 => ?_) (fun h5 => q' _ _ s13 (by rw [Bool.not_eq_true] at h5; simp only [h5, Bool.false_and, Bool.and_false]))
  refine ⟨_, rfl, x, _, dx, _, _, rfl, s13 _ _ hx, t.c_Rule, t.n_Rule_behind, lk_behind _ _, _, rfl, r.behind, z, 36, by rw [e36]; rfl, hs4, fun G4 s4 => ?_⟩
  exact q' _ _ (s13.trans s4) (by rw [h1, h2, h3, h4, h5]; simp only [Bool.true_and])
theorem scLet : FnScope ["table", "rule"] ["table"] (defScope sIsLetBy) := ⟨rfl, rfl, rfl, by decide +kernel, rfl, by decide +kernel, by decide +kernel⟩
theorem ok_let (t : T K mg) : Ok P w K mg base 4 "is_let_by" ["table"] (spLet K) := by
  obtain ⟨k1, m1⟩ := t.i_MOST_RULES
  refine mkOk t.d_is_let_by t.g_is_let_by scLet (fun vs H Q E h => ?_) (fun _ _ _ _ _ _ us hl => match us, hl with | [_], _ => rfl) fun cdv A outer s H vs Q E hr h => ?_
  · obtain ⟨v, d, rfl, _⟩ := h; rfl
  obtain ⟨v, d, rfl, ⟨x, dx, l, rfl, hx, ⟨as, hl, hla, hra⟩⟩, ⟨hs1, hs2, hs3⟩, q⟩ := h
  refine ⟨_, pss_one (ps_ret (pe_and (pe_ok (ok_signs t) (hr.mono (by decide)) rfl (pa_cons (pe_fld (pv 0) rfl) pa_nil)) (pe_and (pe_ok (ok_many t) (hr.mono (by decide)) rfl (pa_cons (pe_fld (pv 0) rfl) pa_nil))
    (pe_and (pe_cmpR op_le (pe_callB call_len_seq rfl t.f_len boot_len (pa_cons (pe_fld (pv 0) rfl) pa_nil)) (pgi rfl m1) (nomark _)) (pe_one (pe_callB (cr_all rfl) rfl t.f_all (by decide +kernel) (pa_cons
      (pe_lc (own := [("rule", 1)]) (g := gName 1) (tt := tYes) rfl scLet.nd (pi_list (pe_fld (pv 0) rfl)) (blkOk_by (own := [("rule", 1)]) (N := ["table", "rule"]) (sc := defScope sIsLetBy) (by decide +kernel)) (fun _ _ _ _ _ => pg_name (i := 1) scLet.nd rfl (Or.inl rfl)) (fun _ _ _ _ _ => pts_nil)
        (fun _ _ _ _ _ => pe_ok (ok_isRule t) hr rfl (pa_cons (pv 1) (pa_cons (pe_fldK (K := K) rfl (pv 0)) (pa_cons (pe_fldK (K := K) rfl (pv 0)) pa_nil))))) pa_nil))))))), ?_⟩
  have q' : ∀ (b : Bool) (H' : Hp), Same H H' → letB d = b → Q (.bl b) H' := fun b H' s e => e ▸ q H' s
  unfold letB at q'
  refine ⟨_, rfl, x, _, dx, _, _, rfl, hx, t.c_Table, t.n_Table_signs, lk_signs _ _, _, rfl, hs1, fun G1 s1 => ⟨_, rfl, ?_⟩⟩
  refine ite2 (fun h1 => ?_) (fun h1 => q' _ _ s1 (by rw [Bool.not_eq_true] at h1; simp only [h1, Bool.false_and]))
  refine ⟨_, rfl, x, _, dx, _, _, rfl, s1 _ _ hx, t.c_Table, t.n_Table_modes, lk_modes _ _, _, rfl, _, rfl, ?_⟩
  refine ite2 (fun h2 => ?_) (fun h2 => q' _ _ s1 (by rw [Bool.not_eq_true] at h2; simp only [h2, Bool.false_and, Bool.and_false]))
  refine ⟨_, rfl, x, _, dx, _, _, rfl, s1 _ _ hx, t.c_Table, t.n_Table_rules, lk_rules _ _, l, as, rfl, .inl (SqL.of (s1 _ _ hl)), _, _, rfl, rfl, _, rfl, ?_⟩
  rw [hla]
  refine ite2 (fun h3 => ?_) (fun h3 => q' _ _ s1 (by rw [Bool.not_eq_true] at h3; simp only [h3, Bool.false_and, Bool.and_false]))
  refine ⟨_, rfl, x, _, dx, _, _, rfl, s1 _ _ hx, t.c_Table, t.n_Table_rules, lk_rules _ _, l, rfl, ⟨_, SqL.of (s1 _ _ hl)⟩, fun D hD => ?_⟩
  refine lc_known (xs := as) (ys := d.rules.map fun r => V.bl (ruleB r d.signs d.modes)) hD (SqL.of (s1 _ _ hl)) (by rw [List.length_map, hla]) (by rw [List.length_map]; exact small4 hs2) (fun _ => rfl) (fun i u y H1 Q1 hu hy sm k => ?_) (fun H' sm hH => ?_)
  · rw [List.getElem?_map] at hy
    cases er : d.rules[i]? with
    | none => rw [er] at hy; cases hy
    | some r =>
      rw [er] at hy
      obtain rfl : V.bl (ruleB r d.signs d.modes) = y := Option.some.inj hy
      have sm' := s1.trans sm
      refine ⟨_, rfl, _, rfl, x, _, dx, _, _, rfl, sm' _ _ hx, t.c_Table, t.n_Table_signs, lk_signs _ _, ?_⟩
      refine ⟨_, rfl, x, _, dx, _, _, rfl, sm' _ _ hx, t.c_Table, t.n_Table_modes, lk_modes _ _, ?_⟩
      exact ⟨u, d.signs, d.modes, r, rfl, (hra i u r hu er).same sm', hs3 r (List.mem_of_getElem? er), fun G s => k G s⟩
  · refine ⟨D, d.rules.map fun r => ruleB r d.signs d.modes, rfl, sqD (by rw [hH]; simp), q' _ _ (s1.trans sm) ?_⟩
    rw [h1, h2, h3]
    simp
end
end Sx

set_option Elab.async false
set_option linter.all false
set_option maxRecDepth 100000
set_option maxHeartbeats 1000000
namespace Sx
open PySem PySem.Spec PyProof.Rows L2 SxA
/-! ### dots_of, cell_of -/
def bitB (c : Int) (i : Nat) : Bool := Builtin.bitAnd (c / 2 ^ i) 1 != 0
def dotsL (c : Int) : List Int := ((List.range 6).filter (bitB c)).map fun i : Nat => (1 : Int) + (i : Int)
def inB (ds : List Int) (i : Nat) : Bool := inV (.int (0 + (i : Int) + 1)) (ds.map V.int)
def cellL (ds : List Int) : Int := (((List.range 6).filter (inB ds)).map fun i => (2 : Int) ^ i).sum
def spDots : Sp := fun vs H Q _ => ∃ c : Int, vs = [.int c] ∧ ∀ H' p, Same H H' → H p = none → H' p = some (.lst ((dotsL c).map V.int)) → Q (.ref p) H'
def spCellOf (K : PySem.W.Frag) : Sp := fun vs H Q _ => ∃ (a : Addr) (ds : List Int), vs = [.ref a] ∧ SqL K H a (ds.map V.int) ∧ ∀ H', Same H H' → Q (.int (cellL ds)) H'
section
variable {P : Program} {w : World} {K : PySem.W.Frag} {mg : Str → Option Value} {base : Heap}
def tTru (K : PySem.W.Frag) (ta : TE) : TT := fun σ H Q => ta σ H fun x H' => ∃ k, TruV K x H' k ∧ Q k H'
theorem pt_truthK {X : Cx} {K : PySem.W.Frag} {a : Expr} {ta : TE} (h : X.K = K) (ha : PE X a ta) (he : ∀ whole, isTrue a X.env whole = (do let v ← whole; standAt a.pos; holding [v] (truthy v)) := by intro _; rfl) :
    PT X a (tTru K ta) := by
  subst h
  exact pt_truth ha he
theorem op_inK {X : Cx} {K : PySem.W.Frag} (h : X.K = K) : OpR X (compareOp .In) (rIn K false) := by
  subst h
  exact op_in_seq
theorem scDots : FnScope ["cell", "dot"] ["cell"] (defScope sDotsOf) := ⟨rfl, rfl, rfl, by decide +kernel, rfl, by decide +kernel, by decide +kernel⟩
theorem ok_dots (t : T K mg) : Ok P w K mg base 1 "dots_of" ["cell"] spDots := by
  refine mkOk t.d_dots_of t.g_dots_of scDots (fun vs H Q E h => ?_) (fun _ _ _ _ _ _ us hl => match us, hl with | [_], _ => rfl) fun cdv A outer s H vs Q E hr h => ?_
  · obtain ⟨c, rfl, _⟩ := h; rfl
  obtain ⟨c, rfl, k⟩ := h
  refine ⟨_, pss_one (ps_ret (pe_lc (own := [("dot", 1)]) (g := gName 1) rfl scDots.nd (pi_range2 rfl t.f_range (pa_cons pe_int (pa_cons pe_int pa_nil))) (blkOk_by (own := [("dot", 1)]) (N := ["cell", "dot"]) (sc := defScope sDotsOf) (by decide +kernel)) (fun _ _ _ _ _ => pg_name (i := 1) scDots.nd rfl (Or.inl rfl))
    (fun _ _ _ _ _ => pts_one (pt_truthK (K := K) rfl (pe_op op_and (pe_op op_shr (pv 0) (pe_op op_sub (pv 1) pe_int)) pe_int))) (fun _ _ _ _ _ => pv 1))), ?_⟩
  refine ⟨1, 7, rfl, ⟨by decide, by decide, by decide, by decide⟩, fun D hD => ?_⟩
  refine lc_rangeF (vs := [1]) (σ := L2.start ["cell", "dot"] [V.int c]) (lo := 1) (n := ((7 : Int) - 1).toNat) (i0 := 1) (f := bitB c) (F := fun i => .int (1 + (i : Int))) hD (by decide) (fun _ => rfl) (fun i H1 Q1 hi sm q1 => ?_) (fun i H1 Q1 hi sm q1 => ?_) (fun H' sm hH => k H' D sm hD ?_)
  · refine ⟨_, rfl, _, rfl, _, _, rfl, rfl, _, _, rfl, rfl, (by omega), _, _, rfl, rfl, bitB c i, ?_, q1⟩
    show bitB c i = (Builtin.bitAnd (c / 2 ^ (1 + (i : Int) - 1).toNat) 1 != 0)
    have e : (1 + (i : Int) - 1).toNat = i := by omega
    rw [e]
    rfl
  · exact ⟨_, rfl, q1⟩
  · rw [hH]
    unfold dotsL
    rw [List.map_map]
    rfl
theorem scCellOf : FnScope ["dots", "digit"] ["dots"] (defScope sCellOf) := ⟨rfl, rfl, rfl, by decide +kernel, rfl, by decide +kernel, by decide +kernel⟩
theorem ok_cellOf (t : T K mg) : Ok P w K mg base 1 "cell_of" ["dots"] (spCellOf K) := by
  refine mkOk t.d_cell_of t.g_cell_of scCellOf (fun vs H Q E h => ?_) (fun _ _ _ _ _ _ us hl => match us, hl with | [_], _ => rfl) fun cdv A outer s H vs Q E hr h => ?_
  · obtain ⟨a, ds, rfl, _⟩ := h; rfl
  obtain ⟨a, ds, rfl, hS, k⟩ := h
  refine ⟨_, pss_one (ps_ret (pe_callB (cr_sum rfl) rfl t.f_sum (by decide +kernel) (pa_cons (pe_lc (own := [("digit", 1)]) (g := gName 1) rfl scCellOf.nd (pi_range1 rfl t.f_range (pa_cons pe_int pa_nil)) (blkOk_by (own := [("digit", 1)]) (N := ["dots", "digit"]) (sc := defScope sCellOf) (by decide +kernel)) (fun _ _ _ _ _ => pg_name (i := 1) scCellOf.nd rfl (Or.inl rfl))
    (fun _ _ _ _ _ => pts_one (pt_cmpR (op_inK (K := K) rfl) (pe_op op_add (pv 1) pe_int) (pv 0) rfl)) (fun _ _ _ _ _ => pe_op op_pow pe_int (pv 1))) pa_nil))), ?_⟩
  refine ⟨6, rfl, by decide, by decide, fun D hD => ?_⟩
  refine lc_rangeF (lo := 0) (n := 6) (i0 := 1) (f := inB ds) (F := fun i => .int ((2 : Int) ^ i)) hD (by decide) (fun _ => rfl) (fun i H1 Q1 hi sm q1 => ?_) (fun i H1 Q1 hi sm q1 => ?_) (fun H' sm hH => ?_)
  · refine ⟨_, rfl, _, _, rfl, rfl, _, rfl, a, ds.map V.int, rfl, .inl (sm.seq hS), rfl, ?_, _, rfl, q1⟩
    rw [List.all_map]
    exact List.all_eq_true.mpr fun _ _ => rfl
  · refine ⟨_, rfl, _, _, rfl, rfl, ⟨by omega, by omega, by decide⟩, ?_⟩
    have e : (0 + (i : Int)).toNat = i := by omega
    show Q1 (.int ((2 : Int) ^ (0 + (i : Int)).toNat)) H1
    rw [e]
    exact q1
  · refine ⟨D, ((List.range 6).filter (inB ds)).map fun i => (2 : Int) ^ i, rfl, sqD (by rw [hH, List.map_map]; rfl), k H' sm⟩
/-! ### the law's state and its draws -/
structure StAt (H : Hp) (a L : Addr) (ns : List Int) (p c z k : Int) : Prop where
  at_ : H a = some (.lst [.ref L, .int p, .int c, .int z, .int k])
  lst : H L = some (.lst (ns.map V.int))
  ne : L ≠ a
  p0 : 0 ≤ p
def St (H : Hp) (a L : Addr) : Prop := ∃ ns p c z k, StAt H a L ns p c z k
theorem StAt.up {H : Hp} {a L : Addr} {ns : List Int} {p c z k p' c' z' k' : Int} (h : StAt H a L ns p c z k) (hp : 0 ≤ p') : StAt (upd H a (.lst [.ref L, .int p', .int c', .int z', .int k'])) a L ns p' c' z' k' :=
  ⟨upd_same, by rw [upd_ne h.ne]; exact h.lst, h.ne, hp⟩
theorem St.same {H H' : Hp} {a L : Addr} (h : St H a L) (s : Same H H') : St H' a L := by
  obtain ⟨ns, p, c, z, k, h1, h2, h3, h4⟩ := h
  exact ⟨ns, p, c, z, k, s _ _ h1, s _ _ h2, h3, h4⟩
theorem St.hasA {H : Hp} {a L : Addr} (h : St H a L) : ∃ o, H a = some o := by
  obtain ⟨ns, p, c, z, k, h1, _⟩ := h
  exact ⟨_, h1⟩
theorem St.hasL {H : Hp} {a L : Addr} (h : St H a L) : ∃ o, H L = some o := by
  obtain ⟨ns, p, c, z, k, _, h2, _⟩ := h
  exact ⟨_, h2⟩
theorem St.ne {H : Hp} {a L : Addr} (h : St H a L) : L ≠ a := by
  obtain ⟨ns, p, c, z, k, h1, h2, h3, h4⟩ := h
  exact h3
/-- a list of one's own written -/
theorem St.write {H : Hp} {a L D : Addr} {o : HO} (h : St H a L) (n1 : a ≠ D) (n2 : L ≠ D) : St (upd H D o) a L := by
  obtain ⟨ns, p, c, z, k, h1, h2, h3, h4⟩ := h
  exact ⟨ns, p, c, z, k, by rw [upd_ne n1]; exact h1, by rw [upd_ne n2]; exact h2, h3, h4⟩
theorem But.refl (a : Addr) (H : Hp) : But a H H := fun _ _ e _ => e
theorem But.trans {a : Addr} {H H1 H2 : Hp} (x : But a H H1) (y : But a H1 H2) : But a H H2 := fun b o e hb => y b o (x b o e hb) hb
theorem But.put (a : Addr) (H : Hp) (o : HO) : But a H (upd H a o) := fun b u e hb => by rw [upd_ne hb]; exact e
def spState (K : PySem.W.Frag) : Sp := fun vs H Q _ => ∃ (a : Addr) (ns : List Int), vs = [.ref a] ∧ SqL K H a (ns.map V.int) ∧ ∀ p L H', H p = none → H L = none → Same H H' → St H' p L → Q (.ref p) H'
def spDraw : Sp := fun vs H Q _ => ∃ (a L : Addr) (m : Int), vs = [.ref a, .int m] ∧ St H a L ∧ 0 < m ∧ m < 1073741824 ∧ ∀ v H', 0 ≤ v → v < m → St H' a L → But a H H' → Q (.int v) H'
theorem scState : FnScope ["script"] ["script"] (defScope sLawState) := ⟨rfl, rfl, rfl, by decide +kernel, rfl, by decide +kernel, by decide +kernel⟩
theorem ok_state (t : T K mg) : Ok P w K mg base 1 "_law_state" ["script"] (spState K) := by
  refine mkOk t.d_law_state t.g_law_state scState (fun vs H Q E h => ?_) (fun _ _ _ _ _ _ us hl => match us, hl with | [_], _ => rfl) fun cdv A outer s H vs Q E hr h => ?_
  · obtain ⟨a, ns, rfl, _⟩ := h; rfl
  obtain ⟨a, ns, rfl, hS, k⟩ := h
  refine ⟨_, pss_one (ps_ret (pe_lst (pa_cons (pe_callTy call_list_of rfl t.f_list (by decide +kernel) (pa_cons (pv 0) pa_nil)) (pa_cons pe_int (pa_cons pe_int (pa_cons pe_int (pa_cons pe_int pa_nil))))))), ?_⟩
  refine ⟨_, rfl, a, _, rfl, .inl hS, fun L hL => ⟨by show 5 ≤ sizeLine; decide, fun p hp => ?_⟩⟩
  have ne : L ≠ p := fun e => by rw [← e, upd_same] at hp; cases hp
  have hp0 : H p = none := by rw [upd_ne ne.symm] at hp; exact hp
  exact k p L _ hp0 hL ((Same.new hL).trans (Same.new hp)) ⟨ns, 0, 0, 1, 0, upd_same, by rw [upd_ne ne]; exact upd_same, ne, Int.le_refl _⟩
abbrev nsDraw : List Str := ["state", "many", "value", "cell", "first"]
theorem scDraw : FnScope nsDraw ["state", "many"] (defScope sLawDraw) := ⟨rfl, rfl, rfl, by decide +kernel, rfl, by decide +kernel, by decide +kernel⟩
theorem mulF (y : Int) : CMul (y % 2147483647) (y % 2147483647) := .inl ⟨by omega, by omega⟩
theorem ok_draw (t : T K mg) : Ok P w K mg base 1 "_law_draw" ["state", "many"] spDraw := by
  refine mkOk t.d_law_draw t.g_law_draw scDraw (fun vs H Q E h => ?_) (fun _ _ _ _ _ _ us hl => match us, hl with | [_, _], _ => rfl) fun cdv A outer s H vs Q E hr h => ?_
  · obtain ⟨a, L, m, rfl, _⟩ := h; rfl
  obtain ⟨a, L, m, rfl, ⟨ns, p, c, z, kk, S⟩, m0, m1, k⟩ := h
  have hS := S.at_
  refine ⟨_, C8.pss_cut (ps_if (PW.pt (pw_and (pt_cmpR op_gt (pe_ix ix_list (pv 0) pe_int (fun _ _ => rfl)) pe_int (nomark _)) (pw_and1 (pt_cmpR op_gt (pe_ix ix_list (pv 0) pe_int (fun _ _ => rfl)) pe_int (nomark _)))))
      (pss_cons (ps_set (i := 2) scDraw.nd rfl (Or.inl rfl) (pe_op op_mod (pe_callTy call_int1 rfl t.f_int (by decide +kernel) (pa_cons (pe_ix ix_list (pv 0) pe_int (fun _ _ => rfl)) pa_nil)) (pv 1)))
      (pss_cons (ps_asg (pe_op op_fdiv (pe_ix ix_list (pv 0) pe_int (fun _ _ => rfl)) (pv 1)) (pg_sub (pv 0) pe_int set_list))
      (pss_cons (ps_asg (pe_op op_sub (pe_ix ix_list (pv 0) pe_int (fun _ _ => rfl)) pe_int) (pg_sub (pv 0) pe_int set_list)) (pss_one (ps_ret (pv 2)))))) pss_nil)
    (pss_cons (ps_set (i := 3) scDraw.nd rfl (Or.inl rfl) (pe_op op_add (pe_ix ix_list (pv 0) pe_int (fun _ _ => rfl)) (pe_op op_mul pe_int (pe_ix ix_list (pv 0) pe_int (fun _ _ => rfl)))))
    (C8.pss_cut (ps_if (pt_cmpR op_lt (pe_ix ix_list (pv 0) pe_int (fun _ _ => rfl)) (pe_callB call_len_seq rfl t.f_len boot_len (pa_cons (pe_ix ix_list (pv 0) pe_int (fun _ _ => rfl)) pa_nil)) (nomark _))
        (pss_one (ps_set (i := 3) scDraw.nd rfl (Or.inl rfl) (pe_ix ix_list (pe_ix ix_list (pv 0) pe_int (fun _ _ => rfl)) (pe_ix ix_list (pv 0) pe_int (fun _ _ => rfl)) (fun _ _ => rfl)))) pss_nil)
    (pss_cons (ps_asg (pe_op op_add (pe_ix ix_list (pv 0) pe_int (fun _ _ => rfl)) pe_int) (pg_sub (pv 0) pe_int set_list))
    (pss_cons (ps_if (pt_cmpR op_ge (pv 3) (pe_op op_pow pe_int pe_int) (nomark _))
        (pss_cons (ps_asg (pe_op op_fdiv (pv 3) (pv 1)) (pg_sub (pv 0) pe_int set_list)) (pss_cons (ps_asg pe_int (pg_sub (pv 0) pe_int set_list))
          (pss_one (ps_ret (pe_op op_mod (pe_callTy call_int1 rfl t.f_int (by decide +kernel) (pa_cons (pv 3) pa_nil)) (pv 1)))))) pss_nil)
    (pss_cons (ps_set (i := 4) scDraw.nd rfl (Or.inl rfl) (pe_op op_mod (pe_callTy call_int1 rfl t.f_int (by decide +kernel) (pa_cons (pe_op op_add (pe_op op_add (pe_op op_mul (pv 3) pe_int) (pe_op op_mul (pe_ix ix_list (pv 0) pe_int (fun _ _ => rfl)) pe_int)) (pe_ix ix_list (pv 0) pe_int (fun _ _ => rfl))) pa_nil)) pe_int))
    (pss_cons (ps_asg (pe_op op_mod (pe_callTy call_int1 rfl t.f_int (by decide +kernel) (pa_cons (pe_op op_add (pe_op op_add (pe_op op_mul (pv 4) pe_int) (pe_op op_mul (pv 4) (pv 4))) pe_int) pa_nil)) pe_int) (pg_sub (pv 0) pe_int set_list))
      (pss_one (ps_ret (pe_op op_mod (pe_callTy call_int1 rfl t.f_int (by decide +kernel) (pa_cons (pe_op op_fdiv (pe_ix ix_list (pv 0) pe_int (fun _ _ => rfl)) pe_int) pa_nil)) (pv 1)))))))))), ?_⟩
  have md : ∀ x : Int, 0 ≤ x % m ∧ x % m < m := fun x => ⟨Int.emod_nonneg _ (by omega), Int.emod_lt_of_pos _ m0⟩
  -- the first if
  refine ⟨fun σ' H' => σ' = [some (.ref a), some (.int m), none, none, none] ∧ H' = H, ?_, ?_⟩
  · refine ⟨_, rfl, a, _, _, _, rfl, rfl, SqL.of hS, rfl, _, _, rfl, rfl, _, rfl, ?_⟩
    refine ite2 (fun h1 => ?_) (fun h1 => iteF ⟨rfl, rfl⟩)
    refine ⟨_, rfl, a, _, _, _, rfl, rfl, SqL.of hS, rfl, _, _, rfl, rfl, _, rfl, ?_⟩
    refine ite2 (fun h2 => ?_) (fun h2 => ⟨rfl, rfl⟩)
    refine ⟨_, rfl, a, _, _, _, rfl, rfl, SqL.of hS, rfl, .inl ⟨_, rfl, ?_⟩⟩
    refine ⟨_, rfl, _, _, rfl, rfl, m0, ?_⟩
    refine ⟨_, rfl, a, _, _, _, rfl, rfl, SqL.of hS, rfl, _, rfl, _, _, rfl, rfl, ⟨m0, m1⟩, ?_⟩
    refine ⟨_, rfl, a, _, _, 2, rfl, rfl, hS, rfl, ?_⟩
    refine ⟨_, rfl, a, _, _, _, rfl, rfl, SqL.of upd_same, rfl, _, _, rfl, rfl, ?_⟩
    refine ⟨_, rfl, a, _, _, 4, rfl, rfl, upd_same, rfl, ?_⟩
    refine ⟨_, rfl, k _ _ (md _).1 (md _).2 ⟨ns, p, c / m, z, kk - 1, upd_same, ?_, S.ne, S.p0⟩ ?_⟩
    · rw [upd_ne S.ne, upd_ne S.ne]; exact S.lst
    · exact (But.put a _ _).trans (But.put a _ _)
  rintro σ' H' ⟨rfl, rfl⟩
  refine ⟨_, rfl, a, _, _, _, rfl, rfl, SqL.of hS, rfl, ?_⟩
  refine ⟨_, rfl, a, _, _, _, rfl, rfl, SqL.of hS, rfl, _, _, rfl, rfl, .inl (by decide), _, _, rfl, rfl, ?_⟩
  -- the second if
  refine ⟨fun σ' H1 => (∃ x : Int, σ' = [some (.ref a), some (.int m), none, some (.int x), none]) ∧ H1 = H', ?_, ?_⟩
  · refine ⟨_, rfl, a, _, _, _, rfl, rfl, SqL.of hS, rfl, ?_⟩
    refine ⟨_, rfl, a, _, _, _, rfl, rfl, SqL.of hS, rfl, L, _, rfl, .inl (SqL.of S.lst), _, _, rfl, rfl, _, rfl, ?_⟩
    refine ite2 (fun h1 => ?_) (fun h1 => ⟨⟨_, rfl⟩, rfl⟩)
    have h1' : p < (ns.length : Int) := by have := of_decide_eq_true h1; rw [List.length_map] at this; exact this
    have p0 := S.p0
    have hp : p.toNat < ns.length := by omega
    refine ⟨_, rfl, a, _, _, _, rfl, rfl, SqL.of hS, rfl, ?_⟩
    refine ⟨_, rfl, a, _, _, _, rfl, rfl, SqL.of hS, rfl, L, _, _, .int ns[p.toNat], rfl, rfl, SqL.of S.lst, ?_, ?_⟩
    · exact at_of (j := p.toNat) (by omega) (by rw [List.getElem?_map, List.getElem?_eq_getElem hp]; rfl)
    · exact ⟨⟨_, rfl⟩, rfl⟩
  rintro σ' H1 ⟨⟨x, rfl⟩, rfl⟩
  refine ⟨_, rfl, a, _, _, _, rfl, rfl, SqL.of hS, rfl, _, _, rfl, rfl, ?_⟩
  refine ⟨_, rfl, a, _, _, 1, rfl, rfl, hS, rfl, ?_⟩
  have p0 := S.p0
  have S1 : StAt (upd H1 a (.lst [.ref L, .int (p + 1), .int c, .int z, .int kk])) a L ns (p + 1) c z kk := S.up (by omega)
  have B1 : But a H1 (upd H1 a (.lst [.ref L, .int (p + 1), .int c, .int z, .int kk])) := But.put a _ _
  refine ⟨_, rfl, _, _, rfl, rfl, ⟨by decide, by decide, by decide⟩, _, _, rfl, rfl, _, rfl, ?_⟩
  refine ite2 (fun h1 => ?_) (fun h1 => ?_)
  · refine ⟨_, rfl, _, rfl, _, _, rfl, rfl, ⟨m0, m1⟩, ?_⟩
    refine ⟨_, rfl, a, _, _, 2, rfl, rfl, upd_same, rfl, ?_⟩
    refine ⟨_, rfl, a, _, _, 4, rfl, rfl, upd_same, rfl, ?_⟩
    refine ⟨_, rfl, .inl ⟨_, rfl, ?_⟩⟩
    refine ⟨_, rfl, _, _, rfl, rfl, m0, k _ _ (md _).1 (md _).2 ⟨ns, p + 1, x / m, z, 60, upd_same, ?_, S.ne, by omega⟩ ?_⟩
    · rw [upd_ne S.ne, upd_ne S.ne]; exact S1.lst
    · exact B1.trans ((But.put a _ _).trans (But.put a _ _))
  · refine ⟨_, rfl, _, _, rfl, rfl, .inr (by decide), ?_⟩
    refine ⟨_, rfl, a, _, _, _, rfl, rfl, SqL.of upd_same, rfl, _, _, rfl, rfl, .inr (by decide), _, _, rfl, rfl, ?_⟩
    refine ⟨_, rfl, a, _, _, _, rfl, rfl, SqL.of upd_same, rfl, _, _, rfl, rfl, .inl ⟨_, rfl, ?_⟩⟩
    refine ⟨_, _, rfl, rfl, (by show (0 : Int) < 2147483647; decide), ?_⟩
    refine ⟨_, rfl, _, _, rfl, rfl, .inr (by decide), ?_⟩
    refine ⟨_, rfl, _, rfl, _, _, rfl, rfl, mulF _, _, _, rfl, rfl, _, _, rfl, rfl, .inl ⟨_, rfl, ?_⟩⟩
    refine ⟨_, _, rfl, rfl, (by show (0 : Int) < 2147483629; decide), ?_⟩
    refine ⟨_, rfl, a, _, _, 3, rfl, rfl, upd_same, rfl, ?_⟩
    refine ⟨_, rfl, a, _, _, _, rfl, rfl, SqL.of upd_same, rfl, _, _, rfl, rfl, ⟨by decide, by decide⟩, .inl ⟨_, rfl, ?_⟩⟩
    refine ⟨_, rfl, _, _, rfl, rfl, m0, k _ _ (md _).1 (md _).2 ⟨ns, p + 1, c, _, kk, upd_same, ?_, S.ne, by omega⟩ ?_⟩
    · rw [upd_ne S.ne]; exact S1.lst
    · exact B1.trans (But.put a _ _)
end
end Sx

set_option Elab.async false
set_option linter.all false
set_option maxRecDepth 100000
set_option maxHeartbeats 1000000
namespace Sx
open PySem PySem.Spec PyProof.Rows L2 SxA
/-! ### texts -/
theorem sl_app (a b : Str) : sl (a ++ b) = sl a ++ sl b := by
  show (a.cps ++ b.cps).toList = _
  simp
theorem sl_sg (c : Nat) : sl (sg c) = [c] := rfl
theorem sl_mt : sl (Str.ofString "") = [] := by decide +kernel
theorem len_app (a b : Str) : (a ++ b).length = a.length + b.length := by
  rw [sl_len, sl_len, sl_len, sl_app, List.length_append]
theorem sl_ext {a b : Str} (h : sl a = sl b) : a = b := by
  obtain ⟨a⟩ := a
  obtain ⟨b⟩ := b
  have : a = b := by
    apply Array.ext'
    exact h
  rw [this]
theorem join_sg : ∀ zs : List Nat, sl (Txt.join (Str.ofString "") (zs.map sg)) = zs := by
  intro zs
  have e : Txt.join (Str.ofString "") (zs.map sg) = Str.join (Str.ofString "") (zs.map sg) := eq_of_beq (join_plain_closes _ _)
  rw [e]
  have e0 : Str.ofString "" = ⟨#[]⟩ := by decide +kernel
  rw [e0]
  induction zs with
  | nil => rfl
  | cons c r ih =>
    cases r with
    | nil => rfl
    | cons d r =>
      have e2 : Str.join ⟨#[]⟩ ((c :: d :: r).map sg) = sg c ++ ⟨#[]⟩ ++ Str.join ⟨#[]⟩ ((d :: r).map sg) := rfl
      rw [e2, sl_app, ih (eq_of_beq (join_plain_closes _ _)), sl_app]
      rfl
/-! ### comprehensions with a word of one's own -/
theorem lc_signs {z : Str} {tt : TT} {te : TE} {i0 : Nat} {vs : List Nat} {σ : L2.St} {H1 : Hp} {D : Addr} {Qd : Hp → Prop} (Pv : Nat → Hp → Prop) (h0 : Pv 0 (upd H1 D (.lst [])))
    (hs : ∀ (i c : Nat) (H : Hp), (sl z)[i]? = some c → Pv i H → wipe ((wipe σ vs).set i0 (some (.str (sg c)))) vs = wipe σ vs ∧ tt ((wipe σ vs).set i0 (some (.str (sg c)))) H fun b H3 => if b = true then te ((wipe σ vs).set i0 (some (.str (sg c)))) H3 fun y H4 => ∃ acc, H4 D = some (.lst acc) ∧ acc.length < sizeLine ∧ Pv (i + 1) (upd H4 D (.lst (acc ++ [y]))) else Pv (i + 1) H3)
    (hd : ∀ H, Pv (sl z).length H → Qd H) :
    ∃ W : Nat → Nat → Hp → Prop, (∃ m, W 0 m (upd H1 D (.lst []))) ∧ ∀ i m H, W i m H → ((Its z).stop i H ∧ Qd H) ∨ ((Its z).go i H ∧ ∃ Nx : Hp → Prop, (∀ H', Nx H' → ∃ m', m' < m ∧ W (i + 1) m' H') ∧
      ∀ x H', (Its z).yld i H x H' → (gName i0) x (wipe σ vs) H' fun σ2 H2 => wipe σ2 vs = wipe σ vs ∧ tt σ2 H2 fun b H3 => if b = true then te σ2 H3 fun y H4 => ∃ acc, H4 D = some (.lst acc) ∧ acc.length < sizeLine ∧ Nx (upd H4 D (.lst (acc ++ [y]))) else Nx H3) := by
  have hsz : z.cps.size = (sl z).length := by simp
  refine ⟨fun i m H => m = (sl z).length - i ∧ i ≤ (sl z).length ∧ Pv i H, ⟨(sl z).length, rfl, Nat.zero_le _, h0⟩, ?_⟩
  rintro i m H ⟨rfl, hi, p⟩
  by_cases lt : i < (sl z).length
  · refine .inr ⟨by show i < z.cps.size; omega, Pv (i + 1), fun H' q => ⟨(sl z).length - (i + 1), by omega, rfl, lt, q⟩, ?_⟩
    rintro x H' ⟨rfl, c, hc, rfl⟩
    exact hs i c _ (by rw [Array.getElem?_toList]; exact hc) p
  · have e : i = (sl z).length := by omega
    subst e
    exact .inl ⟨by show z.cps.size ≤ (sl z).length; omega, hd H p⟩
/-- a loop over the signs of a text -/
theorem for_signs {z : Str} {g : TG} {tb : TS} {D : Ends} {σ : L2.St} {H : Hp} (Pv : Nat → L2.St → Hp → Prop) (h0 : Pv 0 σ H)
    (hs : ∀ (i c : Nat) (σ : L2.St) (H : Hp), (sl z)[i]? = some c → Pv i σ H → g (.str (sg c)) σ H fun σ2 H2 => tb { D with nx := Pv (i + 1), ct := Pv (i + 1), bk := D.nx } σ2 H2) (hd : ∀ σ H, Pv (sl z).length σ H → D.nx σ H) :
    ∃ W : Nat → Nat → L2.St → Hp → Prop, (∃ m, W 0 m σ H) ∧ ∀ i m σ H, W i m σ H → ((Its z).stop i H ∧ D.nx σ H) ∨ ((Its z).go i H ∧ ∃ N : L2.St → Hp → Prop, (∀ σ' H', N σ' H' → ∃ m', m' < m ∧ W (i + 1) m' σ' H') ∧
      ∀ v H', (Its z).yld i H v H' → g v σ H' fun σ2 H2 => tb { D with nx := N, ct := N, bk := D.nx } σ2 H2) := by
  have hsz : z.cps.size = (sl z).length := by simp
  refine ⟨fun i m σ H => m = (sl z).length - i ∧ i ≤ (sl z).length ∧ Pv i σ H, ⟨(sl z).length, rfl, Nat.zero_le _, h0⟩, ?_⟩
  rintro i m σ H ⟨rfl, hi, p⟩
  by_cases lt : i < (sl z).length
  · refine .inr ⟨by show i < z.cps.size; omega, Pv (i + 1), fun σ' H' q => ⟨(sl z).length - (i + 1), by omega, rfl, lt, q⟩, ?_⟩
    rintro x H' ⟨rfl, c, hc, rfl⟩
    exact hs i c σ _ (by rw [Array.getElem?_toList]; exact hc) p
  · have e : i = (sl z).length := by omega
    subst e
    exact .inl ⟨by show z.cps.size ≤ (sl z).length; omega, hd σ H p⟩
/-! ### what is drawn -/
def GoodN (o : Option Str) (z : Str) (e : Nat) : Prop := ∀ t, o = some t → sl t ≠ [] ∧ (sl t).Nodup ∧ (∀ c ∈ sl t, c ∈ sl z ∨ c = e) ∧ t.length ≤ 1001
def GoodX (x z : Str) (m : Int) : Prop := 1 ≤ x.length ∧ (x.length : Int) ≤ m ∧ ∀ c ∈ sl x, c ∈ sl z
structure GoodR (r : RD) (z : Str) (n : Int) : Prop where
  mode : 0 ≤ r.mode ∧ r.mode < n
  text : GoodX r.text z 4
  cells : 1 ≤ r.cells.length ∧ r.cells.length ≤ 4 ∧ ∀ c ∈ r.cells, 0 ≤ c ∧ c ≤ 63
  to : 0 ≤ r.to ∧ r.to < n
  ahead : GoodN r.ahead z 94
  behind : GoodN r.behind z 36
def RowT (H : Hp) (v : V) (r : RD) : Prop := ∃ u l, v = .ref u ∧ H u = some (.tup [.int r.mode, .str r.text, .ref l, .int r.to, oV r.ahead, oV r.behind]) ∧ H l = some (.lst (r.cells.map V.int))
theorem RowT.same {H H' : Hp} {v : V} {r : RD} (h : RowT H v r) (s : Same H H') : RowT H' v r := by
  obtain ⟨u, l, e, h1, h2⟩ := h
  exact ⟨u, l, e, s _ _ h1, s _ _ h2⟩
def spPart : Sp := fun vs H Q _ => ∃ (a L : Addr) (z : Str) (m : Int), vs = [.ref a, .str z, .int m] ∧ St H a L ∧ 1 ≤ z.length ∧ z.length ≤ 1000 ∧ 0 < m ∧ m ≤ 1000 ∧ ∀ x H', GoodX x z m → St H' a L → But a H H' → Q (.str x) H'
def spNearL : Sp := fun vs H Q _ => ∃ (a L : Addr) (z : Str) (e : Nat), vs = [.ref a, .str z, .str (sg e)] ∧ St H a L ∧ z.length ≤ 1000 ∧ (sl z).Nodup ∧ e ∉ sl z ∧ ∀ o H', GoodN o z e → St H' a L → But a H H' → Q (oV o) H'
theorem RZat {l : List Nat} {u : Int} (h : u.toNat < l.length) (h0 : 0 ≤ u) : atI l u = some l[u.toNat] := by
  have h2 := atI_nat (xs := l) (j := u.toNat) (List.getElem?_eq_getElem h)
  have e : ((u.toNat : Nat) : Int) = u := by omega
  rw [e] at h2
  exact h2
section
variable {P : Program} {w : World} {K : PySem.W.Frag} {mg : Str → Option Value} {base : Heap}
abbrev nsPart : List Str := ["state", "signs", "most", "text", "_law_turn"]
theorem scPart : FnScope nsPart ["state", "signs", "most"] (defScope sLawPart) := ⟨rfl, rfl, rfl, by decide +kernel, rfl, by decide +kernel, by decide +kernel⟩
theorem ok_part (t : T K mg) : Ok P w K mg base 2 "_law_part" ["state", "signs", "most"] spPart := by
  refine mkOk t.d_law_part t.g_law_part scPart (fun vs H Q E h => ?_) (fun _ _ _ _ _ _ us hl => match us, hl with | [_, _, _], _ => rfl) fun cdv A outer s H vs Q E hr h => ?_
  · obtain ⟨a, L, z, m, rfl, _⟩ := h; rfl
  obtain ⟨a, L, z, m, rfl, hS, z1, z2, m1, m2, k⟩ := h
  refine ⟨_, pss_cons (ps_set (i := 3) scPart.nd rfl (Or.inl rfl) pe_str)
    (pss_cons (ps_for PassesOwn.never rfl (pi_range1 rfl t.f_range (pa_cons (pe_op op_add pe_int (pe_ok (ok_draw t) hr rfl (pa_cons (pv 0) (pa_cons (pv 2) pa_nil)))) pa_nil)) (pg_name (i := 4) scPart.nd rfl (Or.inl rfl))
      (pss_one (ps_set (i := 3) scPart.nd rfl (Or.inl rfl) (pe_op op_add_str (pv 3) (pe_ix ix_str (pv 1) (pe_ok (ok_draw t) hr rfl (pa_cons (pv 0) (pa_cons (pe_callB call_len_str rfl t.f_len boot_len (pa_cons (pv 1) pa_nil)) pa_nil))) (fun _ _ => rfl))))))
    (pss_one (ps_ret (pv 3)))), ?_⟩
  refine ⟨_, rfl, _, rfl, a, L, m, rfl, hS, m1, by omega, fun v H1 v0 v1 S1 B1 => ?_⟩
  refine ⟨_, _, rfl, rfl, _, rfl, by omega, by omega, ?_⟩
  have en : (1 + v).toNat = v.toNat + 1 := by omega
  refine for_range (lo := 0) (n := (1 + v).toNat) (fun i σ' H' => (∃ (x : Str) (tv : Option V), σ' = [some (.ref a), some (.str z), some (.int m), some (.str x), tv] ∧ x.length = i ∧ ∀ c ∈ sl x, c ∈ sl z) ∧ St H' a L ∧ But a H H') ⟨⟨Str.ofString "", none, rfl, by decide +kernel, fun c hc => by rw [sl_mt] at hc; cases hc⟩, S1, B1⟩ ?_ ?_
  · rintro i σ' H' hi ⟨⟨x, tv, rfl, xl, hx⟩, S2, B2⟩
    refine ⟨_, rfl, _, rfl, _, rfl, _, rfl, z, rfl, small4 (by omega), a, L, _, rfl, S2, by omega, by omega, fun u H3 u0 u1 S3 B3 => ?_⟩
    have hu : u.toNat < (sl z).length := by rw [← sl_len]; omega
    refine ⟨z, u, (sl z)[u.toNat], rfl, rfl, small4 (by omega), ?_, ?_⟩
    · exact RZat hu u0
    · refine ⟨_, _, rfl, rfl, ?_, ⟨x ++ sg (sl z)[u.toNat], _, rfl, ?_, fun c hc => ?_⟩, S3, B2.trans B3⟩
      · show x.length + 1 ≤ sizeLine
        exact small4 (by omega)
      · rw [len_app, xl]; rfl
      · rw [sl_app, List.mem_append] at hc
        rcases hc with hc | hc
        · exact hx c hc
        · rw [sl_sg, List.mem_singleton] at hc
          rw [hc]
          exact List.getElem_mem hu
  · rintro σ' H' ⟨⟨x, tv, rfl, xl, hx⟩, S2, B2⟩
    exact ⟨_, rfl, k x H' ⟨by omega, by omega, hx⟩ S2 B2⟩
theorem map_snoc {α β : Type} (f : α → β) (l : List α) (x : α) : (l ++ [x]).map f = l.map f ++ [f x] := by simp
abbrev nsNear : List Str := ["state", "signs", "mark", "text", "sign"]
theorem scNearL : FnScope nsNear ["state", "signs", "mark"] (defScope sLawNear) := ⟨rfl, rfl, rfl, by decide +kernel, rfl, by decide +kernel, by decide +kernel⟩
theorem ok_nearL (t : T K mg) : Ok P w K mg base 2 "_law_near" ["state", "signs", "mark"] spNearL := by
  refine mkOk t.d_law_near t.g_law_near scNearL (fun vs H Q E h => ?_) (fun _ _ _ _ _ _ us hl => match us, hl with | [_, _, _], _ => rfl) fun cdv A outer s H vs Q E hr h => ?_
  · obtain ⟨a, L, z, e, rfl, _⟩ := h; rfl
  obtain ⟨a, L, z, e, rfl, hS, z2, znd, ez, k⟩ := h
  refine ⟨_, pss_cons (ps_if (pt_cmpR op_gt (pe_ok (ok_draw t) hr rfl (pa_cons (pv 0) (pa_cons pe_int pa_nil))) pe_int (nomark _)) (pss_one (ps_ret pe_non)) pss_nil)
    (pss_cons (ps_set (i := 3) scNearL.nd rfl (Or.inl rfl) (pe_join pe_str (pe_lc (own := [("sign", 4)]) (g := gName 4) rfl scNearL.nd (pi_str (pe_op op_add_str (pv 1) (pv 2))) (blkOk_by (own := [("sign", 4)]) (N := nsNear) (sc := defScope sLawNear) (by decide +kernel)) (fun _ _ _ _ _ => pg_name (i := 4) scNearL.nd rfl (Or.inl rfl))
        (fun _ _ _ _ _ => pts_one (pt_cmpR op_eq (pe_ok (ok_draw t) hr rfl (pa_cons (pv 0) (pa_cons pe_int pa_nil))) pe_int (nomark _))) (fun _ _ _ _ _ => pv 4))))
    (pss_one (ps_ret (pe_orT (pv 3) (pe_one (pv 2)))))), ?_⟩
  refine ⟨_, rfl, a, L, 3, rfl, hS, by decide, by decide, fun v H1 v0 v1 S1 B1 => ?_⟩
  refine ⟨_, _, rfl, rfl, _, rfl, ?_⟩
  refine ite2 (fun h1 => k none H1 (fun t ht => by cases ht) S1 B1) (fun h1 => ?_)
  refine ⟨⟨_, rfl⟩, _, rfl, _, rfl, _, _, rfl, rfl, (by show z.length + 1 ≤ sizeLine; exact small4 (by omega)), _, rfl, fun D hD => ?_⟩
  obtain ⟨oa, ha⟩ := S1.hasA
  obtain ⟨oL, hL⟩ := S1.hasL
  have naD : a ≠ D := ne_of_none ha hD
  have nLD : L ≠ D := ne_of_none hL hD
  have ezz : sl (z ++ sg e) = sl z ++ [e] := by rw [sl_app, sl_sg]
  have ndz : (sl (z ++ sg e)).Nodup := by
    rw [ezz, List.nodup_append]
    exact ⟨znd, by simp, fun x hx y hy q => ez (by rw [List.mem_singleton] at hy; rw [← hy, ← q]; exact hx)⟩
  have lzz : (sl (z ++ sg e)).length ≤ 1001 := by rw [ezz, List.length_append, ← sl_len]; simp; omega
  refine lc_signs (z := z ++ sg e) (i0 := 4) (vs := [4]) (σ := [some (V.ref a), some (V.str z), some (V.str (sg e)), none, none]) (fun i H' => (∃ zs : List Nat, H' D = some (.lst (zs.map fun c => V.str (sg c))) ∧ zs.Sublist ((sl (z ++ sg e)).take i)) ∧ St H' a L ∧ But a H1 H') ?_ ?_ ?_
  · exact ⟨⟨[], upd_same, List.nil_sublist _⟩, S1.write naD nLD, fun b o q hb => by rw [upd_ne (ne_of_none q hD)]; exact q⟩
  · rintro i c H' hc ⟨⟨zs, hz, hsub⟩, S2, B2⟩
    have tk : (sl (z ++ sg e)).take (i + 1) = (sl (z ++ sg e)).take i ++ [c] := by rw [List.take_add_one, hc]; rfl
    refine ⟨rfl, ?_⟩
    refine ⟨_, rfl, a, L, 2, rfl, S2, by decide, by decide, fun u H3 u0 u1 S3 B3 => ?_⟩
    have hz3 : H3 D = some (.lst (zs.map fun c => V.str (sg c))) := B3 _ _ hz naD.symm
    refine ⟨rfl, _, rfl, ?_⟩
    refine ite2 (fun h2 => ?_) (fun h2 => ⟨⟨zs, hz3, by rw [tk]; exact hsub.trans (List.sublist_append_left _ _)⟩, S3, B2.trans B3⟩)
    refine ⟨_, rfl, _, hz3, ?_, ⟨zs ++ [c], ?_, ?_⟩, S3.write naD nLD, ?_⟩
    · rw [List.length_map]
      have := hsub.length_le
      rw [List.length_take] at this
      exact Nat.lt_of_le_of_lt (show zs.length ≤ 1001 by omega) (by decide)
    · rw [upd_same, map_snoc]
    · rw [tk]
      exact hsub.append (List.Sublist.refl _)
    · intro b o q hb
      rw [upd_ne (ne_of_none q hD)]
      exact B3 _ _ (B2 b o q hb) hb
  · rintro H' ⟨⟨zs, hz, hsub⟩, S2, B2⟩
    rw [List.take_length] at hsub
    have zl := hsub.length_le
    refine ⟨_, D, zs.map sg, rfl, rfl, .inl (SqL.of (by rw [hz, List.map_map]; rfl)), ?_, ?_⟩
    · have e1 : ((zs.map sg).map (·.length)).sum = zs.length := by
        clear hz hsub zl
        induction zs with
        | nil => rfl
        | cons c r ih => rw [List.map_cons, List.map_cons, List.sum_cons, ih, List.length_cons]; show 1 + _ = _; omega
      rw [e1]
      have e2 : (Str.ofString "").length = 0 := by decide +kernel
      rw [e2]
      omega
    · have ej := join_sg zs
      generalize Txt.join (Str.ofString "") (zs.map sg) = x at ej
      have xl : x.length = zs.length := by rw [sl_len, ej]
      refine ⟨_, rfl, _, ⟨small4 (by omega), rfl⟩, ?_⟩
      have B : But a H H' := B1.trans B2
      refine ite2 (fun h3 => ?_) (fun h3 => ?_)
      · refine k (some x) H' (fun t ht => ?_) S2 B
        obtain rfl : x = t := Option.some.inj ht
        rw [ej]
        refine ⟨fun q => ?_, hsub.nodup ndz, fun c hc => ?_, by omega⟩
        · rw [q] at xl
          rw [xl] at h3
          exact absurd h3 (by decide)
        · have := hsub.subset hc
          rw [ezz, List.mem_append, List.mem_singleton] at this
          exact this
      · refine ⟨_, rfl, k (some (sg e)) H' (fun t ht => ?_) S2 B⟩
        obtain rfl : sg e = t := Option.some.inj ht
        exact ⟨by rw [sl_sg]; simp, by rw [sl_sg]; simp, fun c hc => by rw [sl_sg, List.mem_singleton] at hc; exact .inr hc, by show 1 ≤ 1001; omega⟩
end
end Sx

set_option Elab.async false
set_option linter.all false
set_option maxRecDepth 100000
set_option maxHeartbeats 1000000
namespace Sx
open PySem PySem.Spec PyProof.Rows L2 SxA
theorem But.none {a b : Addr} {H H' : Hp} {o : HO} (s : But a H H') (h : H' a = some o) (hb : H' b = Option.none) : H b = Option.none := by
  cases e : H b with
  | none => rfl
  | some u =>
    have n : b ≠ a := fun q => by rw [q, h] at hb; cases hb
    rw [s b u e n] at hb
    cases hb
theorem ix_listK {X : Cx} {K : PySem.W.Frag} (h : X.K = K) : IxR X (rIxL K) := by
  subst h
  exact ix_list
theorem ix_tupK {X : Cx} {K : PySem.W.Frag} (h : X.K = K) : IxR X (rIxT K) := by
  subst h
  exact ix_tup
structure GoodZ (z : Str) : Prop where
  l1 : 1 ≤ z.length
  l2 : z.length ≤ 1000
  nd : (sl z).Nodup
  n94 : 94 ∉ sl z
  n36 : 36 ∉ sl z
def spRowL : Sp := fun vs H Q _ => ∃ (a L : Addr) (z : Str) (n : Int), vs = [.ref a, .str z, .int n] ∧ St H a L ∧ GoodZ z ∧ 0 < n ∧ n ≤ 1000 ∧ ∀ v r H', GoodR r z n → RowT (fresh H H') v r → St H' a L → But a H H' → Q v H'
section
variable {P : Program} {w : World} {K : PySem.W.Frag} {mg : Str → Option Value} {base : Heap}
abbrev nsRow : List Str := ["state", "signs", "modes", "cells", "ahead", "behind", "_law_turn"]
theorem scRow : FnScope nsRow ["state", "signs", "modes"] (defScope sLawRule) := ⟨rfl, rfl, rfl, by decide +kernel, rfl, by decide +kernel, by decide +kernel⟩
theorem at4 (x y : Int) {u : Int} (h0 : 0 ≤ u) (h1 : u < 4) (hx : 0 ≤ x ∧ x ≤ 63) (hy : 0 ≤ y ∧ y ≤ 63) : ∃ c : Int, atI [V.int x, .int 0, .int 63, .int y] u = some (.int c) ∧ 0 ≤ c ∧ c ≤ 63 := by
  have : u = 0 ∨ u = 1 ∨ u = 2 ∨ u = 3 := by omega
  rcases this with rfl | rfl | rfl | rfl
  · exact ⟨x, rfl, hx⟩
  · exact ⟨0, rfl, by decide, by decide⟩
  · exact ⟨63, rfl, by decide, by decide⟩
  · exact ⟨y, rfl, hy⟩
theorem ok_rowL (t : T K mg) : Ok P w K mg base 3 "_law_rule" ["state", "signs", "modes"] spRowL := by
  refine mkOk t.d_law_rule t.g_law_rule scRow (fun vs H Q E h => ?_) (fun _ _ _ _ _ _ us hl => match us, hl with | [_, _, _], _ => rfl) fun cdv A outer s H vs Q E hr h => ?_
  · obtain ⟨a, L, z, n, rfl, _⟩ := h; rfl
  obtain ⟨a, L, z, n, rfl, hS, gz, n0, n1, k⟩ := h
  have hr1 : Room 1 _ := hr.mono (by decide)
  refine ⟨_, pss_cons (ps_setLc (i := 3) (own := [("_law_turn", 6)]) (g := gName 6) (tt := tYes) (by rfl) scRow.nd rfl rfl (sw_true rfl rfl rfl (by decide +kernel)) (pi_range1 rfl t.f_range (pa_cons (pe_op op_add pe_int (pe_ok (ok_draw t) hr1 rfl (pa_cons (pv 0) (pa_cons pe_int pa_nil)))) pa_nil)) (blkOk_by (own := [("_law_turn", 6)]) (N := nsRow) (sc := defScope sLawRule) (by decide +kernel)) (fun _ _ _ _ _ => pg_name (i := 6) scRow.nd rfl (Or.inl rfl)) (fun _ _ _ _ _ => pts_nil)
      (fun _ _ _ _ _ => pe_ix (ix_listK (K := K) rfl) (pe_lst (pa_cons (pe_ok (ok_draw t) hr1 rfl (pa_cons (pv 0) (pa_cons pe_int pa_nil))) (pa_cons pe_int (pa_cons pe_int (pa_cons (pe_ok (ok_draw t) hr1 rfl (pa_cons (pv 0) (pa_cons pe_int pa_nil))) pa_nil))))) (pe_ok (ok_draw t) hr1 rfl (pa_cons (pv 0) (pa_cons pe_int pa_nil))) (fun _ _ => rfl)))
    (pss_cons (ps_set (i := 4) scRow.nd rfl (Or.inl rfl) (pe_ok (ok_nearL t) hr rfl (pa_cons (pv 0) (pa_cons (pv 1) (pa_cons pe_str pa_nil)))))
    (pss_cons (ps_set (i := 5) scRow.nd rfl (Or.inl rfl) (pe_ok (ok_nearL t) hr rfl (pa_cons (pv 0) (pa_cons (pv 1) (pa_cons pe_str pa_nil)))))
    (pss_one (ps_ret (pe_tup (pa_cons (pe_ok (ok_draw t) hr1 rfl (pa_cons (pv 0) (pa_cons (pv 2) pa_nil))) (pa_cons (pe_ok (ok_part t) hr rfl (pa_cons (pv 0) (pa_cons (pv 1) (pa_cons pe_int pa_nil)))) (pa_cons (pv 3) (pa_cons (pe_ok (ok_draw t) hr1 rfl (pa_cons (pv 0) (pa_cons (pv 2) pa_nil))) (pa_cons (pv 4) (pa_cons (pv 5) pa_nil))))))))))), ?_⟩
  have e94 : Str.ofString "^" = sg 94 := by decide +kernel
  have e36 : Str.ofString "$" = sg 36 := by decide +kernel
  refine ⟨_, rfl, a, L, 4, rfl, hS, by decide, by decide, fun v H1 v0 v1 S1 B1 => ?_⟩
  refine ⟨_, _, rfl, rfl, _, rfl, by omega, by omega, fun D hD => ?_⟩
  obtain ⟨oa, ha⟩ := S1.hasA
  obtain ⟨oL, hL⟩ := S1.hasL
  have naD : a ≠ D := ne_of_none ha hD
  have nLD : L ≠ D := ne_of_none hL hD
  have hD0 : H D = none := B1.none ha hD
  refine lc_range (lo := 0) (n := (1 + v).toNat) (fun i H' => (∃ cs : List Int, H' D = some (.lst (cs.map V.int)) ∧ cs.length = i ∧ ∀ c ∈ cs, 0 ≤ c ∧ c ≤ 63) ∧ St H' a L ∧ But a H1 H') ?_ ?_ ?_
  · exact ⟨⟨[], upd_same, rfl, fun c hc => by cases hc⟩, S1.write naD nLD, fun b o q hb => by rw [upd_ne (ne_of_none q hD)]; exact q⟩
  · rintro i H' hi ⟨⟨cs, hz, hcl, hcs⟩, S2, B2⟩
    refine ⟨rfl, ?_⟩
    refine ⟨_, rfl, a, L, 64, rfl, S2, by decide, by decide, fun x H3 x0 x1 S3 B3 => ?_⟩
    refine ⟨_, rfl, a, L, 4, rfl, S3, by decide, by decide, fun y H4 y0 y1 S4 B4 => ?_⟩
    refine ⟨by show 4 ≤ sizeLine; decide, fun p hp => ?_⟩
    refine ⟨_, rfl, a, L, 4, rfl, S4.same (Same.new hp), by decide, by decide, fun u H5 u0 u1 S5 B5 => ?_⟩
    obtain ⟨oa4, ha4⟩ := S4.hasA
    have nap : p ≠ a := fun q => by rw [q, ha4] at hp; cases hp
    have hp5 := B5 _ _ (upd_same (H := H4)) nap
    obtain ⟨c, hc, hc63⟩ := at4 x y u0 u1 ⟨x0, by omega⟩ ⟨y0, by omega⟩
    have hD5 : H5 D = some (.lst (cs.map V.int)) := by
      have q4 := B4 _ _ (B3 _ _ hz naD.symm) naD.symm
      exact B5 _ _ (by rw [upd_ne (ne_of_none q4 hp)]; exact q4) naD.symm
    refine ⟨p, _, u, _, rfl, rfl, SqL.of hp5, hc, _, hD5, ?_, ⟨cs ++ [c], ?_, ?_, fun d hd => ?_⟩, S5.write naD nLD, fun b o q hb => ?_⟩
    · rw [List.length_map, hcl]
      exact Nat.lt_of_le_of_lt (show i ≤ 4 by omega) (by decide)
    · rw [upd_same, map_snoc]
    · rw [List.length_append, hcl]; rfl
    · rw [List.mem_append, List.mem_singleton] at hd
      rcases hd with hd | hd
      · exact hcs d hd
      · rw [hd]; exact hc63
    · rw [upd_ne (ne_of_none q hD)]
      have q4 := B4 _ _ (B3 _ _ (B2 b o q hb) hb) hb
      exact B5 _ _ (by rw [upd_ne (ne_of_none q4 hp)]; exact q4) hb
  rintro H2 ⟨⟨cs, hz, hcl, hcs⟩, S2, B2⟩
  refine ⟨_, rfl, _, rfl, a, L, z, 94, by rw [e94]; rfl, S2, gz.l2, gz.nd, gz.n94, fun oA H3 gA S3 B3 => ?_⟩
  refine ⟨_, rfl, _, rfl, a, L, z, 36, by rw [e36]; rfl, S3, gz.l2, gz.nd, gz.n36, fun oB H4 gB S4 B4 => ?_⟩
  refine ⟨_, rfl, _, rfl, a, L, n, rfl, S4, n0, by omega, fun m1 H5 m10 m11 S5 B5 => ?_⟩
  refine ⟨_, rfl, _, rfl, a, L, z, 4, rfl, S5, gz.l1, gz.l2, by decide, by decide, fun x H6 gx S6 B6 => ?_⟩
  refine ⟨_, rfl, _, rfl, _, rfl, a, L, n, rfl, S6, n0, by omega, fun m2 H7 m20 m21 S7 B7 => ?_⟩
  refine ⟨_, rfl, _, rfl, by show 6 ≤ sizeLine; decide, fun p hp => ?_⟩
  have B27 : But a H2 H7 := B3.trans (B4.trans (B5.trans (B6.trans B7)))
  have B : But a H H7 := B1.trans (B2.trans B27)
  obtain ⟨o7, ha7⟩ := S7.hasA
  have hp0 : H p = none := B.none ha7 hp
  have hD7 := B27 _ _ hz naD.symm
  refine k _ ⟨m1, x, cs, m2, oA, oB⟩ _ ⟨⟨m10, m11⟩, gx, ⟨by show 1 ≤ cs.length; omega, by show cs.length ≤ 4; omega, hcs⟩, ⟨m20, m21⟩, gA, gB⟩ ⟨p, D, rfl, ?_, ?_⟩ (S7.same (Same.new hp)) (B.trans (But.of (Same.new hp)))
  · rw [fresh_of hp0]; exact upd_same
  · rw [fresh_of hD0, upd_ne (ne_of_none hD7 hp)]; exact hD7
end
end Sx

set_option Elab.async false
set_option linter.all false
set_option maxRecDepth 100000
set_option maxHeartbeats 1000000
namespace Sx
open PySem PySem.Spec PyProof.Rows L2 SxA
def everyL : List Nat := [97, 98, 32, 99, 34, 92, 61, 126, 48, 45]
structure GoodT (d : TD) : Prop where
  nt : sl d.signs ≠ []
  nd : (sl d.signs).Nodup
  all : ∀ c ∈ sl d.signs, c ∈ everyL
  modes : 1 ≤ d.modes ∧ d.modes ≤ 4
  few : d.rules.length ≤ 5
  rules : ∀ r ∈ d.rules, GoodR r d.signs d.modes
theorem nodup_len : ∀ {l m : List Nat}, l.Nodup → (∀ c ∈ l, c ∈ m) → l.length ≤ m.length
  | [], _, _, _ => Nat.zero_le _
  | c :: r, m, h, s => by
    rw [List.nodup_cons] at h
    have hc : c ∈ m := s c (.head _)
    have ih := nodup_len (l := r) (m := m.erase c) h.2 fun d hd => (List.mem_erase_of_ne fun q => h.1 (by rw [← q]; exact hd)).mpr (s d (.tail _ hd))
    have e := List.length_erase_of_mem hc
    have := List.length_pos_of_mem hc
    rw [List.length_cons]
    omega
theorem GoodT.z {d : TD} (g : GoodT d) : GoodZ d.signs := by
  have h := nodup_len g.nd g.all
  have e : everyL.length = 10 := rfl
  refine ⟨?_, by rw [sl_len]; omega, g.nd, fun q => absurd (g.all _ q) (by decide), fun q => absurd (g.all _ q) (by decide)⟩
  rw [sl_len]
  have := g.nt
  cases q : sl d.signs with
  | nil => exact absurd q this
  | cons a r => simp
def RowsL (H : Hp) (l : Addr) (rs : List RD) : Prop := ∃ vs, H l = some (.lst vs) ∧ vs.length = rs.length ∧ ∀ (i : Nat) v r, vs[i]? = some v → rs[i]? = some r → RowT H v r
theorem RowsL.same {H H' : Hp} {l : Addr} {rs : List RD} (h : RowsL H l rs) (s : Same H H') : RowsL H' l rs := by
  obtain ⟨vs, h1, h2, h3⟩ := h
  exact ⟨vs, s _ _ h1, h2, fun i v r a b => (h3 i v r a b).same s⟩
def PartsT (H : Hp) (v : V) (d : TD) : Prop := ∃ u l, v = .ref u ∧ H u = some (.tup [.str d.signs, .int d.modes, .ref l]) ∧ RowsL H l d.rules
theorem PartsT.same {H H' : Hp} {v : V} {d : TD} (h : PartsT H v d) (s : Same H H') : PartsT H' v d := by
  obtain ⟨u, l, e, h1, h2⟩ := h
  exact ⟨u, l, e, s _ _ h1, h2.same s⟩
def spParts : Sp := fun vs H Q _ => ∃ (a L : Addr), vs = [.ref a] ∧ St H a L ∧ ∀ v d H', GoodT d → PartsT (fresh H H') v d → St H' a L → But a H H' → Q v H'
def spTab (K : PySem.W.Frag) : Sp := fun vs H Q _ => ∃ (v : V) (d : TD), vs = [v] ∧ PartsT H v d ∧ d.rules.length ≤ 4000 ∧ ∀ v' H', Same H H' → TableO K (fresh H H') v' d → Q v' H'
def spRows (K : PySem.W.Frag) : Sp := fun vs H Q _ => ∃ (u : Addr) (xs : List V) (j : Nat) (x : V), vs = [.ref u, .int (j : Int), x] ∧ H u = some (.tup xs) ∧ j < xs.length ∧ ∀ p H', H p = none → Same H H' → H' p = some (.tup (xs.set j x)) → Q (.ref p) H'
section
variable {P : Program} {w : World} {K : PySem.W.Frag} {mg : Str → Option Value} {base : Heap}
abbrev nsParts : List Str := ["state", "every", "signs", "sign", "modes", "_law_turn"]
theorem scParts : FnScope nsParts ["state"] (defScope sLawParts) := ⟨rfl, rfl, rfl, by decide +kernel, rfl, by decide +kernel, by decide +kernel⟩
theorem ok_parts (t : T K mg) : Ok P w K mg base 4 "_law_parts" ["state"] spParts := by
  refine mkOk t.d_law_parts t.g_law_parts scParts (fun vs H Q E h => ?_) (fun _ _ _ _ _ _ us hl => match us, hl with | [_], _ => rfl) fun cdv A outer s H vs Q E hr h => ?_
  · obtain ⟨a, L, rfl, _⟩ := h; rfl
  obtain ⟨a, L, rfl, hS, k⟩ := h
  have hr1 : Room 1 _ := hr.mono (by decide)
  refine ⟨_, pss_cons (ps_set (i := 1) scParts.nd rfl (Or.inl rfl) pe_str)
    (pss_cons (ps_set (i := 2) scParts.nd rfl (Or.inr rfl) pe_str)
    (pss_cons (ps_for PassesOwn.never rfl (pi_str (pv 1)) (pg_name (i := 3) scParts.nd rfl (Or.inl rfl))
      (pss_one (ps_if (pt_cmpR op_eq (pe_ok (ok_draw t) hr1 rfl (pa_cons (pv 0) (pa_cons pe_int pa_nil))) pe_int (nomark _)) (pss_one (ps_set (i := 2) scParts.nd rfl (Or.inr rfl) (pe_op op_add_str (pv 2) (pv 3)))) pss_nil)))
    (C8.pss_cut (ps_set (i := 2) scParts.nd rfl (Or.inr rfl) (pe_orT (pv 2) (pe_one pe_str)))
    (pss_cons (ps_set (i := 4) scParts.nd rfl (Or.inr rfl) (pe_op op_add pe_int (pe_ok (ok_draw t) hr1 rfl (pa_cons (pv 0) (pa_cons pe_int pa_nil)))))
    (pss_one (ps_ret (pe_tup (pa_cons (pv 2) (pa_cons (pv 4) (pa_cons
      (pe_lc (own := [("_law_turn", 5)]) (g := gName 5) (tt := tYes) rfl scParts.nd (pi_range1 rfl t.f_range (pa_cons (pe_ok (ok_draw t) hr1 rfl (pa_cons (pv 0) (pa_cons pe_int pa_nil))) pa_nil)) (blkOk_by (own := [("_law_turn", 5)]) (N := nsParts) (sc := defScope sLawParts) (by decide +kernel)) (fun _ _ _ _ _ => pg_name (i := 5) scParts.nd rfl (Or.inl rfl)) (fun _ _ _ _ _ => pts_nil)
        (fun _ _ _ _ _ => pe_ok (ok_rowL t) hr rfl (pa_cons (pv 0) (pa_cons (pv 2) (pa_cons (pv 4) pa_nil))))) pa_nil)))))))))), ?_⟩
  have eE : sl (Str.ofString "ab c\"\\=~0-") = everyL := by decide +kernel
  refine ⟨_, rfl, _, rfl, ?_⟩
  refine for_signs (z := Str.ofString "ab c\"\\=~0-") (fun i σ' H' => (∃ (x : Str) (sv : Option V), σ' = [some (.ref a), some (.str (Str.ofString "ab c\"\\=~0-")), some (.str x), sv, none, none] ∧ (sl x).Sublist (everyL.take i)) ∧ St H' a L ∧ But a H H')
    ⟨⟨Str.ofString "", none, rfl, by rw [sl_mt]; exact List.nil_sublist _⟩, hS, But.refl _ _⟩ ?_ ?_
  · rintro i c σ' H' hc ⟨⟨x, sv, rfl, hx⟩, S2, B2⟩
    rw [eE] at hc
    have tk : everyL.take (i + 1) = everyL.take i ++ [c] := by rw [List.take_add_one, hc]; rfl
    refine ⟨_, rfl, a, L, 2, rfl, S2, by decide, by decide, fun u H3 u0 u1 S3 B3 => ?_⟩
    refine ⟨rfl, _, rfl, ?_⟩
    refine ite2 (fun h => ?_) (fun h => ⟨⟨x, _, rfl, by rw [tk]; exact hx.trans (List.sublist_append_left _ _)⟩, S3, B2.trans B3⟩)
    refine ⟨_, rfl, _, rfl, _, _, rfl, rfl, ?_, ⟨x ++ sg c, _, rfl, by rw [sl_app, sl_sg, tk]; exact hx.append (List.Sublist.refl _)⟩, S3, B2.trans B3⟩
    have := hx.length_le
    rw [List.length_take] at this
    have e10 : everyL.length = 10 := rfl
    show x.length + 1 ≤ sizeLine
    rw [sl_len]
    exact small4 (by omega)
  rintro σ' H0 ⟨⟨x, sv, rfl, hx⟩, S0, B0⟩
  rw [eE, List.take_length] at hx
  have xl := hx.length_le
  have e10 : everyL.length = 10 := rfl
  have ndE : everyL.Nodup := by decide
  refine ⟨fun σ' H' => (∃ z : Str, σ' = [some (.ref a), some (.str (Str.ofString "ab c\"\\=~0-")), some (.str z), sv, none, none] ∧ sl z ≠ [] ∧ (sl z).Nodup ∧ ∀ c ∈ sl z, c ∈ everyL) ∧ H' = H0, ?_, ?_⟩
  · refine ⟨_, rfl, _, ⟨by rw [sl_len]; exact small4 (by omega), rfl⟩, ?_⟩
    refine ite2 (fun h => ⟨⟨x, rfl, fun q => ?_, hx.nodup ndE, fun c hc => hx.subset hc⟩, rfl⟩) (fun h => ⟨⟨_, rfl, ?_, ?_, ?_⟩, rfl⟩)
    · rw [sl_len, q] at h
      exact absurd h (by decide)
    all_goals
      have ea : sl (Str.ofString "a") = [97] := by decide +kernel
      rw [ea]
    · simp
    · simp
    · intro c hc
      rw [List.mem_singleton] at hc
      rw [hc]
      decide
  rintro σ' H' ⟨⟨z, rfl, znt, znd, zall⟩, rfl⟩
  refine ⟨_, rfl, a, L, 4, rfl, S0, by decide, by decide, fun v H1 v0 v1 S1 B1 => ?_⟩
  refine ⟨_, _, rfl, rfl, ?_⟩
  refine ⟨_, rfl, _, rfl, _, rfl, a, L, 6, rfl, S1, by decide, by decide, fun u H2 u0 u1 S2 B2 => ?_⟩
  refine ⟨_, rfl, by omega, by omega, fun D hD => ?_⟩
  obtain ⟨oa, ha⟩ := S2.hasA
  obtain ⟨oL, hL⟩ := S2.hasL
  have naD : a ≠ D := ne_of_none ha hD
  have nLD : L ≠ D := ne_of_none hL hD
  have B02 : But a H H2 := B0.trans (B1.trans B2)
  have hD0 : H D = none := B02.none ha hD
  have gz : GoodZ z := (GoodT.z (d := ⟨z, 1, []⟩) ⟨znt, znd, zall, ⟨by show (1 : Int) ≤ 1; decide, by show (1 : Int) ≤ 4; decide⟩, by show 0 ≤ 5; decide, fun r hr => absurd hr List.not_mem_nil⟩)
  refine lc_range (lo := 0) (n := u.toNat) (fun i H' => (∃ (ys : List V) (rs : List RD), H' D = some (.lst ys) ∧ ys.length = i ∧ rs.length = i ∧ (∀ r ∈ rs, GoodR r z (1 + v)) ∧ ∀ (j : Nat) y r, ys[j]? = some y → rs[j]? = some r → RowT (fresh H2 (off D H')) y r) ∧ St H' a L ∧ But a H2 H') ?_ ?_ ?_
  · exact ⟨⟨[], [], upd_same, rfl, rfl, fun r hr => absurd hr List.not_mem_nil, fun (j : Nat) (y : V) (r : RD) (h : ([] : List V)[j]? = some y) _ => by simp at h⟩, S2.write naD nLD, fun b o q hb => by rw [upd_ne (ne_of_none q hD)]; exact q⟩
  · rintro i H' hi ⟨⟨ys, rs, hz, hyl, hrl, hgood, hrow⟩, S3, B3⟩
    refine ⟨rfl, ?_⟩
    refine ⟨_, rfl, _, rfl, _, rfl, a, L, z, 1 + v, rfl, S3, gz, by omega, by omega, fun y r H4 gr hr4 S4 B4 => ?_⟩
    have hz4 := B4 _ _ hz naD.symm
    refine ⟨ys, hz4, ?_, ⟨ys ++ [y], rs ++ [r], upd_same, by rw [List.length_append, hyl]; rfl, by rw [List.length_append, hrl]; rfl, fun q hq => ?_, fun j y' r' hj hj' => ?_⟩, S4.write naD nLD, fun b o q hb => ?_⟩
    · rw [hyl]
      exact Nat.lt_of_le_of_lt (show i ≤ 6 by omega) (by decide)
    · rw [List.mem_append, List.mem_singleton] at hq
      rcases hq with hq | hq
      · exact hgood q hq
      · rw [hq]; exact gr
    · rw [off_put]
      by_cases hji : j < i
      · rw [List.getElem?_append_left (by omega)] at hj hj'
        refine (hrow j y' r' hj hj').same fun b o e => ?_
        obtain ⟨h1, h2⟩ := fresh_some e
        obtain ⟨h3, h4⟩ := off_some h2
        rw [fresh_of h1, off_ne h3]
        exact B4 _ _ h4 fun q => by rw [q, ha] at h1; cases h1
      · rw [List.getElem?_append_right (by omega)] at hj hj'
        have hj0 : j - ys.length = 0 := by
          have := (List.getElem?_eq_some_iff.mp hj).1
          rw [List.length_singleton] at this
          omega
        rw [hj0] at hj
        rw [show j - rs.length = 0 by omega] at hj'
        obtain rfl : y = y' := Option.some.inj hj
        obtain rfl : r = r' := Option.some.inj hj'
        refine hr4.same fun b o e => ?_
        obtain ⟨h1, h2⟩ := fresh_some e
        have hb : b ≠ D := fun q => by rw [q, hz] at h1; cases h1
        obtain ⟨o3, ha3⟩ := S3.hasA
        rw [fresh_of (B3.none ha3 h1), off_ne hb]
        exact h2
    · rw [upd_ne (ne_of_none q hD)]
      exact B4 _ _ (B3 b o q hb) hb
  rintro H' ⟨⟨ys, rs, hz, hyl, hrl, hgood, hrow⟩, S3, B3⟩
  refine ⟨by show 3 ≤ sizeLine; decide, fun p hp => ?_⟩
  have B : But a H H' := B02.trans B3
  obtain ⟨o3, ha3⟩ := S3.hasA
  have hp0 : H p = none := B.none ha3 hp
  have nDp : D ≠ p := ne_of_none hz hp
  refine k _ ⟨z, 1 + v, rs⟩ _ ⟨znt, znd, zall, ⟨by show 1 ≤ 1 + v; omega, by show 1 + v ≤ 4; omega⟩, by show rs.length ≤ 5; omega, hgood⟩ ⟨p, D, rfl, ?_, ys, ?_, by rw [hyl, hrl], fun j y r hj hj' => ?_⟩ (S3.same (Same.new hp)) (B.trans (But.of (Same.new hp)))
  · rw [fresh_of hp0]; exact upd_same
  · rw [fresh_of hD0, upd_ne nDp]; exact hz
  · refine (hrow j y r hj hj').same fun b o e => ?_
    obtain ⟨h1, h2⟩ := fresh_some e
    obtain ⟨h3, h4⟩ := off_some h2
    rw [fresh_of (B02.none ha h1), upd_ne (ne_of_none h4 hp)]
    exact h4
end
end Sx

set_option Elab.async false
set_option linter.all false
set_option maxRecDepth 100000
set_option maxHeartbeats 1000000
namespace Sx
open PySem PySem.Spec PyProof.Rows L2 SxA
section
variable {P : Program} {w : World} {K : PySem.W.Frag} {mg : Str → Option Value} {base : Heap}
theorem scTab : FnScope ["parts", "rules", "row"] ["parts"] (defScope sLawTable) := ⟨rfl, rfl, rfl, by decide +kernel, rfl, by decide +kernel, by decide +kernel⟩
theorem ok_tab (t : T K mg) : Ok P w K mg base 6 "_law_table" ["parts"] (spTab K) := by
  obtain ⟨fd, F, _, kb⟩ := ok_rule (P := P) (w := w) (base := base) t
  obtain ⟨fdT, FT, bT⟩ := ok_table (P := P) (w := w) (base := base) t
  refine mkOk t.d_law_table t.g_law_table scTab (fun vs H Q E h => ?_) (fun _ _ _ _ _ _ us hl => match us, hl with | [_], _ => rfl) fun cdv A outer s H vs Q E hr h => ?_
  · obtain ⟨v, d, rfl, _⟩ := h; rfl
  obtain ⟨v, d, rfl, ⟨u, l, rfl, hu, ⟨vs, hl, hlen, hrow⟩⟩, hsz, k⟩ := h
  have hr2 : Room 2 _ := hr.mono (by decide)
  refine ⟨_, pss_cons (ps_setLc (i := 1) (own := [("row", 2)]) (g := gName 2) (tt := tYes) (by rfl) scTab.nd rfl rfl (sw_true rfl rfl rfl (by decide +kernel)) (pi_list (pe_ix ix_tup (pv 0) pe_int (fun _ _ => rfl))) (blkOk_by (own := [("row", 2)]) (N := ["parts", "rules", "row"]) (sc := defScope sLawTable) (by decide +kernel)) (fun _ _ _ _ _ => pg_name (i := 2) scTab.nd rfl (Or.inl rfl)) (fun _ _ _ _ _ => pts_nil)
      (fun _ _ _ _ _ => pe_makeK (n := 4) (ks := ["ahead", "behind"]) t.m_Rule F hr2 rfl t.g_Rule kb pass0 (pa_cons (pe_ix (ix_tupK (K := K) rfl) (pv 2) pe_int (fun _ _ => rfl)) (pa_cons (pe_ix (ix_tupK (K := K) rfl) (pv 2) pe_int (fun _ _ => rfl)) (pa_cons (pe_ix (ix_tupK (K := K) rfl) (pv 2) pe_int (fun _ _ => rfl)) (pa_cons (pe_ix (ix_tupK (K := K) rfl) (pv 2) pe_int (fun _ _ => rfl)) pa_nil))))
        (pk_cons (pe_ix (ix_tupK (K := K) rfl) (pv 2) pe_int (fun _ _ => rfl)) (pk_cons (pe_ix (ix_tupK (K := K) rfl) (pv 2) pe_int (fun _ _ => rfl)) pk_nil))))
    (pss_one (ps_ret (pe_make t.m_Table FT hr rfl t.g_Table bT .nil pass0 (pa_cons (pe_ix ix_tup (pv 0) pe_int (fun _ _ => rfl)) (pa_cons (pe_ix ix_tup (pv 0) pe_int (fun _ _ => rfl)) (pa_cons (pv 1) pa_nil)))))), ?_⟩
  refine ⟨_, rfl, u, _, _, _, rfl, rfl, SqT.of hu, rfl, l, rfl, ⟨_, SqL.of hl⟩, fun D hD => ?_⟩
  have hlen' : vs.length ≤ sizeLine := by rw [hlen]; exact small4 hsz
  refine lc_rel (K := K) (fun i v G => ∃ r, d.rules[i]? = some r ∧ RuleO K G v r) (fun i v G G' ⟨r, e, o⟩ s => ⟨r, e, o.same s⟩) hD (SqL.of hl) hlen' (fun _ => rfl) (fun i x H3 Q3 acc hx sm hacc k3 => ?_) (fun H3 ys sm hD3 hly hry => ?_)
  · have li : i < d.rules.length := by rw [← hlen]; exact (List.getElem?_eq_some_iff.mp hx).1
    have hri : d.rules[i]? = some d.rules[i] := List.getElem?_eq_getElem li
    obtain ⟨b, m, rfl, hb, hm⟩ := (hrow i x _ hx hri).same sm
    generalize d.rules[i] = r at hri hb hm
    refine ⟨_, rfl, b, _, _, _, rfl, rfl, SqT.of hb, rfl, ?_⟩
    refine ⟨_, rfl, b, _, _, _, rfl, rfl, SqT.of hb, rfl, ?_⟩
    refine ⟨_, rfl, b, _, _, _, rfl, rfl, SqT.of hb, rfl, ?_⟩
    refine ⟨_, rfl, b, _, _, _, rfl, rfl, SqT.of hb, rfl, ?_⟩
    refine ⟨_, rfl, b, _, _, _, rfl, rfl, SqT.of hb, rfl, ?_⟩
    refine ⟨_, rfl, b, _, _, _, rfl, rfl, SqT.of hb, rfl, ?_⟩
    refine ⟨rfl, rfl, fun y dy hy hdy ney => ?_⟩
    have s1 : Same H3 (upd (upd H3 dy (.own y)) y (.ins (He.ga K "Rule") dy [])) := fun b o e => by
      rw [upd_ne (ne_of_none e hy), upd_ne (ne_of_none e hdy)]
      exact e
    refine ⟨y, dy, m, r, rfl, upd_same, SqL.of (s1 _ _ hm), fun H' l' hl' h1 h2 fr => ⟨rfl, ?_⟩⟩
    have s2 : Same H3 H' := Same.made hy hdy fr
    refine k3 _ H' s2 ⟨r, hri, y, dy, l', rfl, ?_, ?_⟩
    · rw [fresh_of hy]; exact h1
    · rw [fresh_of (Sx.Same.none s1 _ hl')]; exact h2
  · have hu3 := sm _ _ hu
    refine ⟨_, rfl, u, _, _, _, rfl, rfl, SqT.of hu3, rfl, ?_⟩
    refine ⟨_, rfl, u, _, _, _, rfl, rfl, SqT.of hu3, rfl, ?_⟩
    refine ⟨_, rfl, fun x dx hx hdx nex => ?_⟩
    have s1 : Same H3 (upd (upd H3 dx (.own x)) x (.ins (He.ga K "Table") dx [])) := fun b o e => by
      rw [upd_ne (ne_of_none e hx), upd_ne (ne_of_none e hdx)]
      exact e
    have hR : RulesL K H3 D d.rules := ⟨ys, hD3, by rw [hly, hlen], fun i v r a b => by
      obtain ⟨r', e', o'⟩ := hry i v a
      obtain rfl : r' = r := Option.some.inj (e'.symm.trans b)
      exact (o'.same fresh_le).same off_le⟩
    refine ⟨x, dx, D, d, rfl, upd_same, hR.same s1, hsz, fun H' l' hl' h1 h2 fr => ⟨rfl, ?_⟩⟩
    have s2 : Same H3 H' := Same.made hx hdx fr
    refine k _ H' (sm.trans s2) ⟨x, dx, l', rfl, ?_, h2.same (fresh_up (fun b hb => Sx.Same.none (sm.trans s1) b hb) (Same.refl _))⟩
    rw [fresh_of (Sx.Same.none sm _ hx)]
    exact h1
theorem scRows : FnScope ["rule", "at", "value", "row"] ["rule", "at", "value"] (defScope sLawRows) := ⟨rfl, rfl, rfl, by decide +kernel, rfl, by decide +kernel, by decide +kernel⟩
theorem ixN_nat {n j : Nat} (h : j < n) : ixN n (j : Int) = some j := by
  unfold ixN
  rw [if_pos (by omega), if_pos (by omega)]
  rfl
theorem ok_rows (t : T K mg) : Ok P w K mg base 1 "_law_rows" ["rule", "at", "value"] (spRows K) := by
  refine mkOk t.d_law_rows t.g_law_rows scRows (fun vs H Q E h => ?_) (fun _ _ _ _ _ _ us hl => match us, hl with | [_, _, _], _ => rfl) fun cdv A outer s H vs Q E hr h => ?_
  · obtain ⟨u, xs, j, x, rfl, _⟩ := h; rfl
  obtain ⟨u, xs, j, x, rfl, hu, hj, k⟩ := h
  refine ⟨_, pss_cons (ps_set (i := 3) scRows.nd rfl (Or.inl rfl) (pe_callTy call_list_of rfl t.f_list (by decide +kernel) (pa_cons (pv 0) pa_nil)))
    (pss_cons (ps_asg (pv 2) (pg_sub (pv 3) (pv 1) set_list)) (pss_one (ps_ret (pe_callTy call_tuple_of rfl t.f_tuple (by decide +kernel) (pa_cons (pv 3) pa_nil))))), ?_⟩
  refine ⟨_, rfl, u, xs, rfl, .inr (SqT.of hu), fun l hl => ?_⟩
  refine ⟨_, rfl, _, rfl, _, rfl, l, xs, _, j, rfl, rfl, upd_same, ixN_nat hj, ?_⟩
  refine ⟨_, rfl, l, _, rfl, .inl ⟨SqL.of upd_same, fun p hp => ?_⟩⟩
  have nlp : l ≠ p := fun q => by rw [← q, upd_same] at hp; cases hp
  have hp0 : H p = none := by rw [upd_ne nlp.symm, upd_ne nlp.symm] at hp; exact hp
  refine k p _ hp0 (fun b o e => ?_) upd_same
  rw [upd_ne (ne_of_none e hp0), upd_ne (ne_of_none e hl), upd_ne (ne_of_none e hl)]
  exact e
end
end Sx

set_option Elab.async false
set_option linter.all false
set_option maxRecDepth 100000
set_option maxHeartbeats 1000000
namespace Sx
open PySem PySem.Spec PyProof.Rows L2 SxA
/-! ### good ones are let by -/
theorem GoodN.ok {o : Option Str} {z : Str} {e : Nat} (g : GoodN o z e) : nearB o z e = true := by
  cases o with
  | none => rfl
  | some t =>
    obtain ⟨h1, h2, h3, _⟩ := g t rfl
    unfold nearB diffB
    simp only [Bool.and_eq_true, decide_eq_true_eq, List.all_eq_true, Bool.or_eq_true]
    exact ⟨h1, h2, h3⟩
theorem GoodX.ok {x z : Str} (g : GoodX x z 4) : textB x z = true := by
  obtain ⟨h1, h2, h3⟩ := g
  unfold textB
  simp only [Bool.and_eq_true, decide_eq_true_eq, List.all_eq_true]
  exact ⟨⟨by omega, h2⟩, h3⟩
theorem GoodR.ok {r : RD} {z : Str} {n : Int} (g : GoodR r z n) : ruleB r z n = true := by
  obtain ⟨h1, h2, ⟨h3, h4, h5⟩, h6, h7, h8⟩ := g
  unfold ruleB modeB cellsB
  rw [h2.ok, h7.ok, h8.ok]
  simp only [Bool.and_eq_true, decide_eq_true_eq, List.all_eq_true, cellB, Bool.true_and, Bool.and_true]
  exact ⟨h1, ⟨⟨by omega, by omega⟩, h5⟩, h6⟩
theorem every_good : ∀ c ∈ everyL, goodB c = true := by decide
theorem GoodT.signs {d : TD} (g : GoodT d) : signsB d.signs = true := by
  have gz := g.z
  have h := nodup_len g.nd g.all
  have e : everyL.length = 10 := rfl
  have l1 := gz.l1
  unfold signsB diffB
  rw [sl_len]
  rw [sl_len] at l1
  simp only [Bool.and_eq_true, decide_eq_true_eq, List.all_eq_true]
  exact ⟨⟨by omega, by omega⟩, g.nd, fun c hc => every_good c (g.all c hc)⟩
theorem GoodT.many {d : TD} (g : GoodT d) : manyB d.modes = true := by
  obtain ⟨h1, h2⟩ := g.modes
  unfold manyB
  simp only [Bool.and_eq_true, decide_eq_true_eq]
  exact ⟨h1, h2⟩
theorem GoodT.ok {d : TD} (g : GoodT d) : letB d = true := by
  unfold letB
  rw [g.signs, g.many]
  have := g.few
  simp only [Bool.true_and, Bool.and_eq_true, decide_eq_true_eq, List.all_eq_true]
  exact ⟨by omega, fun r hr => (g.rules r hr).ok⟩
theorem let_more {d : TD} (g : GoodT d) (r : RD) : letB ⟨d.signs, d.modes, d.rules ++ [r]⟩ = ruleB r d.signs d.modes := by
  unfold letB
  rw [g.signs, g.many]
  have h1 : decide (((d.rules ++ [r]).length : Int) ≤ 80) = true := by
    rw [List.length_append]
    have := g.few
    simp
    omega
  have h2 : d.rules.all (fun r => ruleB r d.signs d.modes) = true := List.all_eq_true.mpr fun r hr => (g.rules r hr).ok
  simp only [h1, Bool.true_and, List.all_append, h2, List.all_cons, List.all_nil, Bool.and_true]
/-! ### the changes -/
def good (c : Nat) : RD := ⟨0, sg c, [1], 0, none, none⟩
theorem good_text {z : Str} {c : Nat} (h : c ∈ sl z) : textB (sg c) z = true := by
  unfold textB
  rw [sl_sg]
  simp only [Bool.and_eq_true, decide_eq_true_eq, List.all_eq_true, List.mem_singleton]
  exact ⟨⟨by show ((1 : Nat) : Int) ≥ 1; decide, by show ((1 : Nat) : Int) ≤ 4; decide⟩, fun d hd => by rw [hd]; exact h⟩
theorem mode0 {n : Int} (h : 1 ≤ n) : modeB 0 n = true := by
  unfold modeB
  simp only [Bool.and_eq_true, decide_eq_true_eq]
  omega
theorem mode_n (n : Int) : modeB n n = false := by
  unfold modeB
  simp
theorem mode_m (n : Int) : modeB (-1) n = false := by
  unfold modeB
  simp
theorem rule_mode {z : Str} {c : Nat} {n m : Int} : modeB m n = false → ruleB ⟨m, sg c, [1], 0, none, none⟩ z n = false := fun h => by
  unfold ruleB
  rw [show ({ mode := m, text := sg c, cells := [1], to := 0, ahead := none, behind := none } : RD).mode = m from rfl, h]
  rfl
theorem rule_to {z : Str} {c : Nat} {n m : Int} : modeB m n = false → ruleB ⟨0, sg c, [1], m, none, none⟩ z n = false := fun h => by
  unfold ruleB
  rw [show ({ mode := 0, text := sg c, cells := [1], to := m, ahead := none, behind := none } : RD).to = m from rfl, h]
  simp
theorem rule_text {z x : Str} {n : Int} (hn : 1 ≤ n) : ruleB ⟨0, x, [1], 0, none, none⟩ z n = textB x z := by
  unfold ruleB
  show (modeB 0 n && (textB x z && (cellsB [1] && (modeB 0 n && (nearB none z 94 && nearB none z 36))))) = _
  rw [mode0 hn]
  have e : cellsB [1] = true := by decide
  rw [e]
  simp [nearB]
theorem rule_cells {z : Str} {c : Nat} {n : Int} {cs : List Int} (hn : 1 ≤ n) (hc : c ∈ sl z) : ruleB ⟨0, sg c, cs, 0, none, none⟩ z n = cellsB cs := by
  unfold ruleB
  show (modeB 0 n && (textB (sg c) z && (cellsB cs && (modeB 0 n && (nearB none z 94 && nearB none z 36))))) = _
  rw [mode0 hn, good_text hc]
  simp [nearB]
theorem rule_ahead {z x : Str} {c : Nat} {n : Int} (hn : 1 ≤ n) (hc : c ∈ sl z) : ruleB ⟨0, sg c, [1], 0, some x, none⟩ z n = nearB (some x) z 94 := by
  unfold ruleB
  show (modeB 0 n && (textB (sg c) z && (cellsB [1] && (modeB 0 n && (nearB (some x) z 94 && nearB none z 36))))) = _
  have e : cellsB [1] = true := by decide
  rw [mode0 hn, good_text hc, e]
  simp [nearB]
theorem rule_behind {z x : Str} {c : Nat} {n : Int} (hn : 1 ≤ n) (hc : c ∈ sl z) : ruleB ⟨0, sg c, [1], 0, none, some x⟩ z n = nearB (some x) z 36 := by
  unfold ruleB
  show (modeB 0 n && (textB (sg c) z && (cellsB [1] && (modeB 0 n && (nearB none z 94 && nearB (some x) z 36))))) = _
  have e : cellsB [1] = true := by decide
  rw [mode0 hn, good_text hc, e]
  simp [nearB]
theorem mul4 (c : Nat) : sl (Txt.mul (sg c) 4) = [c, c, c, c] := rfl
theorem mul5 (c : Nat) : sl (Txt.mul (sg c) 5) = [c, c, c, c, c] := rfl
theorem ne_sl {a b : Str} (h : sl a ≠ sl b) : decide (a = b) = false := decide_eq_false fun q => h (by rw [q])
theorem text_len {x z : Str} (h : ¬ (1 ≤ (sl x).length ∧ (sl x).length ≤ 4)) : textB x z = false := by
  unfold textB
  rw [sl_len]
  by_cases h1 : 1 ≤ (sl x).length
  · have h2 : ¬ ((sl x).length : Int) ≤ 4 := by omega
    rw [decide_eq_false h2]
    simp
  · have h2 : ¬ (1 : Int) ≤ ((sl x).length : Int) := by omega
    rw [decide_eq_false h2]
    simp
theorem text_not {x z : Str} {d : Nat} (h : d ∈ sl x) (hz : d ∉ sl z) : textB x z = false := by
  unfold textB
  have e : ((sl x).all fun c => decide (c ∈ sl z)) = false := by
    refine Bool.eq_false_iff.mpr fun q => ?_
    exact hz (of_decide_eq_true (List.all_eq_true.mp q d h))
  rw [e, Bool.and_false]
theorem near_not {x z : Str} {d e : Nat} (h : d ∈ sl x) (hz : d ∉ sl z) (hd : d ≠ e) : nearB (some x) z e = false := by
  unfold nearB
  have q : ((sl x).all fun c => decide (c ∈ sl z) || decide (c = e)) = false := by
    refine Bool.eq_false_iff.mpr fun q => ?_
    have := List.all_eq_true.mp q d h
    rw [decide_eq_false hz, decide_eq_false hd] at this
    cases this
  simp only [q, Bool.and_false]
theorem near_mt {z : Str} {e : Nat} {x : Str} (h : sl x = []) : nearB (some x) z e = false := by
  unfold nearB
  simp [h]
theorem near_dup {x z : Str} {e : Nat} (h : ¬ (sl x).Nodup) : nearB (some x) z e = false := by
  unfold nearB diffB
  simp only [decide_eq_false h, Bool.false_and, Bool.and_false]
theorem signs_dup {z : Str} (h : ¬ (sl z).Nodup) : signsB z = false := by
  unfold signsB diffB
  simp only [decide_eq_false h, Bool.false_and, Bool.and_false]
theorem signs_bad {z : Str} {c : Nat} (h : c ∈ sl z) (hc : goodB c = false) : signsB z = false := by
  unfold signsB
  have q : (sl z).all goodB = false := by
    refine Bool.eq_false_iff.mpr fun q => ?_
    rw [List.all_eq_true.mp q c h] at hc
    cases hc
  simp only [q, Bool.and_false]
theorem let_signs {z : Str} {n : Int} {rs : List RD} (h : signsB z = false) : letB ⟨z, n, rs⟩ = false := by
  unfold letB
  rw [show (⟨z, n, rs⟩ : TD).signs = z from rfl, h]
  rfl
theorem let_many {z : Str} {n : Int} {rs : List RD} (h : manyB n = false) : letB ⟨z, n, rs⟩ = false := by
  unfold letB
  rw [show (⟨z, n, rs⟩ : TD).modes = n from rfl, h]
  simp
/-! ### data compared -/
def okS (x : Str) : Prop := ∀ c ∈ sl x, c < 1114112
def okO (o : Option Str) : Prop := ∀ t, o = some t → okS t
structure RD.lay (r : RD) : Prop where
  text : okS r.text
  ahead : okO r.ahead
  behind : okO r.behind
structure TD.lay (d : TD) : Prop where
  signs : okS d.signs
  rules : ∀ r ∈ d.rules, r.lay
def pO : Option Str → PyData
  | none => .none
  | some t => .str t
def pyR (r : RD) : PyData := .tuple [.int r.mode, .str r.text, pInts r.cells, .int r.to, pO r.ahead, pO r.behind]
def pyT (d : TD) : PyData := .tuple [.str d.signs, .int d.modes, .list (d.rules.map pyR)]
theorem lay_str {x : Str} (h : okS x) : PyData.canLay0 (.str x) = true := by
  rw [PyData.canLay0]
  unfold PyData.strOk
  rw [← Array.all_toList]
  exact List.all_eq_true.mpr fun c hc => decide_eq_true (h c hc)
theorem lay_o {o : Option Str} (h : okO o) : PyData.canLay0 (pO o) = true := by
  cases o with
  | none => rfl
  | some t => exact lay_str (h t rfl)
theorem lay_r {r : RD} (h : r.lay) : PyData.canLay0 (pyR r) = true := by
  unfold pyR
  have e : PyData.canLay0 (pInts r.cells) = true := by unfold pInts; rw [PyData.canLay0]; exact lay_ints _
  have ei : ∀ i : Int, PyData.canLay0 (.int i) = true := fun _ => rfl
  rw [PyData.canLay0]
  simp only [PyData.canLayAll0, ei, lay_str h.text, e, lay_o h.ahead, lay_o h.behind, Bool.and_self]
theorem lay_rs : ∀ rs : List RD, (∀ r ∈ rs, r.lay) → PyData.canLayAll0 (rs.map pyR) = true
  | [], _ => rfl
  | r :: rs, h => by
    rw [List.map_cons, PyData.canLayAll0, lay_r (h r (.head _)), lay_rs rs fun q hq => h q (.tail _ hq)]
    rfl
theorem dep_o (o : Option Str) : PyData.depth (pO o) = 0 := by cases o <;> rfl
theorem dep_r (r : RD) : PyData.depth (pyR r) ≤ 3 := by
  unfold pyR
  have e : PyData.depth (pInts r.cells) ≤ 2 := by
    unfold pInts
    rw [PyData.depth]
    have := dep_ints r.cells
    omega
  have ei : ∀ i : Int, PyData.depth (.int i) = 0 := fun _ => rfl
  have es : ∀ i : Str, PyData.depth (.str i) = 0 := fun _ => rfl
  rw [PyData.depth]
  simp only [PyData.depthAll, dep_o, ei, es]
  omega
theorem dep_rs : ∀ rs : List RD, PyData.depthAll (rs.map pyR) ≤ 3
  | [] => Nat.zero_le _
  | r :: rs => by
    rw [List.map_cons, PyData.depthAll]
    exact Nat.max_le.mpr ⟨dep_r r, dep_rs rs⟩
theorem shaped_t {d : TD} (h : d.lay) : SeqAt.shaped (pyT d) = true := by
  unfold SeqAt.shaped pyT
  have ei : ∀ i : Int, PyData.canLay0 (.int i) = true := fun _ => rfl
  have el : PyData.canLay0 (.list (d.rules.map pyR)) = true := by rw [PyData.canLay0]; exact lay_rs _ h.rules
  have di : ∀ i : Int, PyData.depth (.int i) = 0 := fun _ => rfl
  have ds : ∀ i : Str, PyData.depth (.str i) = 0 := fun _ => rfl
  have dl : PyData.depth (.list (d.rules.map pyR)) ≤ 4 := by
    rw [PyData.depth]
    have := dep_rs d.rules
    omega
  rw [PyData.canLay0, PyData.depth]
  simp only [PyData.canLayAll0, ei, lay_str h.signs, el, Bool.and_self, Bool.true_and, PyData.depthAll, di, ds, decide_eq_true_eq]
  omega
theorem eqv_o (a b : Option Str) : PyData.eqv (pO a) (pO b) = decide (a = b) := by
  cases a with
  | none => cases b <;> simp [pO, PyData.eqv]
  | some x =>
    cases b with
    | none => simp [pO, PyData.eqv]
    | some y =>
      simp only [pO, PyData.eqv, Option.some.injEq]
      by_cases h : x = y
      · subst h; simp
      · rw [decide_eq_false h]
        exact beq_eq_false_iff_ne.mpr h
theorem beq_dec {α : Type} [DecidableEq α] [BEq α] [LawfulBEq α] (x y : α) : (x == y) = decide (x = y) := by
  by_cases h : x = y
  · subst h; simp
  · rw [decide_eq_false h]
    exact beq_eq_false_iff_ne.mpr h
theorem eqv_r (r r' : RD) : PyData.eqv (pyR r) (pyR r') = decide (r = r') := by
  rw [rd_eq]
  unfold pyR
  rw [PyData.eqv]
  simp only [PyData.eqvAll, eqv_ints, eqv_o]
  simp only [PyData.eqv, beq_dec, Bool.and_true]
theorem eqv_rs : ∀ rs rs' : List RD, PyData.eqvAll (rs.map pyR) (rs'.map pyR) = decide (rs = rs')
  | [], [] => rfl
  | [], r :: rs => by simp [PyData.eqvAll]
  | r :: rs, [] => by simp [PyData.eqvAll]
  | r :: rs, r' :: rs' => by
    rw [List.map_cons, List.map_cons, PyData.eqvAll, eqv_r, eqv_rs rs rs']
    by_cases h : r = r'
    · subst h; simp
    · simp [h]
theorem eqv_t (d d' : TD) : PyData.eqv (pyT d) (pyT d') = decide (d = d') := by
  rw [td_eq]
  unfold pyT
  rw [PyData.eqv]
  simp only [PyData.eqvAll]
  rw [PyData.eqv, PyData.eqv, PyData.eqv, eqv_rs]
  simp only [beq_dec, Bool.and_true]
theorem dp_o (K : PySem.W.Frag) (H : Hp) (o : Option Str) : Dp K H (oV o) (pO o) := by
  cases o with
  | none => exact .non
  | some t => exact .str t
theorem dp_r {K : PySem.W.Frag} {H : Hp} {v : V} {r : RD} (h : RowT H v r) : Dp K H v (pyR r) := by
  obtain ⟨u, l, rfl, h1, h2⟩ := h
  exact .tup (SqT.of h1) (.cons (.int _) (.cons (.str _) (.cons (dp_ints (SqL.of h2)) (.cons (.int _) (.cons (dp_o _ _ _) (.cons (dp_o _ _ _) .nil))))))
theorem dp_rs {K : PySem.W.Frag} {H : Hp} : ∀ {vs : List V} {rs : List RD}, vs.length = rs.length → (∀ (i : Nat) v r, vs[i]? = some v → rs[i]? = some r → RowT H v r) → DpAll K H vs (rs.map pyR)
  | [], [], _, _ => .nil
  | [], _ :: _, h, _ => by simp at h
  | _ :: _, [], h, _ => by simp at h
  | v :: vs, r :: rs, h, q => .cons (dp_r (q 0 v r rfl rfl)) (dp_rs (by simpa using h) fun i v' r' a b => q (i + 1) v' r' (by simpa using a) (by simpa using b))
theorem dp_t {K : PySem.W.Frag} {H : Hp} {v : V} {d : TD} (h : PartsT H v d) : Dp K H v (pyT d) := by
  obtain ⟨u, l, rfl, h1, vs, h2, h3, h4⟩ := h
  exact .tup (SqT.of h1) (.cons (.str _) (.cons (.int _) (.cons (.lst (SqL.of h2) (dp_rs h3 h4)) .nil)))
end Sx

set_option Elab.async false
set_option linter.all false
set_option maxRecDepth 100000
set_option maxHeartbeats 2000000
namespace Sx
open PySem PySem.Spec PyProof.Rows L2 SxA
def spCh : Sp := fun vs H Q _ => ∃ (a L : Addr) (v : V) (d : TD), vs = [.ref a, v] ∧ St H a L ∧ PartsT (off a H) v d ∧ GoodT d ∧
  ∀ p u d' H', H' p = some (.tup [u, .bl (letB d')]) → PartsT (off a H') u d' → d'.sz → d'.lay → St H' a L → But a H H' → Q (.ref p) H'
abbrev nsCh : List Str := ["state", "parts", "signs", "modes", "rules", "good", "pick", "count", "text", "cells", "many"]
theorem scCh : FnScope nsCh ["state", "parts"] (defScope sLawChanged) := ⟨rfl, rfl, rfl, by decide +kernel, rfl, by decide +kernel, by decide +kernel⟩
section
variable {P : Program} {w : World} {K : PySem.W.Frag} {mg : Str → Option Value} {base : Heap}
theorem rd_pick {G : Hp} {σ : L2.St} {a L : Addr} {xs : List V} {n : Int} {ta : TA} {Q : VK} (h0 : σ[0]? = some (some (.ref a))) (S : St G a L) (n0 : 0 < n) (n1 : n < 1073741824) (hx : ∀ Q : List V → Hp → Prop, Q xs G → ta σ G Q) (hz : xs.length ≤ sizeLine)
    (h : ∀ u H3, 0 ≤ u → u < n → St H3 a L → But a G H3 → ∃ v, atI xs u = some v ∧ Q v H3) : tOp (rIxL K) (tLst ta) (tCall spDraw [] E0 (tCons (tVar 0) (tCons (tC (.int n)) tNil))) σ G Q := by
  refine hx _ ⟨hz, fun p hp => ?_⟩
  refine ⟨_, h0, a, L, n, rfl, S.same (Same.new hp), n0, n1, fun u H3 u0 u1 S3 B3 => ?_⟩
  obtain ⟨v, hv, q⟩ := h u H3 u0 u1 S3 ((But.of (Same.new hp)).trans B3)
  obtain ⟨oa, ha⟩ := S.hasA
  exact ⟨p, xs, u, v, rfl, rfl, SqL.of (B3 _ _ upd_same fun e => by rw [e, ha] at hp; cases hp), hv, q⟩
theorem mulok (c : Nat) : MulOk (sg c) 5 ∧ MulOk (sg c) 4 := ⟨⟨rfl, fun _ _ => by show ¬ ((1 : Nat) : Int) > (2 ^ 63 - 1) / 5; decide, fun _ _ => rfl⟩, ⟨rfl, fun _ _ => by show ¬ ((1 : Nat) : Int) > (2 ^ 63 - 1) / 4; decide, fun _ _ => rfl⟩⟩
theorem ok_ch (t : T K mg) : Ok P w K mg base 2 "_law_changed" ["state", "parts"] spCh := by
  refine mkOk t.d_law_changed t.g_law_changed scCh (fun vs H Q E h => ?_) (fun _ _ _ _ _ _ us hl => match us, hl with | [_, _], _ => rfl) fun cdv A outer s H vs Q E hr h => ?_
  · obtain ⟨a, L, v, d, rfl, _⟩ := h; rfl
  obtain ⟨a, L, v, d, rfl, hS, hP, gd, k⟩ := h
  have hr1 : Room 1 _ := hr
  refine ⟨_, (pss_cons (ps_asg (pv 1) (pg_tup rfl (pgs_cons (pg_name (i := 2) scCh.nd rfl (Or.inl rfl)) (pgs_cons (pg_name (i := 3) scCh.nd rfl (Or.inl rfl)) (pgs_cons (pg_name (i := 4) scCh.nd rfl (Or.inl rfl)) pgs_nil)))))
    (pss_cons (ps_set (i := 5) scCh.nd rfl (Or.inl rfl) (pe_tup (pa_cons pe_int (pa_cons (pe_ix ix_str (pv 2) pe_int (fun _ _ => rfl)) (pa_cons (pe_lst (pa_cons pe_int pa_nil)) (pa_cons pe_int (pa_cons pe_non (pa_cons pe_non pa_nil))))))))
    (pss_cons (ps_set (i := 6) scCh.nd rfl (Or.inl rfl) (pe_ok (ok_draw t) hr1 rfl (pa_cons (pv 0) (pa_cons pe_int pa_nil))))
    (pss_cons (ps_if (pt_cmpR op_eq (pv 6) pe_int (nomark _)) (pss_one (ps_ret (pe_tup (pa_cons (pe_tup (pa_cons (pe_op op_add_str (pv 2) (pe_ix ix_str (pv 2) pe_int (fun _ _ => rfl))) (pa_cons (pv 3) (pa_cons (pv 4) pa_nil)))) (pa_cons pe_bl pa_nil))))) pss_nil)
    (pss_cons (ps_if (pt_cmpR op_eq (pv 6) pe_int (nomark _)) (pss_one (ps_ret (pe_tup (pa_cons (pe_tup (pa_cons (pe_op op_add_str (pv 2) (pe_ix ix_list (pe_lst (pa_cons pe_str (pa_cons pe_str (pa_cons pe_str (pa_cons pe_str pa_nil))))) (pe_ok (ok_draw t) hr1 rfl (pa_cons (pv 0) (pa_cons pe_int pa_nil))) (fun _ _ => rfl))) (pa_cons (pv 3) (pa_cons (pv 4) pa_nil)))) (pa_cons pe_bl pa_nil))))) pss_nil)
    (pss_cons (ps_if (pt_cmpR op_eq (pv 6) pe_int (nomark _)) (pss_one (ps_ret (pe_tup (pa_cons (pe_tup (pa_cons (pv 2) (pa_cons (pe_ix ix_list (pe_lst (pa_cons pe_int (pa_cons pe_int (pa_cons (pe_un un_neg pe_int) pa_nil)))) (pe_ok (ok_draw t) hr1 rfl (pa_cons (pv 0) (pa_cons pe_int pa_nil))) (fun _ _ => rfl)) (pa_cons (pe_lst pa_nil) pa_nil)))) (pa_cons pe_bl pa_nil))))) pss_nil)
    (pss_cons (ps_if (pt_cmpR op_eq (pv 6) pe_int (nomark _)) (pss_cons (ps_set (i := 7) scCh.nd rfl (Or.inl rfl) (pe_op op_add pe_int (pe_ok (ok_draw t) hr1 rfl (pa_cons (pv 0) (pa_cons pe_int pa_nil))))) (pss_one (ps_ret (pe_tup (pa_cons (pe_tup (pa_cons (pv 2) (pa_cons (pv 3) (pa_cons (pe_op op_rep (pe_lst (pa_cons (pv 5) pa_nil)) (pv 7)) pa_nil)))) (pa_cons (pe_cmpR op_eq (pv 7) pe_int (nomark _)) pa_nil)))))) pss_nil)
    (pss_cons (ps_if (pt_cmpR op_eq (pv 6) pe_int (nomark _)) (pss_one (ps_ret (pe_tup (pa_cons (pe_tup (pa_cons (pv 2) (pa_cons (pv 3) (pa_cons (pe_op op_cat (pv 4) (pe_lst (pa_cons (pe_ok (ok_rows t) hr1 rfl (pa_cons (pv 5) (pa_cons (pe_ix ix_list (pe_lst (pa_cons pe_int (pa_cons pe_int pa_nil))) (pe_ok (ok_draw t) hr1 rfl (pa_cons (pv 0) (pa_cons pe_int pa_nil))) (fun _ _ => rfl)) (pa_cons (pe_ix ix_list (pe_lst (pa_cons (pv 3) (pa_cons (pe_un un_neg pe_int) pa_nil))) (pe_ok (ok_draw t) hr1 rfl (pa_cons (pv 0) (pa_cons pe_int pa_nil))) (fun _ _ => rfl)) pa_nil)))) pa_nil))) pa_nil)))) (pa_cons pe_bl pa_nil))))) pss_nil)
    (pss_cons (ps_if (pt_cmpR op_eq (pv 6) pe_int (nomark _)) (pss_cons (ps_set (i := 8) scCh.nd rfl (Or.inl rfl) (pe_ix ix_list (pe_lst (pa_cons pe_str (pa_cons (pe_op op_mulS (pe_ix ix_str (pv 2) pe_int (fun _ _ => rfl)) pe_int) (pa_cons pe_str (pa_cons (pe_op op_add_str (pe_ix ix_str (pv 2) pe_int (fun _ _ => rfl)) pe_str) (pa_cons (pe_op op_mulS (pe_ix ix_str (pv 2) pe_int (fun _ _ => rfl)) pe_int) pa_nil)))))) (pe_ok (ok_draw t) hr1 rfl (pa_cons (pv 0) (pa_cons pe_int pa_nil))) (fun _ _ => rfl))) (pss_one (ps_ret (pe_tup (pa_cons (pe_tup (pa_cons (pv 2) (pa_cons (pv 3) (pa_cons (pe_op op_cat (pv 4) (pe_lst (pa_cons (pe_ok (ok_rows t) hr1 rfl (pa_cons (pv 5) (pa_cons pe_int (pa_cons (pv 8) pa_nil)))) pa_nil))) pa_nil)))) (pa_cons (pe_cmpR op_eq (pv 8) (pe_op op_mulS (pe_ix ix_str (pv 2) pe_int (fun _ _ => rfl)) pe_int) (nomark _)) pa_nil)))))) pss_nil)
    (pss_cons (ps_if (pt_cmpR op_eq (pv 6) pe_int (nomark _)) (pss_cons (ps_set (i := 9) scCh.nd rfl (Or.inl rfl) (pe_ix ix_list (pe_lst (pa_cons (pe_lst pa_nil) (pa_cons (pe_op op_rep (pe_lst (pa_cons pe_int pa_nil)) pe_int) (pa_cons (pe_lst (pa_cons pe_int pa_nil)) (pa_cons (pe_lst (pa_cons (pe_un un_neg pe_int) pa_nil)) (pa_cons (pe_lst (pa_cons pe_int (pa_cons pe_int (pa_cons pe_int (pa_cons pe_int pa_nil))))) pa_nil)))))) (pe_ok (ok_draw t) hr1 rfl (pa_cons (pv 0) (pa_cons pe_int pa_nil))) (fun _ _ => rfl))) (pss_one (ps_ret (pe_tup (pa_cons (pe_tup (pa_cons (pv 2) (pa_cons (pv 3) (pa_cons (pe_op op_cat (pv 4) (pe_lst (pa_cons (pe_ok (ok_rows t) hr1 rfl (pa_cons (pv 5) (pa_cons pe_int (pa_cons (pv 9) pa_nil)))) pa_nil))) pa_nil)))) (pa_cons (pe_cmpR (op_eqD (hu64 hr)) (pv 9) (pe_lst (pa_cons pe_int (pa_cons pe_int (pa_cons pe_int (pa_cons pe_int pa_nil))))) (nomark _)) pa_nil)))))) pss_nil)
    (pss_cons (ps_if (pt_cmpR op_eq (pv 6) pe_int (nomark _)) (pss_cons (ps_set (i := 8) scCh.nd rfl (Or.inl rfl) (pe_ix ix_list (pe_lst (pa_cons pe_str (pa_cons (pe_op op_add_str (pe_ix ix_str (pv 2) pe_int (fun _ _ => rfl)) (pe_ix ix_str (pv 2) pe_int (fun _ _ => rfl))) (pa_cons pe_str (pa_cons pe_str (pa_cons (pe_op op_add_str pe_str (pv 2)) pa_nil)))))) (pe_ok (ok_draw t) hr1 rfl (pa_cons (pv 0) (pa_cons pe_int pa_nil))) (fun _ _ => rfl))) (pss_one (ps_ret (pe_tup (pa_cons (pe_tup (pa_cons (pv 2) (pa_cons (pv 3) (pa_cons (pe_op op_cat (pv 4) (pe_lst (pa_cons (pe_ok (ok_rows t) hr1 rfl (pa_cons (pv 5) (pa_cons pe_int (pa_cons (pv 8) pa_nil)))) pa_nil))) pa_nil)))) (pa_cons (pe_cmpR op_eq (pv 8) (pe_op op_add_str pe_str (pv 2)) (nomark _)) pa_nil)))))) pss_nil)
    (pss_cons (ps_if (pt_cmpR op_eq (pv 6) pe_int (nomark _)) (pss_cons (ps_set (i := 8) scCh.nd rfl (Or.inl rfl) (pe_ix ix_list (pe_lst (pa_cons pe_str (pa_cons pe_str (pa_cons pe_str (pa_cons pe_str (pa_cons (pe_op op_add_str (pv 2) pe_str) pa_nil)))))) (pe_ok (ok_draw t) hr1 rfl (pa_cons (pv 0) (pa_cons pe_int pa_nil))) (fun _ _ => rfl))) (pss_one (ps_ret (pe_tup (pa_cons (pe_tup (pa_cons (pv 2) (pa_cons (pv 3) (pa_cons (pe_op op_cat (pv 4) (pe_lst (pa_cons (pe_ok (ok_rows t) hr1 rfl (pa_cons (pv 5) (pa_cons pe_int (pa_cons (pv 8) pa_nil)))) pa_nil))) pa_nil)))) (pa_cons (pe_cmpR op_eq (pv 8) (pe_op op_add_str (pv 2) pe_str) (nomark _)) pa_nil)))))) pss_nil)
    (pss_cons (ps_if (pt_cmpR op_eq (pv 6) pe_int (nomark _)) (pss_one (ps_ret (pe_tup (pa_cons (pe_tup (pa_cons pe_str (pa_cons (pv 3) (pa_cons (pe_lst pa_nil) pa_nil)))) (pa_cons pe_bl pa_nil))))) pss_nil)
    (pss_cons (ps_if (pt_cmpR op_eq (pv 6) pe_int (nomark _)) (pss_cons (ps_set (i := 10) scCh.nd rfl (Or.inl rfl) (pe_slice sl_str pe_str po_none (po_some (pe_op op_add pe_int (pe_ok (ok_draw t) hr1 rfl (pa_cons (pv 0) (pa_cons pe_int pa_nil))))))) (pss_one (ps_ret (pe_tup (pa_cons (pe_tup (pa_cons (pv 10) (pa_cons (pv 3) (pa_cons (pe_lst pa_nil) pa_nil)))) (pa_cons (pe_cmpR op_eq (pe_callB call_len_str rfl t.f_len boot_len (pa_cons (pv 10) pa_nil)) pe_int (nomark _)) pa_nil)))))) pss_nil)
    (pss_one (ps_ret (pe_tup (pa_cons (pv 1) (pa_cons pe_bl pa_nil))))))))))))))))))), ?_⟩
  obtain ⟨u, l, rfl, hu, ⟨vs, hl, hlen, hrow⟩⟩ := hP
  obtain ⟨hua, huH⟩ := off_some hu
  obtain ⟨hla, hlH⟩ := off_some hl
  have gz := gd.z
  obtain ⟨z, n, rs⟩ := d
  have hzs : z.length ≤ sizeLine := small4 (by have := gz.l2; show z.length ≤ 4000; exact Nat.le_trans this (by decide))
  have hz2 : z.length ≤ 1000 := gz.l2
  have hn1 : 1 ≤ n := gd.modes.1
  have hnt : sl z ≠ [] := gd.nt
  have hev : ∀ c ∈ sl z, c ∈ everyL := gd.all
  have hnd : (sl z).Nodup := gd.nd
  have n94 : 94 ∉ sl z := gz.n94
  have n36 : 36 ∉ sl z := gz.n36
  have n122 : 122 ∉ sl z := fun q => absurd (hev _ q) (by decide)
  obtain ⟨c0, zr, hz⟩ : ∃ c0 zr, sl z = c0 :: zr := by
    cases e : sl z with
    | nil => exact absurd e hnt
    | cons c r => exact ⟨c, r, rfl⟩
  have hc0 : c0 ∈ sl z := by rw [hz]; exact .head _
  have at0 : atI (sl z) 0 = some c0 := by
    rw [hz]
    exact atI_nat (j := 0) rfl
  have hc94 : c0 ≠ 94 := fun q => n94 (by rw [← q]; exact hc0)
  have hc36 : c0 ≠ 36 := fun q => n36 (by rw [← q]; exact hc0)
  have evs : ∀ c ∈ everyL, c < 1114112 := by decide
  have okz : okS z := fun c hc => evs c (hev c hc)
  have okc : okS (sg c0) := fun c hc => by rw [sl_sg, List.mem_singleton] at hc; rw [hc]; exact okz _ hc0
  have szs : ∀ r ∈ rs, r.sz := fun r hr => by
    have g := gd.rules r hr
    obtain ⟨t1, t2, _⟩ := g.text
    refine ⟨by omega, by have := g.cells.2.1; omega, fun t ht => ?_, fun t ht => ?_⟩
    · have := (g.ahead t ht).2.2.2; omega
    · have := (g.behind t ht).2.2.2; omega
  have lays : ∀ r ∈ rs, r.lay := fun r hr => by
    have g := gd.rules r hr
    refine ⟨fun c hc => okz c (g.text.2.2 c hc), fun t ht c hc => ?_, fun t ht c hc => ?_⟩
    · rcases (g.ahead t ht).2.2.1 c hc with q | q
      · exact okz c q
      · rw [q]; decide
    · rcases (g.behind t ht).2.2.1 c hc with q | q
      · exact okz c q
      · rw [q]; decide
  have few : rs.length ≤ 5 := gd.few
  -- signs, modes, rules = parts
  refine ⟨_, rfl, u, _, rfl, SqT.of huH, rfl, _, _, rfl, _, _, rfl, _, _, rfl, rfl, ?_⟩
  -- good
  refine ⟨_, rfl, z, _, c0, rfl, rfl, hzs, at0, by show 1 ≤ sizeLine; decide, fun q hq => ⟨by show 6 ≤ sizeLine; decide, fun g hg => ?_⟩⟩
  have ngq : q ≠ g := fun e => by rw [← e, upd_same] at hg; cases hg
  have hg0 : H g = none := by rw [upd_ne ngq.symm] at hg; exact hg
  have sG := (Same.new (o := HO.lst [V.int 1]) hq).trans (Same.new (o := HO.tup [V.int 0, V.str (sg c0), V.ref q, V.int 0, V.non, V.non]) hg)
  -- pick
  refine ⟨_, rfl, a, L, 12, rfl, hS.same sG, by decide, by decide, fun pk H2 pk0 pk1 S2 B2' => ?_⟩
  obtain ⟨oa, ha⟩ := hS.hasA
  have nga : g ≠ a := fun e => by rw [e, ha] at hg0; cases hg0
  have nqa : q ≠ a := fun e => by rw [e, ha] at hq; cases hq
  have B2 : But a H H2 := (But.of sG).trans B2'
  have hg2 : H2 g = some (.tup [.int 0, .str (sg c0), .ref q, .int 0, .non, .non]) := B2' _ _ upd_same nga
  have hq2 : H2 q = some (.lst [.int 1]) := B2' _ _ (by rw [upd_ne ngq]; exact upd_same) nqa
  have hl2 : H2 l = some (.lst vs) := B2 _ _ hlH hla
  have hR2 : RowsL (off a H2) l rs := RowsL.same ⟨vs, hl, hlen, hrow⟩ (off_but B2)
  have fin : ∀ (G : Hp) (p p2 : Addr) (z' : Str) (n' : Int) (l' : Addr) (rs' : List RD) (b : Bool), G p = some (.tup [.str z', .int n', .ref l']) → p ≠ a → St G a L → But a H G → RowsL (off a G) l' rs' → TD.sz ⟨z', n', rs'⟩ → TD.lay ⟨z', n', rs'⟩ → letB ⟨z', n', rs'⟩ = b → G p2 = none → Q (.ref p2) (upd G p2 (.tup [.ref p, .bl b])) := by
    intro G p p2 z' n' l' rs' b hp npa SG BG RG sz lay e hp2
    subst e
    refine k p2 (.ref p) ⟨z', n', rs'⟩ _ upd_same ⟨p, l', rfl, ?_, RG.same (off_up (Same.new hp2))⟩ sz lay (SG.same (Same.new hp2)) (BG.trans (But.of (Same.new hp2)))
    rw [off_ne npa, upd_ne (ne_of_none hp hp2)]
    exact hp
  have fin1 : ∀ (G : Hp) (z' : Str) (n' : Int) (l' : Addr) (rs' : List RD) (b : Bool), St G a L → But a H G → RowsL (off a G) l' rs' → TD.sz ⟨z', n', rs'⟩ → TD.lay ⟨z', n', rs'⟩ → letB ⟨z', n', rs'⟩ = b → ∀ p, G p = none → ∀ p2, (upd G p (.tup [.str z', .int n', .ref l'])) p2 = none →
      Q (.ref p2) (upd (upd G p (.tup [.str z', .int n', .ref l'])) p2 (.tup [.ref p, .bl b])) := by
    intro G z' n' l' rs' b SG BG RG sz lay e p hp p2 hp2
    obtain ⟨o1, h1⟩ := SG.hasA
    exact fin _ p p2 z' n' l' rs' b upd_same (fun e => by rw [e, h1] at hp; cases hp) (SG.same (Same.new hp)) (BG.trans (But.of (Same.new hp))) (RG.same (off_up (Same.new hp))) sz lay e hp2
  have c3 : 3 ≤ sizeLine := by decide
  have c2 : 2 ≤ sizeLine := by decide
  -- 0
  refine ⟨_, rfl, rfl, _, rfl, ite2 (fun _ => ?_) (fun _ => ?_)⟩
  · refine ⟨_, rfl, _, rfl, z, _, c0, rfl, rfl, hzs, at0, _, _, rfl, rfl, (by show z.length + 1 ≤ sizeLine; exact small4 (by omega)), _, rfl, _, rfl, c3, fun p hp => ⟨c2, fun p2 hp2 => ?_⟩⟩
    refine fin1 H2 (z ++ sg c0) n l rs false S2 B2 hR2 ⟨by show (z ++ sg c0).length ≤ 4000; rw [len_app]; show z.length + 1 ≤ 4000; omega, by show rs.length ≤ 4000; omega, szs⟩ ⟨fun c hc => ?_, lays⟩ (let_signs (signs_dup fun h => ?_)) p hp p2 hp2
    · rw [show (⟨z ++ sg c0, n, rs⟩ : TD).signs = z ++ sg c0 from rfl, sl_app, List.mem_append] at hc
      exact hc.elim (okz c) (okc c)
    · rw [sl_app, List.nodup_append] at h
      exact h.2.2 c0 hc0 c0 (by rw [sl_sg]; exact .head _) rfl
  -- 1
  refine ⟨_, rfl, rfl, _, rfl, ite2 (fun _ => ?_) (fun _ => ?_)⟩
  · refine ⟨_, rfl, rd_pick rfl S2 (by decide) (by decide) (fun Q q => q) (by show 4 ≤ sizeLine; decide) fun x H3 x0 x1 S3 B3 => ?_⟩
    have pick : ∃ y : Str, atI [V.str (Str.ofString "^"), V.str (Str.ofString "$"), V.str (Str.ofString "\t"), V.str (Str.ofString "\n")] x = some (.str y) ∧ ∃ c : Nat, y = sg c ∧ goodB c = false ∧ c < 1114112 := by
      have : x = 0 ∨ x = 1 ∨ x = 2 ∨ x = 3 := by omega
      rcases this with rfl | rfl | rfl | rfl
      · exact ⟨_, rfl, 94, by decide +kernel, by decide, by decide⟩
      · exact ⟨_, rfl, 36, by decide +kernel, by decide, by decide⟩
      · exact ⟨_, rfl, 9, by decide +kernel, by decide, by decide⟩
      · exact ⟨_, rfl, 10, by decide +kernel, by decide, by decide⟩
    obtain ⟨y, hy, c, rfl, hcb, hc1⟩ := pick
    refine ⟨_, hy, _, _, rfl, rfl, (by show z.length + 1 ≤ sizeLine; exact small4 (by omega)), _, rfl, _, rfl, c3, fun p hp => ⟨c2, fun p2 hp2 => ?_⟩⟩
    refine fin1 H3 (z ++ sg c) n l rs false S3 (B2.trans B3) (hR2.same (off_but B3)) ⟨by show (z ++ sg c).length ≤ 4000; rw [len_app]; show z.length + 1 ≤ 4000; omega, by show rs.length ≤ 4000; omega, szs⟩ ⟨fun d hd => ?_, lays⟩ (let_signs (signs_bad (c := c) (by rw [sl_app, sl_sg]; simp) hcb)) p hp p2 hp2
    rw [show (⟨z ++ sg c, n, rs⟩ : TD).signs = z ++ sg c from rfl, sl_app, List.mem_append] at hd
    refine hd.elim (okz d) fun q => ?_
    rw [sl_sg, List.mem_singleton] at q
    rw [q]
    exact hc1
  have rows_nil : ∀ (G : Hp) (e : Addr), G e = some (.lst []) → e ≠ a → RowsL (off a G) e [] := fun G e h ne => ⟨[], by rw [off_ne ne]; exact h, rfl, fun i v r q _ => by simp at q⟩
  have newa : ∀ (G : Hp) (e : Addr), St G a L → G e = none → e ≠ a := fun G e SG h q => by
    obtain ⟨o1, h1⟩ := SG.hasA
    rw [q, h1] at h
    cases h
  have hlr : vs.length = rs.length := hlen
  have gtext : ∀ y : Str, y.length ≤ 4000 → okS y → (⟨0, y, [1], 0, none, none⟩ : RD).sz ∧ (⟨0, y, [1], 0, none, none⟩ : RD).lay := fun y h1 h2 => ⟨⟨h1, by show 1 ≤ 4000; decide, (fun t h => by cases h), (fun t h => by cases h)⟩, ⟨h2, (fun t h => by cases h), (fun t h => by cases h)⟩⟩
  have ln1 : (sg c0).length ≤ 4000 := by show 1 ≤ 4000; decide
  -- rules + [row], the tuple, what is due, the answer
  have more : ∀ (G : Hp) (row : V) (r : RD) (b : Bool), r.sz → r.lay → ruleB r z n = b → St G a L → But a H2 G → RowT (off a G) row r → ∀ e, G e = none → ∀ e2, (upd G e (.lst [row])) e2 = none → ∀ p, (upd (upd G e (.lst [row])) e2 (.lst (vs ++ [row]))) p = none →
      ∀ G4, Same (upd (upd (upd G e (.lst [row])) e2 (.lst (vs ++ [row]))) p (.tup [.str z, .int n, .ref e2])) G4 → ∀ p2, G4 p2 = none → Q (.ref p2) (upd G4 p2 (.tup [.ref p, .bl b])) := by
    intro G row r b hsz hlay hb SG BG hrw e he e2 he2 p hp G4 s4 p2 hp2
    have s1 := Same.new (o := HO.lst [row]) he
    have s2 := Same.new (o := HO.lst (vs ++ [row])) he2
    have s3 := Same.new (o := HO.tup [.str z, .int n, .ref e2]) hp
    have sGp := (s1.trans s2).trans s3
    have sG4 := sGp.trans s4
    have npa := newa _ p (SG.same (s1.trans s2)) hp
    have n2a := newa _ e2 (SG.same s1) he2
    have he2' : G4 e2 = some (.lst (vs ++ [row])) := s4 _ _ (s3 _ _ upd_same)
    refine fin G4 p p2 z n e2 (rs ++ [r]) b (s4 _ _ upd_same) npa (SG.same sG4) (B2.trans (BG.trans (But.of sG4))) ⟨vs ++ [row], by rw [off_ne n2a]; exact he2', by rw [List.length_append, List.length_append, hlr]; rfl, fun i v r' hv hr' => ?_⟩
      ⟨by show z.length ≤ 4000; omega, by show (rs ++ [r]).length ≤ 4000; rw [List.length_append]; show rs.length + 1 ≤ 4000; omega, fun r' hr' => ?_⟩ ⟨okz, fun r' hr' => ?_⟩ (by rw [← hb]; exact let_more gd r) hp2
    · by_cases hi : i < vs.length
      · rw [List.getElem?_append_left hi] at hv
        rw [List.getElem?_append_left (by omega)] at hr'
        exact ((hrow i v r' hv hr').same (off_but (B2.trans BG))).same (off_up sG4)
      · rw [List.getElem?_append_right (by omega)] at hv hr'
        have h0 : i - vs.length = 0 := by
          have := (List.getElem?_eq_some_iff.mp hv).1
          rw [List.length_singleton] at this
          omega
        rw [h0] at hv
        rw [show i - rs.length = 0 by omega] at hr'
        obtain rfl : row = v := Option.some.inj hv
        obtain rfl : r = r' := Option.some.inj hr'
        exact hrw.same (off_up sG4)
    · rcases List.mem_append.mp (show r' ∈ rs ++ [r] from hr') with h | h
      · exact szs r' h
      · rw [List.mem_singleton] at h; rw [h]; exact hsz
    · rcases List.mem_append.mp (show r' ∈ rs ++ [r] from hr') with h | h
      · exact lays r' h
      · rw [List.mem_singleton] at h; rw [h]; exact hlay
  have cat : ∀ G, But a H2 G → G l = some (.lst vs) := fun G BG => BG _ _ hl2 hla
  have lcat : vs.length + 1 ≤ sizeLine := small4 (by omega)
  -- 2
  refine ⟨_, rfl, rfl, _, rfl, ite2 (fun _ => ?_) (fun _ => ?_)⟩
  · refine ⟨_, rfl, rd_pick rfl S2 (by decide) (by decide) (fun Q q => ⟨_, rfl, q⟩) (by show 3 ≤ sizeLine; decide) fun x H3 x0 x1 S3 B3 => ?_⟩
    have pick : ∃ m : Int, atI [V.int 0, V.int 5, V.int (-1)] x = some (.int m) ∧ manyB m = false := by
      have : x = 0 ∨ x = 1 ∨ x = 2 := by omega
      rcases this with rfl | rfl | rfl
      · exact ⟨_, rfl, by decide⟩
      · exact ⟨_, rfl, by decide⟩
      · exact ⟨_, rfl, by decide⟩
    obtain ⟨m, hm, hb⟩ := pick
    refine ⟨_, hm, Nat.zero_le _, fun e he => ⟨c3, fun p hp => ⟨c2, fun p2 hp2 => ?_⟩⟩⟩
    have nea := newa _ e S3 he
    exact fin1 (upd H3 e (.lst [])) z m e [] false (S3.same (Same.new he)) (B2.trans (B3.trans (But.of (Same.new he)))) (rows_nil _ e upd_same nea) ⟨by show z.length ≤ 4000; omega, by show 0 ≤ 4000; omega, fun r hr => absurd hr List.not_mem_nil⟩ ⟨okz, fun r hr => absurd hr List.not_mem_nil⟩ (let_many hb) p hp p2 hp2
  -- 3
  refine ⟨_, rfl, rfl, _, rfl, ite2 (fun _ => ?_) (fun _ => ?_)⟩
  · refine ⟨_, rfl, a, L, 2, rfl, S2, by decide, by decide, fun x H3 x0 x1 S3 B3 => ?_⟩
    have hg3 := B3 _ _ hg2 nga
    have hq3 := B3 _ _ hq2 nqa
    refine ⟨_, _, rfl, rfl, _, rfl, _, rfl, _, rfl, by show 1 ≤ sizeLine; decide, fun e he => ?_⟩
    have hx80 : (80 + x).toNat = 80 + x.toNat := by omega
    refine ⟨_, rfl, e, _, _, rfl, rfl, upd_same, by omega, by omega, ?_, fun e2 he2 => ?_⟩
    · show 1 * (80 + x).toNat ≤ sizeLine
      exact small4 (by omega)
    · refine ⟨c3, fun p hp => ⟨_, rfl, rfl, c2, fun p2 hp2 => ?_⟩⟩
      have S4 := S3.same (Same.new (o := HO.lst [V.ref g]) he)
      have n2a := newa _ e2 S4 he2
      have fl : ∀ k : Nat, (List.replicate k [V.ref g]).flatten = List.replicate k (V.ref g) := fun k => by
        induction k with
        | zero => rfl
        | succ k ih => rw [List.replicate_succ, List.flatten_cons, ih, List.replicate_succ]; rfl
      rw [fl] at hp hp2 ⊢
      refine fin1 _ z n e2 (List.replicate (80 + x).toNat (good c0)) _ (S4.same (Same.new he2)) (B2.trans (B3.trans ((But.of (Same.new he)).trans (But.of (Same.new he2))))) ⟨List.replicate (80 + x).toNat (.ref g), by rw [off_ne n2a]; exact upd_same, by simp, fun i v r hv hr => ?_⟩
        ⟨by show z.length ≤ 4000; omega, by show (List.replicate _ _).length ≤ 4000; rw [List.length_replicate]; omega, fun r hr => ?_⟩ ⟨okz, fun r hr => ?_⟩ ?_ p hp p2 hp2
      · have ev : v = .ref g := List.eq_of_mem_replicate (List.mem_of_getElem? hv)
        have er : r = good c0 := List.eq_of_mem_replicate (List.mem_of_getElem? hr)
        subst ev er
        have sE := (Same.new (o := HO.lst [V.ref g]) he).trans (Same.new (o := HO.lst (List.replicate (80 + x).toNat (V.ref g))) he2)
        exact ⟨g, q, rfl, by rw [off_ne nga]; exact sE _ _ hg3, by rw [off_ne nqa]; exact sE _ _ hq3⟩
      · rw [List.eq_of_mem_replicate (show r ∈ List.replicate _ (good c0) from hr)]
        exact (gtext _ ln1 okc).1
      · rw [List.eq_of_mem_replicate (show r ∈ List.replicate _ (good c0) from hr)]
        exact (gtext _ ln1 okc).2
      · unfold letB
        rw [show (⟨z, n, List.replicate (80 + x).toNat (good c0)⟩ : TD).signs = z from rfl, gd.signs, gd.many]
        have ea : (List.replicate (80 + x).toNat (good c0)).all (fun r => ruleB r z n) = true := by
          refine List.all_eq_true.mpr fun r hr => ?_
          rw [List.eq_of_mem_replicate hr]
          exact (rule_text (x := sg c0) hn1).trans (good_text hc0)
        show (true && (true && (decide (((List.replicate (80 + x).toNat (good c0)).length : Int) ≤ 80) && (List.replicate (80 + x).toNat (good c0)).all fun r => ruleB r z n))) = decide (V.int (80 + x) = V.int 80)
        rw [ea, List.length_replicate, eq_int, Bool.and_true, Bool.true_and, Bool.true_and, decide_eq_decide]
        omega
  -- 4
  refine ⟨_, rfl, rfl, _, rfl, ite2 (fun _ => ?_) (fun _ => ?_)⟩
  · refine ⟨_, rfl, _, rfl, _, rfl, _, rfl, ?_⟩
    refine rd_pick rfl S2 (by decide) (by decide) (fun Q q => q) (by show 2 ≤ sizeLine; decide) fun x H3 x0 x1 S3 B3 => ?_
    have pick : ∃ j : Nat, atI [V.int 0, V.int 3] x = some (.int (j : Int)) ∧ (j = 0 ∨ j = 3) := by
      have : x = 0 ∨ x = 1 := by omega
      rcases this with rfl | rfl
      · exact ⟨0, rfl, .inl rfl⟩
      · exact ⟨3, rfl, .inr rfl⟩
    obtain ⟨j, hj, hj03⟩ := pick
    refine ⟨_, hj, ?_⟩
    refine rd_pick rfl S3 (by decide) (by decide) (fun Q q => ⟨_, rfl, _, rfl, q⟩) (by show 2 ≤ sizeLine; decide) fun y H4 y0 y1 S4 B4 => ?_
    have pick2 : ∃ m : Int, atI [V.int n, V.int (-1)] y = some (.int m) ∧ modeB m n = false := by
      have : y = 0 ∨ y = 1 := by omega
      rcases this with rfl | rfl
      · exact ⟨_, rfl, mode_n n⟩
      · exact ⟨_, rfl, mode_m n⟩
    obtain ⟨m, hm, hb⟩ := pick2
    have B24 := B3.trans B4
    refine ⟨_, hm, g, _, j, _, rfl, B24 _ _ hg2 nga, by show j < 6; omega, fun p1 H5 hp1 s5 h5 => ?_⟩
    have S5 := S4.same s5
    have B5 := B24.trans (But.of s5)
    have n1a := newa _ p1 S4 hp1
    have hq5 := B5 _ _ hq2 nqa
    refine ⟨by show 1 ≤ sizeLine; decide, fun e he => ?_⟩
    refine ⟨l, e, vs, _, rfl, rfl, Same.new he _ _ (cat _ B5), upd_same, lcat, fun e2 he2 => ⟨c3, fun p hp => ⟨c2, fun p2 hp2 => ?_⟩⟩⟩
    rcases hj03 with rfl | rfl
    · exact more H5 (.ref p1) ⟨m, sg c0, [1], 0, none, none⟩ false (gtext _ ln1 okc).1 ⟨okc, (fun t h => by cases h), (fun t h => by cases h)⟩ (rule_mode hb) S5 B5 ⟨p1, q, rfl, by rw [off_ne n1a]; exact h5, by rw [off_ne nqa]; exact hq5⟩ e he e2 he2 p hp _ (Same.refl _) p2 hp2
    · exact more H5 (.ref p1) ⟨0, sg c0, [1], m, none, none⟩ false (gtext _ ln1 okc).1 ⟨okc, (fun t h => by cases h), (fun t h => by cases h)⟩ (rule_to hb) S5 B5 ⟨p1, q, rfl, by rw [off_ne n1a]; exact h5, by rw [off_ne nqa]; exact hq5⟩ e he e2 he2 p hp _ (Same.refl _) p2 hp2
  -- 5
  refine ⟨_, rfl, rfl, _, rfl, ite2 (fun _ => ?_) (fun _ => ?_)⟩
  · refine rd_pick rfl S2 (by decide) (by decide) (fun Q q => ⟨_, rfl, z, _, c0, rfl, rfl, hzs, at0, _, _, rfl, rfl, (mulok c0).1, _, rfl, z, _, c0, rfl, rfl, hzs, at0, _, _, rfl, rfl, by show 1 + 1 ≤ sizeLine; decide, _, rfl, z, _, c0, rfl, rfl, hzs, at0, _, _, rfl, rfl, (mulok c0).2, q⟩) (by show 5 ≤ sizeLine; decide) fun x H3 x0 x1 S3 B3 => ?_
    have pick : ∃ y : Str, atI [V.str (Str.ofString ""), V.str (Txt.mul (sg c0) 5), V.str (Str.ofString "z"), V.str (sg c0 ++ Str.ofString "^"), V.str (Txt.mul (sg c0) 4)] x = some (.str y) ∧ textB y z = decide (y = Txt.mul (sg c0) 4) ∧ y.length ≤ 4000 ∧ okS y := by
      have ez : sl (Str.ofString "z") = [122] := by decide +kernel
      have ea : sl (Str.ofString "^") = [94] := by decide +kernel
      have : x = 0 ∨ x = 1 ∨ x = 2 ∨ x = 3 ∨ x = 4 := by omega
      rcases this with rfl | rfl | rfl | rfl | rfl
      · exact ⟨_, rfl, by rw [ne_sl (by rw [sl_mt, mul4]; simp), text_len (by rw [sl_mt]; simp)], by decide +kernel, fun c hc => by rw [sl_mt] at hc; cases hc⟩
      · exact ⟨_, rfl, by rw [ne_sl (by rw [mul5, mul4]; simp), text_len (by rw [mul5]; simp)], by rw [sl_len, mul5]; show 5 ≤ 4000; decide, fun c hc => okc c (by rw [mul5] at hc; rw [sl_sg]; simpa using hc)⟩
      · exact ⟨_, rfl, by rw [ne_sl (by rw [ez, mul4]; simp), text_not (d := 122) (by rw [ez]; simp) n122], by decide +kernel, fun c hc => by rw [ez, List.mem_singleton] at hc; rw [hc]; decide⟩
      · exact ⟨_, rfl, by rw [ne_sl (by rw [sl_app, ea, sl_sg, mul4]; simp), text_not (d := 94) (by rw [sl_app, ea]; simp) n94], by rw [len_app, sl_len, sl_len, ea, sl_sg]; show 2 ≤ 4000; decide, fun c hc => by
          rw [sl_app, ea, List.mem_append] at hc
          refine hc.elim (okc c) fun h => ?_
          rw [List.mem_singleton] at h
          rw [h]
          decide⟩
      · refine ⟨_, rfl, ?_, by rw [sl_len, mul4]; show 4 ≤ 4000; decide, fun c hc => okc c (by rw [mul4] at hc; rw [sl_sg]; simpa using hc)⟩
        rw [decide_eq_true rfl]
        exact GoodX.ok ⟨by rw [sl_len, mul4]; show 1 ≤ 4; decide, by rw [sl_len, mul4]; show ((4 : Nat) : Int) ≤ 4; decide, fun c hc => by
          rw [mul4] at hc
          have hcc : c = c0 := by simpa using hc
          rw [hcc]
          exact hc0⟩
    obtain ⟨y, hy, hb, yl, yok⟩ := pick
    refine ⟨_, hy, ?_⟩
    refine ⟨_, rfl, _, rfl, _, rfl, _, rfl, _, rfl, g, _, 1, _, rfl, B3 _ _ hg2 nga, by show 1 < 6; decide, fun p1 H5 hp1 s5 h5 => ?_⟩
    have S5 := S3.same s5
    have B5 := B3.trans (But.of s5)
    have n1a := newa _ p1 S3 hp1
    have hq5 := B5 _ _ hq2 nqa
    refine ⟨by show 1 ≤ sizeLine; decide, fun e he => ?_⟩
    refine ⟨l, e, vs, _, rfl, rfl, Same.new he _ _ (cat _ B5), upd_same, lcat, fun e2 he2 => ⟨c3, fun p hp => ?_⟩⟩
    refine ⟨_, rfl, _, rfl, z, _, c0, rfl, rfl, hzs, at0, _, _, rfl, rfl, (mulok c0).2, rfl, c2, fun p2 hp2 => ?_⟩
    exact more H5 (.ref p1) ⟨0, y, [1], 0, none, none⟩ _ (gtext _ yl yok).1 (gtext _ yl yok).2 (by rw [rule_text hn1, hb, eq_str]) S5 B5 ⟨p1, q, rfl, by rw [off_ne n1a]; exact h5, by rw [off_ne nqa]; exact hq5⟩ e he e2 he2 p hp _ (Same.refl _) p2 hp2
  -- 6
  refine ⟨_, rfl, rfl, _, rfl, ite2 (fun _ => ?_) (fun _ => ?_)⟩
  · refine ⟨Nat.zero_le _, fun e1 he1 => ?_⟩
    refine ⟨by show 1 ≤ sizeLine; decide, fun e2 he2 => ⟨e2, _, _, rfl, rfl, upd_same, by decide, by decide, by show 1 * 5 ≤ sizeLine; decide, fun e3 he3 => ?_⟩⟩
    refine ⟨by show 1 ≤ sizeLine; decide, fun e4 he4 => ?_⟩
    refine ⟨_, rfl, by show 1 ≤ sizeLine; decide, fun e5 he5 => ?_⟩
    refine ⟨by show 4 ≤ sizeLine; decide, fun e6 he6 => ?_⟩
    refine ⟨by show 5 ≤ sizeLine; decide, fun e7 he7 => ?_⟩
    have t1 := Same.new (o := HO.lst ([] : List V)) he1
    have t2 := Same.new (o := HO.lst [V.int 0]) he2
    have t3 := Same.new (o := HO.lst (List.replicate 5 [V.int 0]).flatten) he3
    have t4 := Same.new (o := HO.lst [V.int 64]) he4
    have t5 := Same.new (o := HO.lst [V.int (-1)]) he5
    have t6 := Same.new (o := HO.lst [V.int 63, V.int 0, V.int 1, V.int 2]) he6
    have t7 := Same.new (o := HO.lst [V.ref e1, V.ref e3, V.ref e4, V.ref e5, V.ref e6]) he7
    have u6 := t6.trans t7
    have u5 := t5.trans u6
    have u4 := t4.trans u5
    have u3 := t3.trans u4
    have u2 := t2.trans u3
    have m1 := newa _ e1 S2 he1
    have m3 := newa _ e3 (S2.same (t1.trans t2)) he3
    have m4 := newa _ e4 (S2.same ((t1.trans t2).trans t3)) he4
    have m5 := newa _ e5 (S2.same (((t1.trans t2).trans t3).trans t4)) he5
    have m6 := newa _ e6 (S2.same ((((t1.trans t2).trans t3).trans t4).trans t5)) he6
    have m7 := newa _ e7 (S2.same (((((t1.trans t2).trans t3).trans t4).trans t5).trans t6)) he7
    refine ⟨_, rfl, a, L, 5, rfl, S2.same (t1.trans u2), by decide, by decide, fun x H3 x0 x1 S3 B3 => ?_⟩
    have B23 : But a H2 H3 := (But.of (t1.trans u2)).trans B3
    have pick : ∃ (c : Addr) (cs : List Int), atI [V.ref e1, V.ref e3, V.ref e4, V.ref e5, V.ref e6] x = some (.ref c) ∧ H3 c = some (.lst (cs.map V.int)) ∧ c ≠ a ∧ cellsB cs = decide (cs = [63, 0, 1, 2]) ∧ cs.length ≤ 4000 := by
      have : x = 0 ∨ x = 1 ∨ x = 2 ∨ x = 3 ∨ x = 4 := by omega
      rcases this with rfl | rfl | rfl | rfl | rfl
      · exact ⟨e1, [], rfl, B3 _ _ (u2 _ _ upd_same) m1, m1, by decide, by decide⟩
      · exact ⟨e3, [0, 0, 0, 0, 0], rfl, B3 _ _ (u4 _ _ upd_same) m3, m3, by decide, by decide⟩
      · exact ⟨e4, [64], rfl, B3 _ _ (u5 _ _ upd_same) m4, m4, by decide, by decide⟩
      · exact ⟨e5, [-1], rfl, B3 _ _ (u6 _ _ upd_same) m5, m5, by decide, by decide⟩
      · exact ⟨e6, [63, 0, 1, 2], rfl, B3 _ _ (t7 _ _ upd_same) m6, m6, by decide, by decide⟩
    obtain ⟨c, cs, hc, hcs, nca, hb, csl⟩ := pick
    refine ⟨e7, _, x, _, rfl, rfl, SqL.of (B3 _ _ upd_same m7), hc, ?_⟩
    refine ⟨_, rfl, _, rfl, _, rfl, _, rfl, _, rfl, g, _, 2, _, rfl, B23 _ _ hg2 nga, by show 2 < 6; decide, fun p1 H5 hp1 s5 h5 => ?_⟩
    have S5 := S3.same s5
    have B5 := B23.trans (But.of s5)
    have n1a := newa _ p1 S3 hp1
    have hc5 := s5 _ _ hcs
    refine ⟨by show 1 ≤ sizeLine; decide, fun e he => ?_⟩
    refine ⟨l, e, vs, _, rfl, rfl, Same.new he _ _ (cat _ B5), upd_same, lcat, fun e2 he2 => ⟨c3, fun p hp => ?_⟩⟩
    refine ⟨_, rfl, by show 4 ≤ sizeLine; decide, fun e8 he8 => ?_⟩
    have hc8 := Same.new (o := HO.lst [V.int 63, V.int 0, V.int 1, V.int 2]) he8 _ _ (Same.new hp _ _ (Same.new he2 _ _ (Same.new he _ _ hc5)))
    refine ⟨_, _, dp_ints (SqL.of hc8), dp_ints (xs := [63, 0, 1, 2]) (SqL.of upd_same), shaped_ints _, shaped_ints _, c2, fun p2 hp2 => ?_⟩
    exact more H5 (.ref p1) ⟨0, sg c0, cs, 0, none, none⟩ _ ⟨ln1, csl, (fun t h => by cases h), (fun t h => by cases h)⟩ ⟨okc, (fun t h => by cases h), (fun t h => by cases h)⟩ (by rw [rule_cells hn1 hc0, hb, eqv_ints]) S5 B5 ⟨p1, c, rfl, by rw [off_ne n1a]; exact h5, by rw [off_ne nca]; exact hc5⟩ e he e2 he2 p hp _ (Same.new he8) p2 hp2
  -- 7
  have ez : sl (Str.ofString "z") = [122] := by decide +kernel
  have ea : sl (Str.ofString "^") = [94] := by decide +kernel
  have ed : sl (Str.ofString "$") = [36] := by decide +kernel
  have edd : sl (Str.ofString "$$") = [36, 36] := by decide +kernel
  have l7 : 1 + z.length ≤ sizeLine := small4 (by omega)
  have l8 : z.length + 1 ≤ sizeLine := small4 (by omega)
  refine ⟨_, rfl, rfl, _, rfl, ite2 (fun _ => ?_) (fun _ => ?_)⟩
  · refine rd_pick rfl S2 (by decide) (by decide) (fun Q q => ⟨_, rfl, z, _, c0, rfl, rfl, hzs, at0, _, rfl, z, _, c0, rfl, rfl, hzs, at0, _, _, rfl, rfl, by show 1 + 1 ≤ sizeLine; decide, _, rfl, _, _, rfl, rfl, l7, q⟩) (by show 5 ≤ sizeLine; decide) fun x H3 x0 x1 S3 B3 => ?_
    have pick : ∃ y : Str, atI [V.str (Str.ofString ""), V.str (sg c0 ++ sg c0), V.str (Str.ofString "$"), V.str (Str.ofString "z"), V.str (Str.ofString "^" ++ z)] x = some (.str y) ∧ nearB (some y) z 94 = decide (y = Str.ofString "^" ++ z) ∧ y.length ≤ 4000 ∧ okS y := by
      have : x = 0 ∨ x = 1 ∨ x = 2 ∨ x = 3 ∨ x = 4 := by omega
      rcases this with rfl | rfl | rfl | rfl | rfl
      · exact ⟨_, rfl, by rw [ne_sl (by rw [sl_mt, sl_app, ea]; simp), near_mt sl_mt], by decide +kernel, fun c hc => by rw [sl_mt] at hc; cases hc⟩
      · refine ⟨_, rfl, ?_, by rw [len_app]; show 1 + 1 ≤ 4000; decide, fun c hc => okc c (by rw [sl_app, List.mem_append] at hc; exact hc.elim id id)⟩
        rw [ne_sl (by rw [sl_app, sl_app, ea, sl_sg]; simp [hc94]), near_dup (by rw [sl_app, sl_sg]; simp)]
      · exact ⟨_, rfl, by rw [ne_sl (by rw [sl_app, ea, ed]; simp), near_not (d := 36) (by rw [ed]; simp) n36 (by decide)], by decide +kernel, fun c hc => by rw [ed, List.mem_singleton] at hc; rw [hc]; decide⟩
      · exact ⟨_, rfl, by rw [ne_sl (by rw [sl_app, ea, ez]; simp), near_not (d := 122) (by rw [ez]; simp) n122 (by decide)], by decide +kernel, fun c hc => by rw [ez, List.mem_singleton] at hc; rw [hc]; decide⟩
      · refine ⟨_, rfl, ?_, by rw [len_app, sl_len, ea]; show 1 + z.length ≤ 4000; omega, fun c hc => ?_⟩
        · rw [decide_eq_true rfl]
          refine GoodN.ok fun t ht => ?_
          obtain rfl : Str.ofString "^" ++ z = t := Option.some.inj ht
          refine ⟨by rw [sl_app, ea]; simp, by rw [sl_app, ea, List.singleton_append, List.nodup_cons]; exact ⟨n94, hnd⟩, fun c hc => ?_, by rw [len_app, sl_len, ea]; show 1 + z.length ≤ 1001; omega⟩
          rw [sl_app, ea, List.mem_append, List.mem_singleton] at hc
          exact hc.symm
        · rw [sl_app, ea, List.mem_append, List.mem_singleton] at hc
          refine hc.elim (fun h => ?_) (okz c)
          rw [h]
          decide
    obtain ⟨y, hy, hb, yl, yok⟩ := pick
    refine ⟨_, hy, ?_⟩
    refine ⟨_, rfl, _, rfl, _, rfl, _, rfl, _, rfl, g, _, 4, _, rfl, B3 _ _ hg2 nga, by show 4 < 6; decide, fun p1 H5 hp1 s5 h5 => ?_⟩
    have S5 := S3.same s5
    have B5 := B3.trans (But.of s5)
    have n1a := newa _ p1 S3 hp1
    have hq5 := B5 _ _ hq2 nqa
    refine ⟨by show 1 ≤ sizeLine; decide, fun e he => ?_⟩
    refine ⟨l, e, vs, _, rfl, rfl, Same.new he _ _ (cat _ B5), upd_same, lcat, fun e2 he2 => ⟨c3, fun p hp => ?_⟩⟩
    refine ⟨_, rfl, _, rfl, _, _, rfl, rfl, l7, rfl, c2, fun p2 hp2 => ?_⟩
    exact more H5 (.ref p1) ⟨0, sg c0, [1], 0, some y, none⟩ _ ⟨ln1, by show 1 ≤ 4000; decide, (fun t h => by rw [← Option.some.inj h]; exact yl), (fun t h => by cases h)⟩ ⟨okc, (fun t h => by rw [← Option.some.inj h]; exact yok), (fun t h => by cases h)⟩ (by rw [rule_ahead hn1 hc0, hb, eq_str]) S5 B5 ⟨p1, q, rfl, by rw [off_ne n1a]; exact h5, by rw [off_ne nqa]; exact hq5⟩ e he e2 he2 p hp _ (Same.refl _) p2 hp2
  -- 8
  refine ⟨_, rfl, rfl, _, rfl, ite2 (fun _ => ?_) (fun _ => ?_)⟩
  · refine rd_pick rfl S2 (by decide) (by decide) (fun Q q => ⟨_, rfl, _, _, rfl, rfl, l8, q⟩) (by show 5 ≤ sizeLine; decide) fun x H3 x0 x1 S3 B3 => ?_
    have pick : ∃ y : Str, atI [V.str (Str.ofString ""), V.str (Str.ofString "$$"), V.str (Str.ofString "^"), V.str (Str.ofString "z"), V.str (z ++ Str.ofString "$")] x = some (.str y) ∧ nearB (some y) z 36 = decide (y = z ++ Str.ofString "$") ∧ y.length ≤ 4000 ∧ okS y := by
      have : x = 0 ∨ x = 1 ∨ x = 2 ∨ x = 3 ∨ x = 4 := by omega
      rcases this with rfl | rfl | rfl | rfl | rfl
      · exact ⟨_, rfl, by rw [ne_sl (by rw [sl_mt, sl_app, ed]; simp), near_mt sl_mt], by decide +kernel, fun c hc => by rw [sl_mt] at hc; cases hc⟩
      · refine ⟨_, rfl, ?_, by decide +kernel, fun c hc => by rw [edd] at hc; have hcc : c = 36 := (by simpa using hc); rw [hcc]; decide⟩
        rw [ne_sl (by rw [sl_app, ed, edd, hz]; intro h; have := (List.cons.inj h).1; exact hc36 this.symm), near_dup (by rw [edd]; simp)]
      · exact ⟨_, rfl, by rw [ne_sl (by rw [sl_app, ea, ed, hz]; intro h; have := (List.cons.inj h).1; exact hc94 this.symm), near_not (d := 94) (by rw [ea]; simp) n94 (by decide)], by decide +kernel, fun c hc => by rw [ea, List.mem_singleton] at hc; rw [hc]; decide⟩
      · exact ⟨_, rfl, by rw [ne_sl (by rw [sl_app, ez, ed, hz]; intro h; have := (List.cons.inj h).1; rw [← this] at hz; exact n122 (by rw [hz]; exact .head _)), near_not (d := 122) (by rw [ez]; simp) n122 (by decide)], by decide +kernel, fun c hc => by rw [ez, List.mem_singleton] at hc; rw [hc]; decide⟩
      · refine ⟨_, rfl, ?_, by rw [len_app, sl_len (Str.ofString "$"), ed]; show z.length + 1 ≤ 4000; omega, fun c hc => ?_⟩
        · rw [decide_eq_true rfl]
          refine GoodN.ok fun t ht => ?_
          obtain rfl : z ++ Str.ofString "$" = t := Option.some.inj ht
          refine ⟨by rw [sl_app, ed]; simp, ?_, fun c hc => ?_, by rw [len_app, sl_len (Str.ofString "$"), ed]; show z.length + 1 ≤ 1001; omega⟩
          · rw [sl_app, ed, List.nodup_append]
            exact ⟨hnd, by simp, fun x hx y hy e => n36 (by rw [List.mem_singleton] at hy; rw [← hy, ← e]; exact hx)⟩
          · rw [sl_app, ed, List.mem_append, List.mem_singleton] at hc
            exact hc
        · rw [sl_app, ed, List.mem_append, List.mem_singleton] at hc
          refine hc.elim (okz c) fun h => ?_
          rw [h]
          decide
    obtain ⟨y, hy, hb, yl, yok⟩ := pick
    refine ⟨_, hy, ?_⟩
    refine ⟨_, rfl, _, rfl, _, rfl, _, rfl, _, rfl, g, _, 5, _, rfl, B3 _ _ hg2 nga, by show 5 < 6; decide, fun p1 H5 hp1 s5 h5 => ?_⟩
    have S5 := S3.same s5
    have B5 := B3.trans (But.of s5)
    have n1a := newa _ p1 S3 hp1
    have hq5 := B5 _ _ hq2 nqa
    refine ⟨by show 1 ≤ sizeLine; decide, fun e he => ?_⟩
    refine ⟨l, e, vs, _, rfl, rfl, Same.new he _ _ (cat _ B5), upd_same, lcat, fun e2 he2 => ⟨c3, fun p hp => ?_⟩⟩
    refine ⟨_, rfl, _, rfl, _, _, rfl, rfl, l8, rfl, c2, fun p2 hp2 => ?_⟩
    exact more H5 (.ref p1) ⟨0, sg c0, [1], 0, none, some y⟩ _ ⟨ln1, by show 1 ≤ 4000; decide, (fun t h => by cases h), (fun t h => by rw [← Option.some.inj h]; exact yl)⟩ ⟨okc, (fun t h => by cases h), (fun t h => by rw [← Option.some.inj h]; exact yok)⟩ (by rw [rule_behind hn1 hc0, hb, eq_str]) S5 B5 ⟨p1, q, rfl, by rw [off_ne n1a]; exact h5, by rw [off_ne nqa]; exact hq5⟩ e he e2 he2 p hp _ (Same.refl _) p2 hp2
  -- 9
  refine ⟨_, rfl, rfl, _, rfl, ite2 (fun _ => ?_) (fun _ => ?_)⟩
  · refine ⟨_, rfl, Nat.zero_le _, fun e he => ⟨c3, fun p hp => ⟨c2, fun p2 hp2 => ?_⟩⟩⟩
    have nea := newa _ e S2 he
    exact fin1 (upd H2 e (.lst [])) (Str.ofString "") n e [] false (S2.same (Same.new he)) (B2.trans (But.of (Same.new he))) (rows_nil _ e upd_same nea) ⟨by show (Str.ofString "").length ≤ 4000; decide +kernel, by show 0 ≤ 4000; omega, fun r hr => absurd hr List.not_mem_nil⟩ ⟨(fun c hc => by rw [show (⟨Str.ofString "", n, []⟩ : TD).signs = Str.ofString "" from rfl, sl_mt] at hc; cases hc), fun r hr => absurd hr List.not_mem_nil⟩ (let_signs (by decide +kernel)) p hp p2 hp2
  -- 10
  refine ⟨_, rfl, rfl, _, rfl, ite2 (fun _ => ?_) (fun _ => ?_)⟩
  · refine ⟨_, rfl, a, L, 2, rfl, S2, by decide, by decide, fun x H3 x0 x1 S3 B3 => ?_⟩
    refine ⟨_, _, rfl, rfl, _, rfl, _, rfl, by decide +kernel, ?_⟩
    have pick : ∃ y : Str, cutS (Str.ofString "0123456789:;<=>?@ABCDEFGHIJKLMNOPQRSTUVWXYZ[]_abcdefghijklmnop") none (some (60 + x)) = y ∧ signsB y = decide (V.int (y.length : Int) = V.int 60) ∧ y.length ≤ 4000 ∧ okS y := by
      have : x = 0 ∨ x = 1 := by omega
      rcases this with rfl | rfl
      · exact ⟨_, rfl, by decide +kernel, by decide +kernel, by unfold okS; decide +kernel⟩
      · exact ⟨_, rfl, by decide +kernel, by decide +kernel, by unfold okS; decide +kernel⟩
    obtain ⟨y, hy, hb, yl, yok⟩ := pick
    rw [hy]
    refine ⟨_, rfl, _, rfl, Nat.zero_le _, fun e he => ⟨c3, fun p hp => ⟨_, rfl, y, rfl, small4 yl, rfl, c2, fun p2 hp2 => ?_⟩⟩⟩
    have nea := newa _ e S3 he
    refine fin1 (upd H3 e (.lst [])) y n e [] _ (S3.same (Same.new he)) (B2.trans (B3.trans (But.of (Same.new he)))) (rows_nil _ e upd_same nea) ⟨yl, by show 0 ≤ 4000; omega, fun r hr => absurd hr List.not_mem_nil⟩ ⟨yok, fun r hr => absurd hr List.not_mem_nil⟩ ?_ p hp p2 hp2
    rw [← hb]
    unfold letB
    rw [show (⟨y, n, []⟩ : TD).modes = n from rfl, gd.many]
    simp
  -- the parts themselves
  refine ⟨_, rfl, c2, fun p2 hp2 => k p2 (.ref u) ⟨z, n, rs⟩ _ ?_ ?_ ⟨by show z.length ≤ 4000; omega, by show rs.length ≤ 4000; omega, szs⟩ ⟨okz, lays⟩ (S2.same (Same.new hp2)) (B2.trans (But.of (Same.new hp2)))⟩
  · rw [gd.ok]
    exact upd_same
  · exact PartsT.same ⟨u, l, rfl, by rw [off_ne hua]; exact B2 _ _ huH hua, hR2⟩ (off_up (Same.new hp2))
end
end Sx

set_option Elab.async false
set_option linter.all false
set_option maxRecDepth 100000
set_option maxHeartbeats 2000000
namespace Sx
open PySem PySem.Spec PyProof.Rows L2 SxA
theorem every_low : ∀ c ∈ everyL, c < 1114112 := by decide
theorem GoodT.sz {d : TD} (gd : GoodT d) : d.sz := by
  have gz := gd.z
  have few := gd.few
  refine ⟨Nat.le_trans gz.l2 (by decide), by omega, fun r hr => ?_⟩
  have g := gd.rules r hr
  obtain ⟨t1, t2, _⟩ := g.text
  refine ⟨by omega, by have := g.cells.2.1; omega, fun t ht => ?_, fun t ht => ?_⟩
  · have := (g.ahead t ht).2.2.2; omega
  · have := (g.behind t ht).2.2.2; omega
theorem GoodT.lay {d : TD} (gd : GoodT d) : d.lay := by
  have okz : okS d.signs := fun c hc => every_low c (gd.all c hc)
  refine ⟨okz, fun r hr => ?_⟩
  have g := gd.rules r hr
  refine ⟨fun c hc => okz c (g.text.2.2 c hc), fun t ht c hc => ?_, fun t ht c hc => ?_⟩
  · rcases (g.ahead t ht).2.2.1 c hc with q | q
    · exact okz c q
    · rw [q]; decide
  · rcases (g.behind t ht).2.2.1 c hc with q | q
    · exact okz c q
    · rw [q]; decide
/-! ### the dots of a cell -/
def powL : List Int := [1, 2, 4, 8, 16, 32]
def lawB (c : Int) (i : Nat) : Bool := decide (V.int ((c / powL.getD i 1) % 2) = V.int 1)
theorem law_bits : ∀ c : Fin 64, ∀ i : Fin 6, lawB ((c.val : Nat) : Int) i.val = bitB ((c.val : Nat) : Int) i.val := by decide +kernel
theorem law_cell : ∀ c : Fin 64, cellL (dotsL ((c.val : Nat) : Int)) = ((c.val : Nat) : Int) ∧ cellL (dotsL ((c.val : Nat) : Int)).reverse = ((c.val : Nat) : Int) := by decide +kernel
theorem law_dots {c : Int} (h0 : 0 ≤ c) (h1 : c < 64) : ((List.range 6).filter (lawB c)) = (List.range 6).filter (bitB c) := by
  refine List.filter_congr fun i hi => ?_
  have := law_bits ⟨c.toNat, by omega⟩ ⟨i, List.mem_range.mp hi⟩
  rw [show ((c.toNat : Nat) : Int) = c by omega] at this
  exact this
theorem law_back {c : Int} (h0 : 0 ≤ c) (h1 : c < 64) : cellL (dotsL c) = c ∧ cellL (dotsL c).reverse = c := by
  have := law_cell ⟨c.toNat, by omega⟩
  rw [show ((c.toNat : Nat) : Int) = c by omega] at this
  exact this
section
variable {P : Program} {w : World} {K : PySem.W.Frag} {mg : Str → Option Value} {base : Heap}
/-- over a range, filtered by a test that makes objects -/
theorem lc_rangeS {lo : Int} {n : Nat} {f : Nat → Bool} {F : Nat → V} {tt : TT} {te : TE} {i0 : Nat} {vs : List Nat} {σ : L2.St} {H1 : Hp} {D : Addr} {Qd : Hp → Prop} (hD : H1 D = none) (hn : n ≤ sizeLine)
    (hw : ∀ u : V, wipe ((wipe σ vs).set i0 (some u)) vs = wipe σ vs)
    (ht : ∀ (i : Nat) (H : Hp) (Q : Bool → Hp → Prop), i < n → Same H1 H → (∀ H', Same H H' → Q (f i) H') → tt ((wipe σ vs).set i0 (some (.int (lo + (i : Nat))))) H Q)
    (he : ∀ (i : Nat) (H : Hp) (Q : VK), i < n → Same H1 H → Q (F i) H → te ((wipe σ vs).set i0 (some (.int (lo + (i : Nat))))) H Q)
    (hd : ∀ H, Same H1 H → H D = some (.lst (((List.range n).filter f).map F)) → Qd H) :
    ∃ W : Nat → Nat → Hp → Prop, (∃ m, W 0 m (upd H1 D (.lst []))) ∧ ∀ i m H, W i m H → ((Itr lo n).stop i H ∧ Qd H) ∨ ((Itr lo n).go i H ∧ ∃ Nx : Hp → Prop, (∀ H', Nx H' → ∃ m', m' < m ∧ W (i + 1) m' H') ∧
      ∀ x H', (Itr lo n).yld i H x H' → (gName i0) x (wipe σ vs) H' fun σ2 H2 => wipe σ2 vs = wipe σ vs ∧ tt σ2 H2 fun b H3 => if b = true then te σ2 H3 fun y H4 => ∃ acc, H4 D = some (.lst acc) ∧ acc.length < sizeLine ∧ Nx (upd H4 D (.lst (acc ++ [y]))) else Nx H3) := by
  have step : ∀ i, ((List.range (i + 1)).filter f).map F = ((List.range i).filter f).map F ++ (if f i = true then [F i] else []) := fun i => by
    rw [List.range_succ, List.filter_append, List.map_append]
    by_cases h : f i = true
    · rw [if_pos h]; simp [List.filter_cons, h]
    · rw [if_neg h]; simp [List.filter_cons, h]
  have small : ∀ i, i < n → (((List.range i).filter f).map F).length < sizeLine := fun i h => by
    rw [List.length_map]
    have := List.length_filter_le f (List.range i)
    rw [List.length_range] at this
    omega
  refine lc_range (g := gName i0) (tt := tt) (te := te) (fun i H => Same H1 H ∧ H D = some (.lst (((List.range i).filter f).map F))) ⟨Same.new hD, upd_same⟩ ?_ (fun H q => hd H q.1 q.2)
  rintro i H hi ⟨sm, hH⟩
  refine ⟨hw _, ht i H _ hi sm fun H' s' => ?_⟩
  have hH' := s' _ _ hH
  have sm' := sm.trans s'
  by_cases h : f i = true
  · rw [if_pos h]
    refine he i H' _ hi sm' ⟨_, hH', small i hi, Same.put sm' hD, ?_⟩
    rw [upd_same, step, if_pos h]
  · rw [if_neg h]
    exact ⟨sm', by rw [hH', step, if_neg h, List.append_nil]⟩
def spLaw (K : PySem.W.Frag) : Sp := fun vs H Q _ => ∃ (a : Addr) (ns : List Int), vs = [.ref a] ∧ SqL K H a (ns.map V.int) ∧ ns.length ≤ 63 ∧ ∀ H', Q (.bl true) H'
abbrev nsLaw : List Str := ["script", "state", "parts", "table", "changed", "due", "other", "cells", "rules", "one", "cell", "dots", "dot"]
theorem scLaw : FnScope nsLaw ["script"] (defScope sLaw) := ⟨rfl, rfl, rfl, by decide +kernel, rfl, by decide +kernel, by decide +kernel⟩
theorem mkFn {x : Str} {st : Stmt} {N ps : List Str} {k : Nat} {sp : Sp} {fd : FuncData} (F : FunD K x x (defArgs st) (defBody st) (defScope st) [] [] (He.ga K x) fd) (S : FnScope N ps (defScope st)) (len : ∀ vs H Q E, sp vs H Q E → vs.length = ps.length)
    (body : ∀ (cdv : Value) (A : Around) (outer : List Env) (s : Shared) (H0 : Hp) (vs : List V) (Q : VK) (E : XK), Room k (A.deeper (envOfC x (defScope st) s.heap.objs.size (He.ga K x) cdv)) → sp vs H0 Q E →
      ∃ t, PSs (cxOf CX0 P w K mg base N x (defScope st) (He.ga K x) cdv A outer s H0 E).nox (defBody st) t ∧ t { nx := fun _ H' => Q .non H', rt := Q } (start N vs) H0) : FnOk P w K mg base CX0 (k + 1) (He.ga K x) fd ps sp := by
  refine F.ok S len fun cdv A outer s H vs Q E hr h => ?_
  obtain ⟨t, h1, h2⟩ := body cdv A outer s H vs Q E hr h
  exact ⟨t, h1.nox, h2⟩
theorem ok_law (t : T K mg) {fd : FuncData} (F : FunD K "law" "law" (defArgs sLaw) (defBody sLaw) (defScope sLaw) [] [] (He.ga K "law") fd) : FnOk P w K mg base CX0 7 (He.ga K "law") fd ["script"] (spLaw K) := by
  obtain ⟨fdR, FR, ⟨ds, vds, bR⟩, _⟩ := ok_rule (P := P) (w := w) (base := base) t
  obtain ⟨fdT, FT, bT⟩ := ok_table (P := P) (w := w) (base := base) t
  refine mkFn F scLaw (fun vs H Q E h => ?_) fun cdv A outer s H vs Q E hr h => ?_
  · obtain ⟨a, ns, rfl, _⟩ := h; rfl
  obtain ⟨sc, ns, rfl, hS, hlen, k⟩ := h
  have hr1 : Room 1 _ := hr.mono (by decide)
  have hr2 : Room 2 _ := hr.mono (by decide)
  have hr4 : Room 4 _ := hr.mono (by decide)
  have hr5 : Room 5 _ := hr.mono (by decide)
  refine ⟨_, pss_cons (ps_set (i := 1) scLaw.nd rfl (Or.inl rfl) (pe_ok (ok_state t) hr1 rfl (pa_cons (pv 0) pa_nil)))
    (pss_cons (ps_set (i := 2) scLaw.nd rfl (Or.inl rfl) (pe_ok (ok_parts t) hr4 rfl (pa_cons (pv 1) pa_nil)))
    (pss_cons (ps_set (i := 3) scLaw.nd rfl (Or.inl rfl) (pe_ok (ok_tab t) hr rfl (pa_cons (pv 2) pa_nil)))
    (pss_cons (ps_if (PW.pt (pw_or (pt_cmpR op_notBl (pe_ok (ok_let t) hr4 rfl (pa_cons (pv 3) pa_nil)) pe_bl (nomark _)) (pw_or1 (pt_cmpR op_notBl (pe_ok (ok_sameT t) hr2 rfl (pa_cons (pv 3) (pa_cons (pe_ok (ok_tab t) hr rfl (pa_cons (pv 2) pa_nil)) pa_nil))) pe_bl (nomark _))))) (pss_one (ps_ret pe_bl)) pss_nil)
    (pss_cons (ps_asg (pe_ok (ok_ch t) hr2 rfl (pa_cons (pv 1) (pa_cons (pv 2) pa_nil))) (pg_tup rfl (pgs_cons (pg_name (i := 4) scLaw.nd rfl (Or.inl rfl)) (pgs_cons (pg_name (i := 5) scLaw.nd rfl (Or.inl rfl)) pgs_nil))))
    (pss_cons (ps_set (i := 6) scLaw.nd rfl (Or.inl rfl) (pe_ok (ok_tab t) hr rfl (pa_cons (pv 4) pa_nil)))
    (pss_cons (ps_if (PW.pt (pw_or (pt_cmpR op_ne (pe_ok (ok_let t) hr4 rfl (pa_cons (pv 6) pa_nil)) (pv 5) (nomark _)) (pw_or1 (pt_cmpR op_ne (pe_ok (ok_sameT t) hr2 rfl (pa_cons (pv 3) (pa_cons (pv 6) pa_nil))) (pe_cmpR (op_eqD (hu64 hr)) (pv 4) (pv 2) (nomark _)) (nomark _))))) (pss_one (ps_ret pe_bl)) pss_nil)
    (pss_cons (ps_set (i := 7) scLaw.nd rfl (Or.inl rfl) (pe_lst (pa_cons pe_int (pa_cons pe_int pa_nil))))
    (pss_cons (ps_set (i := 8) scLaw.nd rfl (Or.inl rfl) (pe_lst (pa_cons (pe_make t.m_Rule FR hr2 rfl t.g_Rule bR vds pass0 (pa_cons pe_int (pa_cons pe_str (pa_cons (pv 7) (pa_cons pe_int pa_nil))))) pa_nil)))
    (pss_cons (ps_set (i := 9) scLaw.nd rfl (Or.inl rfl) (pe_make t.m_Table FT hr5 rfl t.g_Table bT .nil pass0 (pa_cons pe_str (pa_cons pe_int (pa_cons (pv 8) pa_nil)))))
    (pss_cons (ps_expr (pe_bm PySem.F.plainAttrs_list PySem.F.slot_list_append PySem.F.type_list_append mt_append (pv 7) (pa_cons pe_int pa_nil)))
    (pss_cons (ps_expr (pe_bm PySem.F.plainAttrs_list PySem.F.slot_list_append PySem.F.type_list_append mt_append (pv 8) (pa_cons (pe_ix ix_list (pv 8) pe_int (fun _ _ => rfl)) pa_nil)))
    (pss_cons (ps_if (PW.pt (pw_or (pt_cmpR op_ne (pe_callB call_len_seq rfl t.f_len boot_len (pa_cons (pe_fld (pv 9) rfl) pa_nil)) pe_int (nomark _)) (pw_or1 (pt_cmpR (op_neD (hu64 hr)) (pe_fld (pe_ix ix_list (pe_fld (pv 9) rfl) pe_int (fun _ _ => rfl)) rfl) (pe_lst (pa_cons pe_int (pa_cons pe_int pa_nil))) (nomark _))))) (pss_one (ps_ret pe_bl)) pss_nil)
    (pss_cons (ps_set (i := 10) scLaw.nd rfl (Or.inr rfl) (pe_ok (ok_draw t) hr1 rfl (pa_cons (pv 1) (pa_cons pe_int pa_nil))))
    (pss_cons (ps_setLc (i := 11) (own := [("dot", 12)]) (g := gName 12) (by rfl) scLaw.nd rfl rfl (sw_true rfl rfl rfl (by decide +kernel)) (pi_range2 rfl t.f_range (pa_cons pe_int (pa_cons pe_int pa_nil))) (blkOk_by (own := [("dot", 12)]) (N := nsLaw) (sc := defScope sLaw) (by decide +kernel)) (fun _ _ _ _ _ => pg_name (i := 12) scLaw.nd rfl (Or.inl rfl))
      (fun _ _ _ _ _ => pts_one (pt_cmpR op_eq (pe_op op_mod (pe_callTy call_int1 rfl t.f_int (by decide +kernel) (pa_cons (pe_op op_fdiv (pv 10) (pe_ix (ix_listK (K := K) rfl) (pe_lst (pa_cons pe_int (pa_cons pe_int (pa_cons pe_int (pa_cons pe_int (pa_cons pe_int (pa_cons pe_int pa_nil))))))) (pe_op op_sub (pv 12) pe_int) (fun _ _ => rfl))) pa_nil)) pe_int) pe_int (nomark _))) (fun _ _ _ _ _ => pv 12))
    (pss_one (ps_ret (pe_and (pe_cmpR (op_eqD (hu64 hr)) (pe_ok (ok_dots t) hr1 rfl (pa_cons (pv 10) pa_nil)) (pv 11) (nomark _)) (pe_and (pe_cmpR op_eq (pe_ok (ok_cellOf t) hr1 rfl (pa_cons (pv 11) pa_nil)) (pv 10) (nomark _))
      (pe_one (pe_cmpR op_eq (pe_ok (ok_cellOf t) hr1 rfl (pa_cons (pe_listRev rfl t.f_list rfl t.f_reversed (pv 11)) pa_nil)) (pv 10) (nomark _))))))))))))))))))))), ?_⟩
  -- state, parts, table
  refine ⟨_, rfl, sc, ns, rfl, hS, fun a L H1 ha0 hL0 s1 S1 => ?_⟩
  refine ⟨_, rfl, a, L, rfl, S1, fun v d H2 gd hP S2 B2 => ?_⟩
  obtain ⟨o1, ha1⟩ := S1.hasA
  have P2 : PartsT (off a H2) v d := hP.same (fresh_off ha1)
  have few : d.rules.length ≤ 4000 := by have := gd.few; omega
  refine ⟨_, rfl, v, d, rfl, P2.same off_le, few, fun tv H3 s3 t3 => ?_⟩
  obtain ⟨o2, ha2⟩ := S2.hasA
  have S3 := S2.same s3
  have T3 : TableO K (off a H3) tv d := t3.same (fresh_off ha2)
  have P3 : PartsT (off a H3) v d := P2.same (off_up s3)
  -- the table is let by, and the same as another one
  refine ⟨_, rfl, tv, d, rfl, T3.same off_le, gd.sz, fun H4 s4 => ⟨_, true, rfl, rfl, _, rfl, ?_⟩⟩
  rw [gd.ok]
  refine iteF ?_
  have P4 : PartsT (off a H4) v d := P3.same (off_up s4)
  have T4 : TableO K (off a H4) tv d := T3.same (off_up s4)
  refine ⟨_, rfl, _, rfl, v, d, rfl, P4.same off_le, few, fun tv2 H5 s5 t5 => ?_⟩
  refine ⟨tv, tv2, d, d, rfl, (T4.same off_le).same s5, t5.same fresh_le, few, fun H6 s6 => ⟨_, true, rfl, rfl, _, rfl, ?_⟩⟩
  rw [decide_eq_true (rfl : d = d)]
  refine iteF ?_
  have s46 := s5.trans s6
  have S6 := S3.same (s4.trans s46)
  have P6 : PartsT (off a H6) v d := P4.same (off_up s46)
  have T6 : TableO K (off a H6) tv d := T4.same (off_up s46)
  -- the change
  refine ⟨_, rfl, _, rfl, a, L, v, d, rfl, S6, P6, gd, fun p1 u1 d' H7 hp1 P7' sz' lay' S7 B7 => ?_⟩
  refine ⟨p1, _, rfl, SqT.of hp1, rfl, _, _, rfl, _, _, rfl, rfl, ?_⟩
  have P7 : PartsT (off a H7) v d := P6.same (off_but B7)
  have T7 : TableO K (off a H7) tv d := T6.same (off_but B7)
  refine ⟨_, rfl, u1, d', rfl, P7'.same off_le, sz'.2.1, fun tw H8 s8 t8 => ?_⟩
  have T8 : TableO K H8 tv d := (T7.same off_le).same s8
  have W8 : TableO K H8 tw d' := t8.same fresh_le
  refine ⟨_, rfl, tw, d', rfl, W8, sz', fun H9 s9 => ⟨_, rfl, rfl, _, rfl, ?_⟩⟩
  rw [show (!decide (V.bl (letB d') = V.bl (letB d'))) = false by simp]
  refine iteF ?_
  refine ⟨_, rfl, _, rfl, tv, tw, d, d', rfl, T8.same s9, W8.same s9, few, fun H10 s10 => ?_⟩
  have s810 := s8.trans (s9.trans s10)
  refine ⟨_, rfl, _, rfl, pyT d', pyT d, dp_t ((P7'.same off_le).same s810), dp_t ((P7.same off_le).same s810), shaped_t lay', shaped_t gd.lay, rfl, _, rfl, ?_⟩
  rw [eqv_t, show decide (d' = d) = decide (d = d') from decide_eq_decide.mpr eq_comm, show (!decide (V.bl (decide (d = d')) = V.bl (decide (d = d')))) = false by simp]
  refine iteF ?_
  have S10 := S7.same s810
  -- a table of one's own
  refine ⟨by show 2 ≤ sizeLine; decide, fun c hc => ?_⟩
  have x0 := Same.new (o := HO.lst [V.int 1, V.int 2]) hc
  refine ⟨_, rfl, fun x dx hx hdx nxx => ?_⟩
  have x1 : Same (upd H10 c (.lst [.int 1, .int 2])) (upd (upd (upd H10 c (.lst [.int 1, .int 2])) dx (.own x)) x (.ins (He.ga K "Rule") dx [])) := fun b o e => by
    rw [upd_ne (ne_of_none e hx), upd_ne (ne_of_none e hdx)]
    exact e
  refine ⟨x, dx, c, ⟨0, Str.ofString "a", [1, 2], 0, none, none⟩, rfl, upd_same, SqL.of (x1 _ _ upd_same), fun H11 l hl h11 h11l fr => ⟨rfl, ?_⟩⟩
  have x2 : Same (upd H10 c (.lst [.int 1, .int 2])) H11 := Same.made hx hdx fr
  refine ⟨by show 1 ≤ sizeLine; decide, fun e he => ?_⟩
  have x3 := Same.new (o := HO.lst [V.ref x]) he
  have Rx : RuleO K (upd H11 e (.lst [.ref x])) (.ref x) ⟨0, Str.ofString "a", [1, 2], 0, none, none⟩ := ⟨x, dx, l, rfl, x3 _ _ h11, x3 _ _ h11l⟩
  have hc12 : upd H11 e (.lst [.ref x]) c = some (.lst [.int 1, .int 2]) := x3 _ _ (x2 _ _ upd_same)
  have S12 : St (upd H11 e (.lst [.ref x])) a L := S10.same (x0.trans (x2.trans x3))
  have he12 : upd H11 e (.lst [.ref x]) e = some (.lst [.ref x]) := upd_same
  generalize upd H11 e (.lst [.ref x]) = H12 at Rx hc12 S12 he12 ⊢
  have nac : a ≠ c := fun q => by
    obtain ⟨o, h⟩ := S10.hasA
    rw [q, hc] at h
    cases h
  have nLc : L ≠ c := fun q => by
    obtain ⟨o, h⟩ := S10.hasL
    rw [q, hc] at h
    cases h
  have nae : a ≠ e := fun q => by
    obtain ⟨o, h⟩ := (S10.same (x0.trans x2)).hasA
    rw [q, he] at h
    cases h
  have nLe : L ≠ e := fun q => by
    obtain ⟨o, h⟩ := (S10.same (x0.trans x2)).hasL
    rw [q, he] at h
    cases h
  refine ⟨_, rfl, fun y dy hy hdy nyy => ?_⟩
  have x4 : Same H12 (upd (upd H12 dy (.own y)) y (.ins (He.ga K "Table") dy [])) := fun b o e => by
    rw [upd_ne (ne_of_none e hy), upd_ne (ne_of_none e hdy)]
    exact e
  refine ⟨y, dy, e, ⟨Str.ofString "a", 1, [⟨0, Str.ofString "a", [1, 2], 0, none, none⟩]⟩, rfl, upd_same, ⟨[.ref x], x4 _ _ he12, rfl, fun i v r hv hr => ?_⟩, by show 1 ≤ 4000; decide, fun H13 m hm h13 hR13 fr13 => ⟨rfl, ?_⟩⟩
  · have i0 : i = 0 := by
      have := (List.getElem?_eq_some_iff.mp hv).1
      rw [List.length_singleton] at this
      omega
    subst i0
    obtain rfl : V.ref x = v := Option.some.inj hv
    have er : (⟨0, Str.ofString "a", [1, 2], 0, none, none⟩ : RD) = r := Option.some.inj hr
    subst er
    exact Rx.same x4
  have x5 : Same H12 H13 := Same.made hy hdy fr13
  have TO : TableO K (fresh H12 H13) (.ref y) ⟨Str.ofString "a", 1, [⟨0, Str.ofString "a", [1, 2], 0, none, none⟩]⟩ :=
    ⟨y, dy, m, rfl, by rw [fresh_of hy]; exact h13, hR13.same (fresh_up (fun b hb => Sx.Same.none x4 b hb) (Same.refl _))⟩
  have hc13 := x5 _ _ hc12
  have he13 := x5 _ _ he12
  have S13 := S12.same x5
  -- cells.append(3); rules.append(rules[0])
  refine ⟨_, rfl, .inl ⟨rfl, _, SqL.of hc13⟩, c, _, _, rfl, rfl, hc13, by show 2 < sizeLine; decide, ?_⟩
  have nce : e ≠ c := fun q => by
    rw [q, hc13] at he13
    cases he13
  have he14 : upd H13 c (.lst ([.int 1, .int 2] ++ [.int 3])) e = some (.lst [.ref x]) := by rw [upd_ne nce]; exact he13
  refine ⟨_, rfl, .inl ⟨rfl, _, SqL.of he14⟩, _, rfl, e, _, _, _, rfl, rfl, SqL.of he14, atI_nat (j := 0) rfl, e, _, _, rfl, rfl, he14, by show 1 < sizeLine; decide, ?_⟩
  have x6 : Same (fresh H12 H13) (upd (upd H13 c (.lst ([.int 1, .int 2] ++ [.int 3]))) e (.lst ([.ref x] ++ [.ref x]))) := fun b o h => by
    obtain ⟨h1, h2⟩ := fresh_some h
    have be : b ≠ e := fun q => by
      rw [q, he12] at h1
      cases h1
    have bc : b ≠ c := fun q => by
      rw [q, hc12] at h1
      cases h1
    rw [upd_ne be, upd_ne bc]
    exact h2
  have T15 := TO.same x6
  have S15 := (S13.write (o := HO.lst ([.int 1, .int 2] ++ [.int 3])) nac nLc).write (o := HO.lst ([.ref x] ++ [.ref x])) nae nLe
  generalize upd (upd H13 c (.lst ([.int 1, .int 2] ++ [.int 3]))) e (.lst ([.ref x] ++ [.ref x])) = H15 at T15 S15 ⊢
  obtain ⟨y', dy', m', ey, hy15, ⟨vs15, hv15, hl15, hr15⟩⟩ := T15
  obtain rfl : y = y' := V.ref.inj ey
  obtain ⟨v0, rfl⟩ : ∃ v0, vs15 = [v0] := by
    match vs15, hl15 with
    | [v0], _ => exact ⟨v0, rfl⟩
  obtain ⟨xr, dxr, lr, ev0, hxr, hlr⟩ := hr15 0 v0 _ rfl rfl
  refine ⟨_, rfl, y, _, dy', _, _, rfl, hy15, t.c_Table, t.n_Table_rules, lk_rules _ _, m', _, rfl, .inl (SqL.of hv15), rfl, _, rfl, ?_⟩
  refine iteF ?_
  refine ⟨_, rfl, y, _, dy', _, _, rfl, hy15, t.c_Table, t.n_Table_rules, lk_rules _ _, m', _, _, v0, rfl, rfl, SqL.of hv15, atI_nat (j := 0) rfl, ?_⟩
  refine ⟨xr, _, dxr, _, _, ev0, hxr, t.c_Rule, t.n_Rule_cells, lk_cells _ _, by show 2 ≤ sizeLine; decide, fun q hq => ?_⟩
  have x7 := Same.new (o := HO.lst [V.int 1, V.int 2]) hq
  refine ⟨pInts [1, 2], pInts [1, 2], dp_ints (SqL.of (x7 _ _ hlr)), dp_ints (xs := [1, 2]) (SqL.of upd_same), shaped_ints _, shaped_ints _, _, rfl, ?_⟩
  rw [eqv_ints]
  refine iteF ?_
  -- a cell, and its dots
  refine ⟨_, rfl, a, L, 64, rfl, S15.same x7, by decide, by decide, fun ce H17 ce0 ce1 S17 B17 => ?_⟩
  refine ⟨1, 7, rfl, ⟨by decide, by decide, by decide, by decide⟩, fun D hD => ?_⟩
  refine lc_rangeS (vs := [12]) (σ := [some (.ref sc), some (.ref a), some v, some tv, some u1, some (.bl (letB d')), some tw, some (.ref c), some (.ref e), some (.ref y), some (.int ce), none, none]) (lo := 1) (n := ((7 : Int) - 1).toNat) (i0 := 12) (f := lawB ce) (F := fun i => .int (1 + (i : Int))) hD (by decide) (fun _ => rfl) (fun i G Q1 hi sm q1 => ?_) (fun i G Q1 hi sm q1 => ?_) (fun H18 s18 hD18 => ?_)
  · refine ⟨_, rfl, by show 6 ≤ sizeLine; decide, fun r hr' => ?_⟩
    have i6 : i < 6 := hi
    have ai : atI [V.int 1, V.int 2, V.int 4, V.int 8, V.int 16, V.int 32] (1 + (i : Int) - 1) = some (.int (powL.getD i 1)) := by
      have e : (1 + (i : Int) - 1) = ((i : Nat) : Int) := by omega
      rw [e]
      refine atI_nat ?_
      match i, i6 with
      | 0, _ => rfl
      | 1, _ => rfl
      | 2, _ => rfl
      | 3, _ => rfl
      | 4, _ => rfl
      | 5, _ => rfl
    have pw : 0 < powL.getD i 1 ∧ powL.getD i 1 < 1073741824 := by
      match i, i6 with
      | 0, _ => decide
      | 1, _ => decide
      | 2, _ => decide
      | 3, _ => decide
      | 4, _ => decide
      | 5, _ => decide
    refine ⟨_, rfl, _, _, rfl, rfl, r, _, _, _, rfl, rfl, SqL.of upd_same, ai, _, _, rfl, rfl, pw, .inl ⟨_, rfl, ?_⟩⟩
    refine ⟨_, _, rfl, rfl, (by show (0 : Int) < 2; decide), rfl, _, rfl, q1 _ (Same.new hr')⟩
  · exact ⟨_, rfl, q1⟩
  have eD : ((List.range ((7 : Int) - 1).toNat).filter (lawB ce)).map (fun i : Nat => V.int (1 + (i : Int))) = (dotsL ce).map V.int := by
    show ((List.range 6).filter (lawB ce)).map _ = _
    rw [law_dots ce0 ce1]
    unfold dotsL
    rw [List.map_map]
    rfl
  rw [eD] at hD18
  obtain ⟨bk1, bk2⟩ := law_back ce0 ce1
  refine ⟨_, rfl, ce, rfl, fun H19 p s19 hp hp19 => ?_⟩
  have hD19 := s19 _ _ hD18
  refine ⟨_, rfl, _, _, dp_ints (SqL.of hp19), dp_ints (SqL.of hD19), shaped_ints _, shaped_ints _, _, rfl, ?_⟩
  rw [eqv_ints, decide_eq_true (rfl : dotsL ce = dotsL ce)]
  refine iteT ?_
  refine ⟨_, rfl, D, dotsL ce, rfl, SqL.of hD19, fun H20 s20 => ?_⟩
  rw [bk1]
  refine ⟨_, rfl, rfl, _, rfl, ?_⟩
  rw [decide_eq_true (rfl : V.int ce = V.int ce)]
  refine iteT ?_
  have hD20 := s20 _ _ hD19
  refine ⟨_, rfl, D, _, rfl, SqL.of hD20, fun r hr' => ?_⟩
  refine ⟨r, (dotsL ce).reverse, rfl, SqL.of (by rw [upd_same, List.map_reverse]), fun H21 s21 => ?_⟩
  rw [bk2]
  refine ⟨_, rfl, rfl, ?_⟩
  rw [decide_eq_true (rfl : V.int ce = V.int ce)]
  exact k _
end
end Sx

set_option Elab.async false
set_option linter.all false
set_option maxRecDepth 100000
set_option maxHeartbeats 0
namespace Sx
open PySem PySem.Spec PyProof.Rows L2 SxA
theorem facts {P : Program} {w : World} {K : PySem.W.Frag} {h : Heap} {mg : Str → Option Value} {f : Addr} (X : K.In h) (G : h.Ns mainGlobals mg) (hfa : mg ("law" : Str) = some (.ref f)) (c : He.SaysD fa fn K) :
    ∃ fd : FuncData, (∀ (s : Shared) (v : Value), BindsTo s fd ⟨[v], []⟩ [("script", v)]) ∧ ∀ base : Heap, K.In base → base.Ns mainGlobals mg → FnOk P w K mg base CX0 7 f fd ["script"] (spLaw K) := by
  have t : T K mg := ⟨c, h, X, G⟩
  obtain ⟨fd, F⟩ := t.d_law
  have e := hfa.symm.trans t.g_law
  cases e
  have b := FunD.bindsA (ps := ["script"]) F fun _ _ _ _ _ _ us hl => match us, hl with | [_], _ => rfl
  exact ⟨fd, fun s v => b s [v] rfl, fun base _ _ => ok_law t F⟩
end Sx
open PySem PySem.W PySem.Calls PyProof.Rows
set_option maxRecDepth 100000 in
set_option maxHeartbeats 0 in
theorem PySem.Challenge.cw_sixdot_k00_tables_that_are_let_by_holds : PySem.Challenge.rw_sixdot_k00_tables_that_are_let_by.Holds := by
  w_on; o_law
  refine HandSHeadRun.head_any (r := OpenLaw.row PySem.Challenge.rw_sixdot_k00_tables_that_are_let_by) (q := view (OpenLaw.row PySem.Challenge.rw_sixdot_k00_tables_that_are_let_by).prog [36]) (H := Sx.hk) (ob := Sx.ob) (M := 4000) (loose := Sx.loose) (d := HandSHeadRun.topDef (OpenLaw.row PySem.Challenge.rw_sixdot_k00_tables_that_are_let_by).prog 36) (kwd := []) Sx.ob_eq
    (by kernel_rfl) (fun s => by kernel_rfl) Sx.run (by kernel_rfl) (by kernel_rfl) (by kernel_rfl) (by rfl) (by first | assumption | decide +kernel) (by decide +kernel) ⟨rfl, rfl, rfl, rfl, rfl, by decide +kernel⟩ ?hw ?hc
  case hw => w_witness2
  case hc =>
    refine L2.walk_ofE (l := PySem.Challenge.rw_sixdot_k00_tables_that_are_let_by) (n := 63) (k := 7) (x := "script") (CX := L2.CX0) rfl (by decide) (by kernel_rfl) ⟨rfl, by decide, by decide⟩ ?F (fun _ _ _ _ z => z)
    intro w mg fa h Y G hmg0
    obtain ⟨K, KX, c⟩ := Y
    have hmg : mg ("law" : PySem.Str) = some (.ref fa) := by
      have e : (HandSHeadRun.topDef (OpenLaw.row PySem.Challenge.rw_sixdot_k00_tables_that_are_let_by).prog 36).name = ("law" : PySem.Str) := by kernel_rfl
      rw [← e]
      exact hmg0
    obtain ⟨fd, hb, hF⟩ := Sx.facts (P := (PySem.Challenge.rw_sixdot_k00_tables_that_are_let_by).prog) (w := w) KX G hmg c
    exact ⟨K, fd, Sx.spLaw K, KX, hb, fun H a ns hl _ hS => ⟨a, ns, rfl, hS, hl, fun _ => rfl⟩, hF⟩
#print axioms PySem.Challenge.cw_sixdot_k00_tables_that_are_let_by_holds
