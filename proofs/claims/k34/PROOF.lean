import PyProof.Rows.All
import Wide.All
import OpenK.AllK
import Wide.FinOn
import PyProof.Rows.SetFrom
import PyProof.StrWalks
import KE.KRevIter
import HandS.ForMost
import HandS.Rev
import HandS.RevTup
import HandS.Style
import HandS.Flow
import HandS.WideBits
import HandS.Codes
import HandS.IsInst
import HandS.Head0
import HandS.Head1
import HandS.Head2
import HandS.HeadEnd
import HandS.HeadHook1
import HandS.HeadHook2
import HandS.Defaults
import HandS.MakeKwOnly
import KE.KStateDown
import HandS.ForDict
import HandS.More
import HandS.Zip
import HandS.RevRange
import PySem.Challenge.RW_sixdot_k34_whole_accepted_prices_show_th
set_option Elab.async false
set_option linter.all false
set_option maxRecDepth 100000
set_option maxHeartbeats 4000000
/-! rules that the layer lacks: len(set(text)), text * int, list(reversed(list)) -/
namespace SxA
open PySem PySem.Spec PyProof.Rows L2

/-! ### the different signs of a text, in the order in which they come -/
def stepD (acc : List Nat) (c : Nat) : List Nat := if c ∈ acc then acc else acc ++ [c]
def firsts (l : List Nat) : List Nat := l.foldl stepD []
theorem firsts_snoc (l : List Nat) (c : Nat) : firsts (l ++ [c]) = stepD (firsts l) c := by
  unfold firsts; rw [List.foldl_append]; rfl
theorem mem_step (acc : List Nat) (c k : Nat) : k ∈ stepD acc c ↔ k ∈ acc ∨ k = c := by
  unfold stepD
  by_cases h : c ∈ acc
  · rw [if_pos h]
    exact ⟨Or.inl, fun q => q.elim id fun e => by rw [e]; exact h⟩
  · rw [if_neg h, List.mem_append, List.mem_singleton]
theorem mem_fold : ∀ (l acc : List Nat) (k : Nat), k ∈ l.foldl stepD acc ↔ k ∈ acc ∨ k ∈ l
  | [], acc, k => by simp
  | c :: l, acc, k => by
    rw [List.foldl_cons, mem_fold l, mem_step, List.mem_cons]
    constructor
    · rintro ((h | h) | h)
      · exact .inl h
      · exact .inr (.inl h)
      · exact .inr (.inr h)
    · rintro (h | h | h)
      · exact .inl (.inl h)
      · exact .inl (.inr h)
      · exact .inr h
theorem mem_firsts (l : List Nat) (k : Nat) : k ∈ firsts l ↔ k ∈ l := by
  unfold firsts; rw [mem_fold]; simp
theorem firsts_take {l : List Nat} {i c : Nat} (h : l[i]? = some c) : firsts (l.take (i + 1)) = stepD (firsts (l.take i)) c := by
  rw [List.take_add_one, h]; exact firsts_snoc _ _
theorem firsts_count : ∀ (l : List Nat) (i : Nat), i ≤ l.length → (firsts (l.take i)).length ≤ i ∧ ((firsts (l.take i)).length = i ↔ (l.take i).Nodup)
  | l, 0, _ => by simp [firsts]
  | l, i + 1, hi => by
    have hc : l[i]? = some l[i] := List.getElem?_eq_getElem hi
    obtain ⟨a, b⟩ := firsts_count l i (by omega)
    rw [firsts_take hc]
    have et : l.take (i + 1) = l.take i ++ [l[i]] := by rw [List.take_add_one, hc]; rfl
    unfold stepD
    by_cases hm : l[i] ∈ firsts (l.take i)
    · rw [if_pos hm]
      refine ⟨by omega, fun q => by omega, fun nd => ?_⟩
      rw [et, List.nodup_append] at nd
      exact absurd rfl (nd.2.2 _ ((mem_firsts _ _).mp hm) _ (List.mem_singleton.mpr rfl))
    · rw [if_neg hm, List.length_append, List.length_singleton]
      refine ⟨by omega, ?_⟩
      rw [et, List.nodup_append]
      constructor
      · intro q
        refine ⟨b.mp (by omega), by simp, fun x hx y hy e => hm ?_⟩
        rw [List.mem_singleton] at hy
        rw [← hy, ← e]
        exact (mem_firsts _ _).mpr hx
      · intro q
        have := b.mpr q.1
        omega
/-- len(set(text)) -/
def kinds (z : Str) : Nat := (firsts z.cps.toList).length
theorem kinds_eq (z : Str) : kinds z = z.length ↔ z.cps.toList.Nodup := by
  have h := firsts_count z.cps.toList z.cps.toList.length (Nat.le_refl _)
  rw [List.take_length] at h
  have e : z.length = z.cps.toList.length := by simp [Str.length]
  unfold kinds
  rw [e]
  exact h.2
theorem kinds_le (z : Str) : kinds z ≤ z.length := by
  have h := firsts_count z.cps.toList z.cps.toList.length (Nat.le_refl _)
  rw [List.take_length] at h
  have e : z.length = z.cps.toList.length := by simp [Str.length]
  unfold kinds
  rw [e]
  exact h.1

/-! ### set(text) on the machine -/
abbrev sg (c : Nat) : Str := ⟨#[c]⟩
theorem sg_inj {a b : Nat} (h : sg a = sg b) : a = b := by
  have e : (#[a] : Array Nat) = #[b] := congrArg Str.cps h
  simpa using e
def hasD (l : List Nat) (k : Str) : Bool := l.any fun c => decide (k = sg c)
theorem hasD_sg (l : List Nat) (c : Nat) : hasD l (sg c) = decide (c ∈ l) := by
  unfold hasD
  by_cases h : c ∈ l
  · rw [decide_eq_true h]
    exact List.any_eq_true.mpr ⟨c, h, decide_eq_true rfl⟩
  · rw [decide_eq_false h]
    refine Bool.eq_false_iff.mpr fun q => ?_
    obtain ⟨d, hd, e⟩ := List.any_eq_true.mp q
    rw [sg_inj (of_decide_eq_true e)] at h
    exact h hd
theorem hasD_step (l : List Nat) (c : Nat) (k : Str) : hasD (stepD l c) k = (hasD l k || decide (k = sg c)) := by
  unfold stepD
  by_cases h : c ∈ l
  · rw [if_pos h]
    by_cases e : k = sg c
    · rw [e, hasD_sg, decide_eq_true h]
      rfl
    · rw [decide_eq_false e, Bool.or_false]
  · rw [if_neg h]
    unfold hasD
    rw [List.any_append]
    simp
theorem len_step (l : List Nat) (c : Nat) : (stepD l c).length = if hasD l (sg c) = true then l.length else l.length + 1 := by
  rw [hasD_sg]
  unfold stepD
  by_cases h : c ∈ l
  · rw [if_pos h, if_pos (decide_eq_true h)]
  · rw [if_neg h, if_neg (by rw [decide_eq_false h]; exact Bool.false_ne_true), List.length_append, List.length_singleton]
section
variable {prog : Program} {w : World} {A : Around} {E : Value → Shared → Prop}
/-- the set at S holds the signs l -/
def SetS (prog : Program) (w : World) (h : Heap) (S : Addr) (l : List Nat) : Prop := h.SetOf (strKind prog w) S (hasD l) l.length
theorem SetS.keep {h h' : Heap} {S : Addr} {l : List Nat} (p : SetS prog w h S l) (k : ∀ o, h.get? S = some o → h'.get? S = some o) : SetS prog w h' S l := by
  obtain ⟨o, es, ep, t, ho, r⟩ := p
  exact ⟨o, es, ep, t, k o ho, r⟩
theorem loopS {R : Result → Shared → Prop} {I : Addr} {fp wr : List Addr} {G : Array GenState → Array GenState → Prop} {x : Str} {St : Nat → Shared → Prop}
    (W : WalksS prog w A.in1 I fp wr G x.cps.size (SignAt x) St) (S : Addr) (away : S ∉ fp) (small : x.cps.size + 1 < scanBound) : ∀ (k i : Nat) (s : Shared), x.cps.size - i = k → i ≤ x.cps.size → St i s →
      SetS prog w s.heap S (firsts (x.cps.toList.take i)) → (∀ s', Moved (S :: wr) G s s' → SetS prog w s'.heap S (firsts x.cps.toList) → R (.ok (.ret .none)) s') →
      codeAny (model prog w) A (.builtin "set.update.loop" ⟨[.ref S, .ref I], []⟩) R s := by
  have awr : S ∉ wr := fun q => away (W.sub _ q)
  have more : ∀ b ∈ wr, b ∈ S :: wr := fun b hb => .tail _ hb
  intro k
  induction k with
  | zero =>
    intro i s hk hi st hS done
    obtain rfl : i = x.cps.size := by omega
    refine codeAny_builtin F.entry_set_update_loop ?_
    rw [Around.under_plainId F.plain_set_update_loop _]
    show wpAny _ A.in1 (pyNext (.ref I) >>= _) _ _ s
    refine wpAny_bind (W.done s _ _ st fun s' mv => ?_)
    show wpAny _ A.in1 (ret Value.none) _ _ s'
    have e : x.cps.toList.take x.cps.size = x.cps.toList := List.take_of_length_le (by simp)
    rw [e] at hS
    exact wpAny_pure (done s' (mv.mono more) (hS.keep fun o q => mv.heap S o awr q))
  | succ k ih =>
    intro i s hk hi st hS done
    have lt : i < x.cps.size := by omega
    refine codeAny_builtin F.entry_set_update_loop ?_
    rw [Around.under_plainId F.plain_set_update_loop _]
    show wpAny _ A.in1 (pyNext (.ref I) >>= _) _ _ s
    refine wpAny_bind (W.item i s _ _ lt st fun v s' hv st' mv => ?_)
    obtain ⟨c, u, hc, rfl⟩ := hv
    have hS' := hS.keep (h' := s'.heap) fun o q => mv.heap S o awr q
    show wpAny _ A.in1 (holding [Value.str (sg c) u] (setAdd S (.str (sg c) u)) >>= _) _ _ s'
    refine wpAny_bind (wpAny_holding ?_)
    unfold setAdd
    refine wpAny_holding ?_
    refine wpAny_bind ((strKind prog w).pyHash (k := sg c) (strKind_is _ _ _ _) ?_)
    have cnt := (firsts_count x.cps.toList i (by simp; omega)).1
    refine wpAny_setAddHashed_of (knd := strKind prog w) (s := { s' with toks := s'.toks + 1 }) (strKind_is _ _ _ _) rfl hS' (by omega) fun h' sb hS2 => ?_
    have hc2 : x.cps.toList[i]? = some c := by rw [Array.getElem?_toList]; exact hc
    have hS3 : SetS prog w h' S (firsts (x.cps.toList.take (i + 1))) := by
      rw [firsts_take hc2]
      exact SetOf_congr hS2 (fun k => (hasD_step _ c k).symm) (len_step _ c).symm
    refine wpAny_pure ⟨plainId_quiet F.plain_set_update_loop _, ih (i + 1) _ (by omega) lt (W.frame _ s' _ _ st' (Nat.le_succ _) fun b hb o e => ?_) hS3 fun s'' mv' hS'' => done s'' (Moved.trans W.gtrans ((mv.mono more).then_heap (Nat.le_succ _) fun b o hb e => ?_) mv') hS''⟩
    · rw [sb.2 b fun q : b = S => away (by rw [← q]; exact hb)]; exact e
    · rw [sb.2 b fun q : b = S => hb (by rw [q]; exact .head _)]; exact e
variable {s : Shared}
theorem sub_str_set : isSubtype (.type "str") (.type "set") = pure false := by rw [isSubtype_type]; kernel_rfl
theorem sub_str_frozenset : isSubtype (.type "str") (.type "frozenset") = pure false := by rw [isSubtype_type]; kernel_rfl
theorem call_set_text {x : Str} {tx : Tok} {Q : Value → Shared → Prop} (hh : A.handled = none) (small : x.cps.size + 1 < scanBound)
    (h : ∀ (h' : Heap) (tk : Nat), SetS prog w h' s.heap.objs.size (firsts x.cps.toList) → (∀ b o, b < s.heap.objs.size → s.heap.get? b = some o → h'.get? b = some o) → Q (.ref s.heap.objs.size) { s with heap := h', toks := tk }) :
    wpAny (model prog w) A (call (.type "set") [.str x tx]) Q E s := by
  obtain ⟨c, tl, hmro⟩ := F.called_set.mro
  have hmade := F.called_set.made
  have hsub := F.called_set.sub
  refine wpAny_call (codeAny_of_tree ?_)
  show wpAny _ _ (callAny (.type "set") _) _ _ _
  refine wpAny_pure ⟨Code.quiet_builtin _ (by decide +kernel), codeAny_builtin F.entry_type_call ?_⟩
  rw [Around.under_plain (weight_type_call_type "set" [.str x tx] []) rfl]
  have h1 := F.called_set.notType
  have h2 := F.called_set.canCreate
  have hct := PySem.F.typeCall_set_1 (.str x tx)
  repeat (any_goals (first | assumption | wp_step))
  refine codeAny_mono (code_set_new_1 (.str x tx) (E := E) (Q₁ := fun v s₁ => ∃ led : Bool, v = .ref s.heap.objs.size ∧ s₁ = { s with heap := s.heap.push { cls := .type "set", dict := none, data := .set #[] 0 (.fresh 0 0 led) } }) fun led => ⟨led, rfl, rfl⟩) fun r s₁ hr => ?_
  cases r with
  | error e => exact hr
  | ok fl =>
    cases fl with
    | ret v =>
      obtain ⟨led, rfl, rfl⟩ := hr
      have hS : (s.heap.push { cls := .type "set", dict := none, data := .set #[] 0 (.fresh 0 0 led) }).get? s.heap.objs.size = some { cls := .type "set", dict := none, data := .set #[] 0 (.fresh 0 0 led) } := Heap.get?_push_size _ rfl
      have hT : Shared.TypeIs { s with heap := s.heap.push { cls := .type "set", dict := none, data := .set #[] 0 (.fresh 0 0 led) } } (.ref s.heap.objs.size) "set" := ⟨_, hS, rfl⟩
      have hli := F.called_set.init.lookup
      have hbi := F.called_set.init.bind (.ref s.heap.objs.size)
      repeat (any_goals (first | assumption | wp_step))
      refine codeAny_mono (codeAny_call_builtin (R := wants (fun r s₂ => r = .none ∧ ∃ h' tk, s₂ = { s with heap := h', toks := tk } ∧ SetS prog w h' s.heap.objs.size (firsts x.cps.toList) ∧
          (∀ b o, b < s.heap.objs.size → s.heap.get? b = some o → h'.get? b = some o)) E) F.called_set.init.plain F.entry_set_init (check_set_init_1 hT ?_)) fun r₂ s₂ hr₂ => ?_
      · have hsls := sub_str_set
        have hslf := sub_str_frozenset
        have hne : (Value.type "str" == Value.type "dict") = false := by decide
        unfold Builtin.«set.__init__» noKeywords Builtin.Frozenset.updateFrom
        generalize hPI : pyIter = PI
        wp_walk
        subst hPI
        refine wpAny_pyIter_str fun o St W st => ?_
        refine wpAny_bind (wpAny_runValue ?_)
        have hh3 : A.in1.in1.in1.handled = none := by simp [hh]
        have away : s.heap.objs.size ∉ [(s.heap.push { cls := .type "set", dict := none, data := .set #[] 0 (.fresh 0 0 led) }).objs.size] := by
          rw [Heap.size_push, List.mem_singleton]
          exact Nat.ne_of_lt (Nat.lt_succ_self _)
        refine loopS ((W _ hh3).toS) s.heap.objs.size away small (x.cps.size - 0) 0 _ (by omega) (Nat.zero_le _) st ?hS0 ?hR
        case hS0 =>
          exact SetOf_congr ((PyProof.Rows.setObjOf_fresh (knd := strKind prog w) led).setOf (Heap.get?_push_of_some _ hS) (by unfold scanBound; omega)) (fun _ => rfl) rfl
        case hR =>
          intro s' mv hS'
          obtain ⟨h', g', d', tk', os'⟩ := s'
          have eg : g' = s.gens := mv.gens
          have ed : d' = s.drawn := mv.drawn
          have eo : os' = s.os := mv.os
          subst eg; subst ed; subst eo
          show wpAny _ _ _ _ _ _
          refine wpAny_pure ?_
          show wpAny _ _ (ret Value.none) _ _ _
          refine wpAny_pure ⟨rfl, h', tk', rfl, hS', fun b o hb e => ?_⟩
          have n1 : b ≠ s.heap.objs.size := Nat.ne_of_lt hb
          have n2 : b ≠ (s.heap.push { cls := .type "set", dict := none, data := .set #[] 0 (.fresh 0 0 led) }).objs.size := by
            rw [Heap.size_push]; exact Nat.ne_of_lt (Nat.lt_succ_of_lt hb)
          exact mv.heap b o (by simp only [List.mem_cons, List.mem_singleton, List.not_mem_nil, or_false, not_or]; exact ⟨n1, n2⟩) (Heap.get?_push_of_some _ (Heap.get?_push_of_some _ e))
      · cases r₂ with
        | error e => exact hr₂
        | ok fl₂ =>
          cases fl₂ with
          | ret r =>
            obtain ⟨rfl, h', tk, rfl, hS', hk'⟩ := hr₂
            repeat (any_goals (first | assumption | wp_step))
            exact h _ _ hS' hk'
          | _ => exact hr₂.elim
    | _ => exact hr.elim
end
/-! ### the rules -/
/-- len(set(text)) -/
def tKinds (ta : TE) : TE := fun σ H Q => ta σ H fun v H1 => ∃ z : Str, v = .str z ∧ z.length ≤ 4000 ∧ Q (.int (kinds z : Nat)) H1
theorem pe_kinds {X : Cx} {a : Expr} {ta : TE} {p p2 q pos : Pos} (hg : Gl X "len") (hm : X.mg "len" = none) (hg2 : Gl X "set") (hm2 : X.mg "set" = none) (ha : PE X a ta) (hc : X.calm = true := by rfl)
    (na : starEach [a] X.env = (false, eval a X.env) :: starEach [] X.env := by rfl) : PE X (.Call (.Name "len" p) [.Call (.Name "set" p2) [a] [] q] [] pos) (tKinds ta) := by
  constructor
  intro pins s σ H Q I h
  refine Call_ (ld_blt I hg hm boot_len (PyProof.Rows.callWith_builtin1 (PyProof.Rows.args_cons (Call_ (ld_blt I hg2 hm2 boot_set ?_)) rfl) rfl rfl))
  refine PyProof.Rows.callWith_type1 (PyProof.Rows.args_cons (thn (ha.run pins s σ H _ I h) fun v s1 ⟨y, H1, I1, r1, q1⟩ => PyProof.Rows.args_nil ?_) na) na rfl
  obtain ⟨z, rfl, hl, q1⟩ := q1
  obtain ⟨t, rfl⟩ := r1
  have hs : z.cps.size = z.length := rfl
  refine call_set_text (I1.ok.hd hc) (by rw [hs]; unfold scanBound; omega) fun h' tk hS hk => PyProof.Rows.args_nil ?_
  have kl := kinds_le z
  obtain ⟨o, es, ep, t2, ho, hex, hd, _, _, _, hf, hn⟩ := hS
  have hn2 : es.size = kinds z := hn
  have I2 : Inv X pins σ H1 { s1 with heap := h', toks := tk } := I1.kept fun b o e => hk b o (Heap.lt_size e) e
  exact call_len_set ho hex hd hf (by rw [hn2]; omega) ⟨.int (kinds z : Nat), H1, I2.tok _, ⟨_, by rw [hn2]⟩, q1⟩
/-- text * n -/
def rMulS : R2 := fun x y H Q => ∃ (z : Str) (n : Int), x = .str z ∧ y = .int n ∧ MulOk z n ∧ Q (.str (Txt.mul z n)) H
theorem op_mulS {X : Cx} : OpR X (binaryOp .Mult) rMulS := by
  intro pins s σ H x y v u Q I rx ry h
  obtain ⟨z, n, rfl, rfl, hz, q⟩ := h
  obtain ⟨t, rfl⟩ := rx
  obtain ⟨t', rfl⟩ := ry
  exact SB.mul hz fun t2 tk => ⟨.str (Txt.mul z n), H, I.tok _, ⟨_, rfl⟩, q⟩
end SxA

set_option Elab.async false
set_option linter.all false
set_option maxRecDepth 100000
set_option maxHeartbeats 4000000
namespace SxA
open PySem PySem.Spec PyProof.Rows L2
section
variable {prog : Program} {w : World} {A : Around} {E : Value → Shared → Prop} {s : Shared}
/-- list(it), it what reversed(a list) gave -/
theorem call_list_rev {it l : Addr} {items : Array Value} {Q : Value → Shared → Prop} (hh : A.handled = none) (hit : s.heap.IsRevIter it l ((items.size : Int) - 1)) (hl : s.heap.IsList l items) (hne : l ≠ it) (hn : items.size ≤ sizeLine)
    (hQ : ∀ (h' : Heap) (tk : Nat) (acc : Array Value) (c : Nat), (∀ b o, b ≠ it → s.heap.get? b = some o → h'.get? b = some o) → h'.get? s.heap.objs.size = some { cls := .type "list", dict := none, data := .seq acc c, slots := #[] } →
      ItemsOf (fun i v => items[items.size - 1 - i]? = some v) acc items.size → Q (.ref s.heap.objs.size) { s with heap := h', toks := tk }) :
    wpAny (model prog w) A (call (.type "list") [.ref it]) Q E s := by
  obtain ⟨oi, hoi, _⟩ := id hit
  obtain ⟨ol, hol, _⟩ := id hl
  have ni : s.heap.objs.size ≠ it := Nat.ne_of_gt (Heap.lt_size hoi)
  have nl : s.heap.objs.size ≠ l := Nat.ne_of_gt (Heap.lt_size hol)
  have away : s.heap.objs.size ∉ [it, l] := by
    simp only [List.mem_cons, List.not_mem_nil, or_false, not_or]
    exact ⟨ni, nl⟩
  refine callType_codes (Q₁ := fun v s₁ => v = .ref s.heap.objs.size ∧ s₁ = { s with heap := s.heap.push { cls := .type "list", data := .seq #[] } }) F.called_list (F.typeCall_list_1 _) F.entry_list_init (code_list_new _ ⟨rfl, rfl⟩) fun v s₁ h₁ => ?_
  obtain ⟨rfl, rfl⟩ := h₁
  have hS : (s.heap.push { cls := .type "list", data := .seq #[] }).get? s.heap.objs.size = some { cls := .type "list", data := .seq #[] } := Heap.get?_push_size _ rfl
  refine ⟨⟨_, hS, rfl⟩, F.args_list_init_2 _ _, ?_⟩
  show wpAny _ _ (do let old ← Builtin.List.listItems (.ref s.heap.objs.size); Builtin.List.listUpdate (.ref s.heap.objs.size) (fun _ => #[]); letGo old.toList.reverse; Builtin.List.listExtendWith (.ref s.heap.objs.size) (.ref it) .none) _ _ _
  refine wpAny_bind ?_
  unfold Builtin.List.listItems
  refine wpAny_bind (wpAny_seqItems hS rfl (wpAny_pure ?_))
  show wpAny _ _ (updateSeq s.heap.objs.size (fun _ => #[]) >>= fun _ => letGo (#[] : Array Value).toList.reverse >>= fun _ => Builtin.List.listExtendWith (.ref s.heap.objs.size) (.ref it) .none) _ _ _
  refine wpAny_bind (wpAny_updateSeq hS rfl ?_)
  have hS₂ := Heap.get?_update_self (Obj.mapSeq (fun _ => (#[] : Array Value))) hS rfl
  have oth : ∀ b o, b ≠ s.heap.objs.size → s.heap.get? b = some o → ((s.heap.push { cls := .type "list", data := .seq #[] }).update s.heap.objs.size (Obj.mapSeq (fun _ => (#[] : Array Value)))).get? b = some o :=
    fun b o hb e => (Heap.get?_update_other _ _ (Ne.symm hb)).trans (Heap.get?_push_of_some _ e)
  refine wpAny_bind (wpAny_letGo ?_)
  generalize hgh : (s.heap.push { cls := .type "list", data := .seq #[] }).update s.heap.objs.size (Obj.mapSeq (fun _ => (#[] : Array Value))) = g at hS₂ oth
  have hit1 : g.IsRevIter it l ((items.size : Int) - 1) := hit.at fun o e => oth _ _ ni.symm e
  have hl1 : g.IsList l items := hl.at fun o e => oth _ _ nl.symm e
  have hT : ({ s with heap := g } : Shared).TypeIs (.ref it) "list_reverseiterator" := Heap.IsRevIter.typeIs (s := { s with heap := g }) hit1
  have h1 : Builtin.List.listSameRef (.ref s.heap.objs.size) (.ref it) = false := by simp [Builtin.List.listSameRef, ni]
  have hh2 : A.in1.in1.handled = none := by simp [hh]
  have W := (Walks.listRev (prog := prog) (w := w) (A := A.in1.in1) hh2 it l hne items).toS
  unfold Builtin.List.listExtendWith
  refine wpAny_bind (wpAny_typeOf hT ?_)
  rw [if_neg (by rw [h1]; decide)]
  refine wpAny_bind (wpAny_pyIter_revIter (s := { s with heap := g }) hit1 (wpAny_bind (wpAny_holding ?_)))
  unfold Builtin.List.listLengthHint
  refine wpAny_bind (wpAny_specialOf hT RT.nolen_lri ?_)
  show wpAny _ _ (specialOf (Value.ref it) (Str.ofString "__length_hint__") >>= _) _ _ _
  refine wpAny_bind (wpAny_specialOf hT RT.hint_lri ?_)
  generalize hid : ("list_reverseiterator.__length_hint__" : String) = nm
  wp_delta
  rw [show splitId nm = some ("list_reverseiterator", "__length_hint__") from by subst hid; decide +kernel]
  subst hid
  refine wpAny_bind (wpAny_isInstance (b := true) hT (by rw [isSubtype_type]; kernel_rfl) (wpAny_pure ?_))
  rw [if_neg (by decide)]
  have e0 : ((items.size : Nat) : Int) - 1 - ((0 : Nat) : Int) = (items.size : Int) - 1 := by omega
  refine wpAny_pure ⟨plainId_quiet F.plain_extend_loop _, codeAny_extend_loopS W hn _ away _ items.size 0 _ _ _ rfl (Nat.zero_le _) ⟨Nat.zero_le _, by rw [e0]; exact hit1, hl1⟩ hS₂ (ItemsOf.nil _) fun s' acc' c' mv hS' hacc => ?_⟩
  rw [Moved.eq_with mv]
  refine ⟨rfl, hQ s'.heap s'.toks acc' c' (fun b o hb e => mv.heap b o (fun hmem => ?_) ?_) hS' hacc⟩
  · rcases List.mem_cons.mp hmem with e' | hmem
    · exact absurd (Heap.lt_size e) (by rw [e']; exact Nat.lt_irrefl _)
    · exact hb (List.mem_singleton.mp hmem)
  · exact oth b o (Nat.ne_of_lt (Heap.lt_size e)) e
end
/-- list(reversed(x)), x a list -/
def tListRev (K : PySem.W.Frag) (te : TE) : TE := fun σ H Q => te σ H fun v H1 => ∃ (a : Addr) (xs : List V), v = .ref a ∧ SqL K H1 a xs ∧ ∀ q, H1 q = none → Q (.ref q) (upd H1 q (.lst xs.reverse))
theorem pe_listRev {X : Cx} {e : Expr} {te : TE} {p p2 pos pos2 : Pos} (hg : Gl X "list") (hm : X.mg "list" = none) (hg2 : Gl X "reversed") (hm2 : X.mg "reversed" = none) (he : PE X e te) (hc : X.calm = true := by rfl)
    (hs : starEach [e] X.env = (false, eval e X.env) :: starEach [] X.env := by rfl)
    (hs2 : starEach [.Call (.Name "reversed" p2) [e] [] pos2] X.env = (false, eval (.Call (.Name "reversed" p2) [e] [] pos2) X.env) :: starEach [] X.env := by rfl) :
    PE X (.Call (.Name "list" p) [.Call (.Name "reversed" p2) [e] [] pos2] [] pos) (tListRev X.K te) := by
  constructor
  intro pins s σ H Q I h
  refine Call_ (ld_blt I hg hm boot_list (PyProof.Rows.callWith_type1 (args_cons (Call_ (ld_blt I hg2 hm2 PyProof.Rows.boot_reversed (PyProof.Rows.callWith_type1 (args_cons (thn (he.run pins s σ H _ I h) fun u s1 ⟨v, H1, I1, r1, q1⟩ => args_nil ?_) hs) hs rfl))) hs2) hs2 rfl))
  obtain ⟨a, xs, rfl, hq, q⟩ := q1
  obtain rfl : u = Value.ref a := r1
  obtain ⟨its, rv, pl, hz⟩ := I1.list hq
  refine call_reversed_list pl.isList (args_nil ?_)
  have hl := pl.isList
  obtain ⟨ol, hol, _⟩ := id hl
  have hne : a ≠ s1.heap.objs.size := Nat.ne_of_lt (Heap.lt_size hol)
  have hn : its.toArray.size ≤ sizeLine := by rw [List.size_toArray, ← rv.length]; exact hz
  have sz : (s1.heap.push (revObj a ((its.toArray.size : Int) - 1))).objs.size = s1.heap.objs.size + 1 := Heap.size_push _ _
  refine call_list_rev (s := { s1 with heap := s1.heap.push (revObj a ((its.toArray.size : Int) - 1)) }) (I1.ok.hd hc) ⟨_, Heap.get?_push_size _ rfl, rfl, rfl⟩ (hl.push _) hne hn fun h' tk acc c hk hS hi => ?_
  have e1 : acc.toList.toArray = acc := by simp
  refine ⟨.ref (s1.heap.push (revObj a ((its.toArray.size : Int) - 1))).objs.size, upd H1 _ (.lst xs.reverse), I1.laid (t' := tk) (fun b o e => hk b o (Nat.ne_of_lt (Heap.lt_size e)) (Heap.get?_push_of_some _ e)) (by rw [sz]; exact Nat.le_succ _)
    (show ObjOk X.prog X.w _ h' _ (.lst xs.reverse) from ⟨by rw [List.length_reverse]; exact hz, acc.toList, c, RT.vals_rev rv hi, by rw [e1]; exact hS⟩), rfl, q _ (I1.hok.fresh (by rw [sz]; exact Nat.le_succ _))⟩
end SxA

set_option Elab.async false
set_option linter.all false
set_option maxRecDepth 100000
set_option maxHeartbeats 1000000
namespace Sx
open PySem PySem.Spec PyProof.Rows L2 SxA
/-- a def of the top -/
abbrev Fd (K : PySem.W.Frag) (x : Str) (st : Stmt) : Prop := ∃ fd, FunD K x x (defArgs st) (defBody st) (defScope st) [] [] (He.ga K x) fd
section
variable {P : Program} {w : World} {K : PySem.W.Frag} {mg : Str → Option Value} {base : Heap}
def Ok (P : Program) (w : World) (K : PySem.W.Frag) (mg : Str → Option Value) (base : Heap) (k : Nat) (x : Str) (ps : List Str) (sp : Sp) : Prop :=
  ∃ fd, FnOk P w K mg base CX0 k (He.ga K x) fd ps sp ∧ Binds K fd ps [] ∧ PySem.W.keepIn K (.ref (He.ga K x)) = true ∧ mg x = some (.ref (He.ga K x))
theorem mkOk {x : Str} {st : Stmt} {N ps : List Str} {k : Nat} {sp : Sp} (d : Fd K x st) (hx : mg x = some (.ref (He.ga K x))) (S : FnScope N ps (defScope st)) (len : ∀ vs H Q E, sp vs H Q E → vs.length = ps.length)
    (bnd : ∀ (kV doc pm : Value) (an : Option Addr) (cdv ct : Value) (us : List Value), us.length = ps.length → bindArgs (PySem.W.fnOf x x (defArgs st) (defBody st) (defScope st) .none kV doc pm an cdv ct) ⟨us, []⟩ = pure (ps.zip us))
    (body : ∀ (cdv : Value) (A : Around) (outer : List Env) (s : Shared) (H0 : Hp) (vs : List V) (Q : VK) (E : XK), Room k (A.deeper (envOfC x (defScope st) s.heap.objs.size (He.ga K x) cdv)) → sp vs H0 Q E →
      ∃ t, PSs (cxOf CX0 P w K mg base N x (defScope st) (He.ga K x) cdv A outer s H0 E).nox (defBody st) t ∧ t { nx := fun _ H' => Q .non H', rt := Q } (start N vs) H0) : Ok P w K mg base (k + 1) x ps sp := by
  obtain ⟨fd, F⟩ := d
  refine ⟨fd, F.ok S len fun cdv A outer s H vs Q E hr h => ?_, F.bindsN bnd, F.kp, hx⟩
  obtain ⟨t, h1, h2⟩ := body cdv A outer s H vs Q E hr h
  exact ⟨t, h1.nox, h2⟩
theorem pe_ok {X : Cx} {k : Nat} {x : Str} {ps : List Str} {sp : Sp} {p pos : Pos} {e : Expr} {es : List Expr} {t : TA} (o : Ok X.prog X.w X.K X.mg X.base k x ps sp) (hr : Room k X.A) (hg : Gl X x) (ha : PA X (e :: es) t)
    (hdb : (x == ("__debug__" : Str)) = false := by decide) (hs : starEach (e :: es) X.env = (false, eval e X.env) :: starEach es X.env := by rfl) (hpl : ((backTo pos (starEach es X.env)).any (·.1)) = false := by rfl) :
    PE X (.Call (.Name x p) (e :: es) [] pos) (tCall sp [] E0 t) := by
  obtain ⟨fd, F, b, kp, hm⟩ := o
  exact pe_call F hr hg hm kp b .nil pass0 ha hdb hs hpl
def But (a : Addr) (H H' : Hp) : Prop := ∀ b o, H b = some o → b ≠ a → H' b = some o
theorem But.of {a : Addr} {H H' : Hp} (s : Same H H') : But a H H' := fun b o e _ => s b o e
theorem Same.new {H : Hp} {p : Addr} {o : HO} (h : H p = none) : Same H (upd H p o) := fun b o e => by
  rw [upd_ne (ne_of_none e h)]
  exact e
theorem Same.put {H0 H : Hp} {p : Addr} {o : HO} (s : Same H0 H) (h : H0 p = none) : Same H0 (upd H p o) := fun b o e => by
  rw [upd_ne (ne_of_none e h)]
  exact s b o e
theorem lc_text {z : Str} {ys : List V} {te : TE} {i0 : Nat} {vs : List Nat} {σ : L2.St} {H1 : Hp} {D : Addr} {Qd : Hp → Prop} (hD : H1 D = none) (hl : ys.length = z.cps.toList.length) (hz : ys.length ≤ sizeLine)
    (hw : ∀ c : Nat, wipe ((wipe σ vs).set i0 (some (.str (sg c)))) vs = wipe σ vs)
    (he : ∀ (i c : Nat) (y : V) (H : Hp) (Q : VK), z.cps.toList[i]? = some c → ys[i]? = some y → Same H1 H → (∀ H', Same H H' → Q y H') → te ((wipe σ vs).set i0 (some (.str (sg c)))) H Q)
    (hd : ∀ H, Same H1 H → H D = some (.lst ys) → Qd H) :
    ∃ W : Nat → Nat → Hp → Prop, (∃ m, W 0 m (upd H1 D (.lst []))) ∧ ∀ i m H, W i m H → ((Its z).stop i H ∧ Qd H) ∨ ((Its z).go i H ∧ ∃ Nx : Hp → Prop, (∀ H', Nx H' → ∃ m', m' < m ∧ W (i + 1) m' H') ∧
      ∀ x H', (Its z).yld i H x H' → (gName i0) x (wipe σ vs) H' fun σ2 H2 => wipe σ2 vs = wipe σ vs ∧ tYes σ2 H2 fun b H3 => if b = true then te σ2 H3 fun y H4 => ∃ acc, H4 D = some (.lst acc) ∧ acc.length < sizeLine ∧ Nx (upd H4 D (.lst (acc ++ [y]))) else Nx H3) := by
  have hsz : z.cps.size = ys.length := by rw [hl]; simp
  refine ⟨fun i m H => m = ys.length - i ∧ i ≤ ys.length ∧ Same H1 H ∧ H D = some (.lst (ys.take i)), ⟨ys.length, rfl, Nat.zero_le _, Same.new hD, upd_same⟩, ?_⟩
  rintro i m H ⟨rfl, hi, sm, hH⟩
  by_cases lt : i < ys.length
  · refine .inr ⟨by show i < z.cps.size; omega, fun H' => Same H1 H' ∧ H' D = some (.lst (ys.take (i + 1))), fun H' q => ⟨ys.length - (i + 1), by omega, rfl, lt, q.1, q.2⟩, ?_⟩
    rintro x H' ⟨rfl, c, hc, rfl⟩
    have hc2 : z.cps.toList[i]? = some c := by rw [Array.getElem?_toList]; exact hc
    have hy : ys[i]? = some ys[i] := List.getElem?_eq_getElem lt
    refine ⟨hw c, ?_⟩
    show te _ _ _
    refine he i c _ _ _ hc2 hy sm fun H4 s4 => ⟨ys.take i, s4 _ _ hH, ?_, ?_, ?_⟩
    · rw [List.length_take]; omega
    · exact Same.put (sm.trans s4) hD
    · rw [upd_same, List.take_add_one, hy]; rfl
  · have e : i = ys.length := by omega
    subst e
    refine .inl ⟨by show z.cps.size ≤ ys.length; omega, hd H sm ?_⟩
    rw [hH, List.take_length]
theorem lc_known {a : Addr} {xs ys : List V} {te : TE} {i0 : Nat} {vs : List Nat} {σ : L2.St} {H1 : Hp} {D : Addr} {Qd : Hp → Prop} (hD : H1 D = none) (hq : SqL K H1 a xs) (hl : ys.length = xs.length) (hz : ys.length ≤ sizeLine)
    (hw : ∀ v : V, wipe ((wipe σ vs).set i0 (some v)) vs = wipe σ vs)
    (he : ∀ (i : Nat) (x y : V) (H : Hp) (Q : VK), xs[i]? = some x → ys[i]? = some y → Same H1 H → (∀ H', Same H H' → Q y H') → te ((wipe σ vs).set i0 (some x)) H Q)
    (hd : ∀ H, Same H1 H → H D = some (.lst ys) → Qd H) :
    ∃ W : Nat → Nat → Hp → Prop, (∃ m, W 0 m (upd H1 D (.lst []))) ∧ ∀ i m H, W i m H → ((Itl K a).stop i H ∧ Qd H) ∨ ((Itl K a).go i H ∧ ∃ Nx : Hp → Prop, (∀ H', Nx H' → ∃ m', m' < m ∧ W (i + 1) m' H') ∧
      ∀ x H', (Itl K a).yld i H x H' → (gName i0) x (wipe σ vs) H' fun σ2 H2 => wipe σ2 vs = wipe σ vs ∧ tYes σ2 H2 fun b H3 => if b = true then te σ2 H3 fun y H4 => ∃ acc, H4 D = some (.lst acc) ∧ acc.length < sizeLine ∧ Nx (upd H4 D (.lst (acc ++ [y]))) else Nx H3) := by
  refine lc_list (K := K) (a := a) (xs := xs) (g := gName i0) (tt := tYes) (te := te) (fun i H => Same H1 H ∧ H D = some (.lst (ys.take i))) ⟨Same.new hD, upd_same⟩ (fun i H _ p => p.1.seq hq) ?_ ?_
  · rintro i x H hx ⟨sm, hH⟩
    have lt : i < ys.length := by rw [hl]; exact (List.getElem?_eq_some_iff.mp hx).1
    have hy : ys[i]? = some ys[i] := List.getElem?_eq_getElem lt
    refine ⟨hw x, ?_⟩
    show te _ _ _
    refine he i x _ _ _ hx hy sm fun H4 s4 => ⟨ys.take i, s4 _ _ hH, ?_, Same.put (sm.trans s4) hD, ?_⟩
    · rw [List.length_take]; omega
    · rw [upd_same, List.take_add_one, hy]; rfl
  · rintro H ⟨sm, hH⟩
    rw [← hl, List.take_length] at hH
    exact hd H sm hH
abbrev sl (z : Str) : List Nat := z.cps.toList
theorem sl_len (z : Str) : z.length = (sl z).length := by simp [Str.length]
theorem lt1 (a b : Nat) : decide ((⟨#[a]⟩ : Str).cps.toList < (⟨#[b]⟩ : Str).cps.toList) = decide (a < b) := by
  rw [decide_eq_decide]
  show [a] < [b] ↔ a < b
  rw [List.cons_lt_cons_iff]
  constructor
  · rintro (h | ⟨_, h⟩)
    · exact h
    · exact absurd h (List.not_lt_nil _)
  · exact Or.inl
theorem eq_sg (c e : Nat) : decide (V.str (sg c) = V.str (sg e)) = decide (c = e) := by
  rw [decide_eq_decide]
  exact ⟨fun h => sg_inj (V.str.inj h), fun h => by rw [h]⟩
theorem mkFn {x : Str} {st : Stmt} {N ps : List Str} {k : Nat} {sp : Sp} {fd : FuncData} (F : FunD K x x (defArgs st) (defBody st) (defScope st) [] [] (He.ga K x) fd) (S : FnScope N ps (defScope st)) (len : ∀ vs H Q E, sp vs H Q E → vs.length = ps.length)
    (body : ∀ (cdv : Value) (A : Around) (outer : List Env) (s : Shared) (H0 : Hp) (vs : List V) (Q : VK) (E : XK), Room k (A.deeper (envOfC x (defScope st) s.heap.objs.size (He.ga K x) cdv)) → sp vs H0 Q E →
      ∃ t, PSs (cxOf CX0 P w K mg base N x (defScope st) (He.ga K x) cdv A outer s H0 E).nox (defBody st) t ∧ t { nx := fun _ H' => Q .non H', rt := Q } (start N vs) H0) : FnOk P w K mg base CX0 (k + 1) (He.ga K x) fd ps sp := by
  refine F.ok S len fun cdv A outer s H vs Q E hr h => ?_
  obtain ⟨t, h1, h2⟩ := body cdv A outer s H vs Q E hr h
  exact ⟨t, h1.nox, h2⟩
theorem pgi {X : Cx} {x : Str} {i : Int} {k : Tok} {pos : Pos} (hg : Gl X x) (hm : X.mg x = some (.int i k)) (hd : (x == ("__debug__" : Str)) = false := by decide) : PE X (.Name x pos) (tC (.int i)) := pe_glob (v := .int i) hg hm ⟨_, rfl⟩ hd
theorem pgs {X : Cx} {x z : Str} {k : Tok} {pos : Pos} (hg : Gl X x) (hm : X.mg x = some (.str z k)) (hd : (x == ("__debug__" : Str)) = false := by decide) : PE X (.Name x pos) (tC (.str z)) := pe_glob (v := .str z) hg hm ⟨_, rfl⟩ hd
theorem op_notInK {X : Cx} {K : PySem.W.Frag} (h : X.K = K) : OpR X (compareOp .NotIn) (rIn K true) := by
  subst h
  exact op_notIn_seq
theorem small4 {n : Nat} (h : n ≤ 4000) : n ≤ sizeLine := Nat.le_trans h (by decide)
theorem sqD {D : Addr} {H : Hp} {ys : List V} (h : H D = some (.lst ys)) : SqL K H D ys := SqL.of h
theorem big6 {n : Nat} (h : n ≤ 1000000) : n ≤ sizeLine := Nat.le_trans h (by decide)
def off (a : Addr) (H : Hp) : Hp := fun b => if b = a then none else H b
def fresh (H H' : Hp) : Hp := fun b => match H b with
  | none => H' b
  | some _ => none
theorem off_ne {a b : Addr} {H : Hp} (h : b ≠ a) : off a H b = H b := if_neg h
theorem off_some {a b : Addr} {H : Hp} {o : HO} (h : off a H b = some o) : b ≠ a ∧ H b = some o := by
  unfold off at h
  by_cases e : b = a
  · rw [if_pos e] at h; cases h
  · rw [if_neg e] at h; exact ⟨e, h⟩
theorem fresh_of {H H' : Hp} {b : Addr} (h : H b = none) : fresh H H' b = H' b := by
  unfold fresh; rw [h]
theorem fresh_some {H H' : Hp} {b : Addr} {o : HO} (h : fresh H H' b = some o) : H b = none ∧ H' b = some o := by
  unfold fresh at h
  cases e : H b with
  | none => rw [e] at h; exact ⟨rfl, h⟩
  | some u => rw [e] at h; cases h
theorem off_le {a : Addr} {H : Hp} : Same (off a H) H := fun b o h => (off_some h).2
theorem off_up {a : Addr} {H H' : Hp} (s : Same H H') : Same (off a H) (off a H') := fun b o h => by
  obtain ⟨h1, h2⟩ := off_some h
  rw [off_ne h1]
  exact s _ _ h2
theorem off_but {a : Addr} {H H' : Hp} (s : But a H H') : Same (off a H) (off a H') := fun b o h => by
  obtain ⟨h1, h2⟩ := off_some h
  rw [off_ne h1]
  exact s _ _ h2 h1
theorem off_put (a : Addr) (H : Hp) (o : HO) : off a (upd H a o) = off a H := by
  funext b
  unfold off
  by_cases e : b = a
  · rw [if_pos e, if_pos e]
  · rw [if_neg e, if_neg e, upd_ne e]
theorem off_in {a : Addr} {H0 H : Hp} (s : Same H0 H) (h : H0 a = none) : Same H0 (off a H) := fun b o e => by
  rw [off_ne (ne_of_none e h)]
  exact s _ _ e
theorem fresh_le {H H' : Hp} : Same (fresh H H') H' := fun b o h => (fresh_some h).2
theorem fresh_off {a : Addr} {H H' : Hp} {u : HO} (h : H a = some u) : Same (fresh H H') (off a H') := fun b o e => by
  obtain ⟨h1, h2⟩ := fresh_some e
  rw [off_ne fun q => by rw [q, h] at h1; cases h1]
  exact h2
theorem fresh_up {H H1 H' H2 : Hp} (s : ∀ b, H1 b = none → H b = none) (s2 : Same H' H2) : Same (fresh H1 H') (fresh H H2) := fun b o e => by
  obtain ⟨h1, h2⟩ := fresh_some e
  rw [fresh_of (s b h1)]
  exact s2 _ _ h2
theorem Same.none {H H' : Hp} (s : Same H H') : ∀ b, H' b = Option.none → H b = Option.none := fun b h => s.free h
theorem put_new (f : Str) (v : V) : ∀ fs : List (Str × V), (∀ q ∈ fs, q.1 ≠ f) → putF f v fs = fs ++ [(f, v)]
  | [], _ => rfl
  | (g, x) :: r, h => by
    show (if g = f then (g, v) :: r else (g, x) :: putF f v r) = _
    rw [if_neg (h (g, x) (.head _)), put_new f v r fun q hq => h q (.tail _ hq)]
    rfl
theorem len_put (f : Str) (v : V) : ∀ fs : List (Str × V), (putF f v fs).length ≤ fs.length + 1
  | [] => Nat.le_refl _
  | (g, x) :: r => by
    show (if g = f then (g, v) :: r else (g, x) :: putF f v r).length ≤ _
    by_cases h : g = f
    · rw [if_pos h]; exact Nat.le_succ _
    · rw [if_neg h]; exact Nat.succ_le_succ (len_put f v r)
theorem len_put_lt {f : Str} {v : V} {fs : List (Str × V)} {n : Nat} (h : fs.length ≤ n) : (putF f v fs).length ≤ n + 1 := Nat.le_trans (len_put f v fs) (Nat.succ_le_succ h)
theorem lc_rel {a : Addr} {xs : List V} {te : TE} {i0 : Nat} {vs : List Nat} {σ : L2.St} {H1 : Hp} {D : Addr} {Qd : Hp → Prop} (Rel : Nat → V → Hp → Prop) (hm : ∀ i v H H', Rel i v H → Same H H' → Rel i v H') (hD : H1 D = none) (hq : SqL K H1 a xs) (hz : xs.length ≤ sizeLine)
    (hw : ∀ v : V, wipe ((wipe σ vs).set i0 (some v)) vs = wipe σ vs)
    (he : ∀ (i : Nat) (x : V) (H : Hp) (Q : VK) (acc : List V), xs[i]? = some x → Same H1 H → H D = some (.lst acc) → (∀ y H', Same H H' → Rel i y (fresh H H') → Q y H') → te ((wipe σ vs).set i0 (some x)) H Q)
    (hd : ∀ H ys, Same H1 H → H D = some (.lst ys) → ys.length = xs.length → (∀ i y, ys[i]? = some y → Rel i y (fresh H1 (off D H))) → Qd H) :
    ∃ W : Nat → Nat → Hp → Prop, (∃ m, W 0 m (upd H1 D (.lst []))) ∧ ∀ i m H, W i m H → ((Itl K a).stop i H ∧ Qd H) ∨ ((Itl K a).go i H ∧ ∃ Nx : Hp → Prop, (∀ H', Nx H' → ∃ m', m' < m ∧ W (i + 1) m' H') ∧
      ∀ x H', (Itl K a).yld i H x H' → (gName i0) x (wipe σ vs) H' fun σ2 H2 => wipe σ2 vs = wipe σ vs ∧ tYes σ2 H2 fun b H3 => if b = true then te σ2 H3 fun y H4 => ∃ acc, H4 D = some (.lst acc) ∧ acc.length < sizeLine ∧ Nx (upd H4 D (.lst (acc ++ [y]))) else Nx H3) := by
  refine lc_list (K := K) (a := a) (xs := xs) (g := gName i0) (tt := tYes) (te := te) (fun i H => Same H1 H ∧ ∃ ys, H D = some (.lst ys) ∧ ys.length = i ∧ ∀ j y, ys[j]? = some y → Rel j y (fresh H1 (off D H)))
    ⟨Same.new hD, [], upd_same, rfl, fun j y h => by simp at h⟩ (fun i H _ p => p.1.seq hq) ?_ ?_
  · rintro i x H hx ⟨sm, ys, hH, hl, hr⟩
    have lt : i < xs.length := (List.getElem?_eq_some_iff.mp hx).1
    refine ⟨hw x, ?_⟩
    show te _ _ _
    refine he i x _ _ ys hx sm hH fun y H4 s4 r4 => ⟨ys, s4 _ _ hH, by omega, Same.put (sm.trans s4) hD, ys ++ [y], upd_same, by rw [List.length_append, hl]; rfl, fun j v hj => ?_⟩
    rw [off_put]
    by_cases hji : j < ys.length
    · rw [List.getElem?_append_left hji] at hj
      exact hm _ _ _ _ (hr j v hj) (fresh_up (fun b h => h) (off_up s4))
    · rw [List.getElem?_append_right (by omega)] at hj
      have hj0 : j - ys.length = 0 := by
        have := (List.getElem?_eq_some_iff.mp hj).1
        rw [List.length_singleton] at this
        omega
      rw [hj0] at hj
      obtain rfl : y = v := Option.some.inj hj
      have e : j = i := by omega
      rw [e]
      refine hm _ _ _ _ r4 fun b o e => ?_
      obtain ⟨h1, h2⟩ := fresh_some e
      have hb : b ≠ D := fun q => by rw [q, hH] at h1; cases h1
      rw [fresh_of (Sx.Same.none sm b h1), off_ne hb]
      exact h2
  · rintro H ⟨sm, ys, hH, hl, hr⟩
    exact hd H ys sm hH hl hr
def pInts (cs : List Int) : PyData := .list (cs.map PyData.int)
theorem eqvAll_ints : ∀ xs ys : List Int, PyData.eqvAll (xs.map PyData.int) (ys.map PyData.int) = decide (xs = ys)
  | [], [] => rfl
  | [], y :: ys => by simp [PyData.eqvAll]
  | x :: xs, [] => by simp [PyData.eqvAll]
  | x :: xs, y :: ys => by
    rw [List.map_cons, List.map_cons, PyData.eqvAll, eqvAll_ints xs ys, PyData.eqv]
    by_cases h : x = y
    · subst h; simp
    · simp [h]
theorem eqv_ints (xs ys : List Int) : PyData.eqv (pInts xs) (pInts ys) = decide (xs = ys) := by
  unfold pInts
  rw [PyData.eqv]
  exact eqvAll_ints xs ys
theorem lay_ints : ∀ xs : List Int, PyData.canLayAll0 (xs.map PyData.int) = true
  | [] => rfl
  | x :: xs => by
    rw [List.map_cons, PyData.canLayAll0, lay_ints xs]
    rfl
theorem dep_ints : ∀ xs : List Int, PyData.depthAll (xs.map PyData.int) ≤ 1
  | [] => Nat.zero_le _
  | x :: xs => by
    rw [List.map_cons, PyData.depthAll]
    exact Nat.max_le.mpr ⟨by rw [PyData.depth]; decide, dep_ints xs⟩
theorem shaped_ints (xs : List Int) : SeqAt.shaped (pInts xs) = true := by
  unfold SeqAt.shaped pInts
  rw [PyData.canLay0, lay_ints, PyData.depth]
  have := dep_ints xs
  simp
  omega
theorem dpAll_ints (K : PySem.W.Frag) (H : Hp) : ∀ xs : List Int, DpAll K H (xs.map V.int) (xs.map PyData.int)
  | [] => .nil
  | x :: xs => .cons (.int x) (dpAll_ints K H xs)
theorem dp_ints {K : PySem.W.Frag} {H : Hp} {a : Addr} {xs : List Int} (h : SqL K H a (xs.map V.int)) : Dp K H (.ref a) (pInts xs) := .lst h (dpAll_ints K H xs)
theorem hu64 {A : Around} {k : Nat} (hr : Room k A) : A.units + 64 < cLine := by
  have := hr.un
  omega
theorem lc_zip {a b : Addr} {xs ys zs : List V} {te : TE} {i0 j0 : Nat} {vs : List Nat} {σ : L2.St} {H1 : Hp} {D : Addr} {Qd : Hp → Prop} (hD : H1 D = none) (hx : SqL K H1 a xs) (hy : SqL K H1 b ys) (hl : ys.length = xs.length) (hz : zs.length = xs.length) (hb : zs.length ≤ sizeLine)
    (hw : ∀ u v : V, wipe (((wipe σ vs).set i0 (some u)).set j0 (some v)) vs = wipe σ vs)
    (he : ∀ (i : Nat) (x y z : V) (H : Hp) (Q : VK), xs[i]? = some x → ys[i]? = some y → zs[i]? = some z → Same H1 H → (∀ H', Same H H' → Q z H') → te (((wipe σ vs).set i0 (some x)).set j0 (some y)) H Q)
    (hd : ∀ H, Same H1 H → H D = some (.lst zs) → Qd H) :
    ∃ W : Nat → Nat → Hp → Prop, (∃ m, W 0 m (upd H1 D (.lst []))) ∧ ∀ i m H, W i m H → ((Itz K a b).stop i H ∧ Qd H) ∨ ((Itz K a b).go i H ∧ ∃ Nx : Hp → Prop, (∀ H', Nx H' → ∃ m', m' < m ∧ W (i + 1) m' H') ∧
      ∀ x H', (Itz K a b).yld i H x H' → (gTup K 2 (gCons (gName i0) (gCons (gName j0) gNil))) x (wipe σ vs) H' fun σ2 H2 => wipe σ2 vs = wipe σ vs ∧ tYes σ2 H2 fun b H3 => if b = true then te σ2 H3 fun y H4 => ∃ acc, H4 D = some (.lst acc) ∧ acc.length < sizeLine ∧ Nx (upd H4 D (.lst (acc ++ [y]))) else Nx H3) := by
  refine ⟨fun i m H => m = zs.length - i ∧ i ≤ zs.length ∧ Same H1 H ∧ H D = some (.lst (zs.take i)), ⟨zs.length, rfl, Nat.zero_le _, Same.new hD, upd_same⟩, ?_⟩
  rintro i m H ⟨rfl, hi, sm, hH⟩
  by_cases lt : i < zs.length
  · have ex : xs[i]? = some (xs[i]'(by omega)) := List.getElem?_eq_getElem _
    have ey : ys[i]? = some (ys[i]'(by omega)) := List.getElem?_eq_getElem _
    have ez : zs[i]? = some zs[i] := List.getElem?_eq_getElem lt
    refine .inr ⟨⟨xs, ys, _, _, sm.seq hx, sm.seq hy, ex, ey⟩, fun H' => Same H1 H' ∧ H' D = some (.lst (zs.take (i + 1))), fun H' q => ⟨zs.length - (i + 1), by omega, rfl, lt, q.1, q.2⟩, ?_⟩
    rintro v H' ⟨T, x, y, rfl, hT, rfl, h1, h2⟩
    have hx2 := h1 _ (sm.seq hx)
    have hy2 := h2 _ (sm.seq hy)
    refine ⟨T, [x, y], rfl, SqT.of upd_same, rfl, x, _, rfl, y, _, rfl, rfl, hw x y, ?_⟩
    show te _ _ _
    have nDT : D ≠ T := ne_of_none hH hT
    refine he i x y _ _ _ hx2 hy2 ez (sm.trans (Same.new hT)) fun H4 s4 => ⟨zs.take i, s4 _ _ (by rw [upd_ne nDT]; exact hH), ?_, ?_, ?_⟩
    · rw [List.length_take]; omega
    · exact Same.put ((sm.trans (Same.new hT)).trans s4) hD
    · rw [upd_same, List.take_add_one, ez]; rfl
  · have e : i = zs.length := by omega
    subst e
    refine .inl ⟨⟨xs, ys, sm.seq hx, sm.seq hy, .inl (by omega)⟩, hd H sm ?_⟩
    rw [hH, List.take_length]
theorem lc_rangeF {lo : Int} {n : Nat} {f : Nat → Bool} {F : Nat → V} {tt : TT} {te : TE} {i0 : Nat} {vs : List Nat} {σ : L2.St} {H1 : Hp} {D : Addr} {Qd : Hp → Prop} (hD : H1 D = none) (hn : n ≤ sizeLine)
    (hw : ∀ u : V, wipe ((wipe σ vs).set i0 (some u)) vs = wipe σ vs)
    (ht : ∀ (i : Nat) (H : Hp) (Q : Bool → Hp → Prop), i < n → Same H1 H → Q (f i) H → tt ((wipe σ vs).set i0 (some (.int (lo + (i : Nat))))) H Q)
    (he : ∀ (i : Nat) (H : Hp) (Q : VK), i < n → Same H1 H → Q (F i) H → te ((wipe σ vs).set i0 (some (.int (lo + (i : Nat))))) H Q)
    (hd : ∀ H, Same H1 H → H D = some (.lst (((List.range n).filter f).map F)) → Qd H) :
    ∃ W : Nat → Nat → Hp → Prop, (∃ m, W 0 m (upd H1 D (.lst []))) ∧ ∀ i m H, W i m H → ((Itr lo n).stop i H ∧ Qd H) ∨ ((Itr lo n).go i H ∧ ∃ Nx : Hp → Prop, (∀ H', Nx H' → ∃ m', m' < m ∧ W (i + 1) m' H') ∧
      ∀ x H', (Itr lo n).yld i H x H' → (gName i0) x (wipe σ vs) H' fun σ2 H2 => wipe σ2 vs = wipe σ vs ∧ tt σ2 H2 fun b H3 => if b = true then te σ2 H3 fun y H4 => ∃ acc, H4 D = some (.lst acc) ∧ acc.length < sizeLine ∧ Nx (upd H4 D (.lst (acc ++ [y]))) else Nx H3) := by
  have step : ∀ i, ((List.range (i + 1)).filter f).map F = ((List.range i).filter f).map F ++ (if f i = true then [F i] else []) := fun i => by
    rw [List.range_succ, List.filter_append, List.map_append]
    by_cases h : f i = true
    · rw [if_pos h]; simp [List.filter_cons, h]
    · rw [if_neg h]; simp [List.filter_cons, h]
  have small : ∀ i, i < n → (((List.range i).filter f).map F).length < sizeLine := fun i h => by
    rw [List.length_map]
    have := List.length_filter_le f (List.range i)
    rw [List.length_range] at this
    omega
  refine lc_range (g := gName i0) (tt := tt) (te := te) (fun i H => Same H1 H ∧ H D = some (.lst (((List.range i).filter f).map F))) ⟨Same.new hD, upd_same⟩ ?_ (fun H q => hd H q.1 q.2)
  rintro i H hi ⟨sm, hH⟩
  refine ⟨hw _, ht i H _ hi sm ?_⟩
  by_cases h : f i = true
  · rw [if_pos h]
    refine he i H _ hi sm ⟨_, hH, small i hi, Same.put sm hD, ?_⟩
    rw [upd_same, step, if_pos h]
  · rw [if_neg h]
    exact ⟨sm, by rw [hH, step, if_neg h, List.append_nil]⟩
theorem eq_int (a b : Int) : decide (V.int a = V.int b) = decide (a = b) := by
  rw [decide_eq_decide]
  exact ⟨V.int.inj, congrArg V.int⟩
theorem eq_str (a b : Str) : decide (V.str a = V.str b) = decide (a = b) := by
  rw [decide_eq_decide]
  exact ⟨V.str.inj, congrArg V.str⟩
theorem lc_rangeS {lo : Int} {n : Nat} {f : Nat → Bool} {F : Nat → V} {tt : TT} {te : TE} {i0 : Nat} {vs : List Nat} {σ : L2.St} {H1 : Hp} {D : Addr} {Qd : Hp → Prop} (hD : H1 D = none) (hn : n ≤ sizeLine)
    (hw : ∀ u : V, wipe ((wipe σ vs).set i0 (some u)) vs = wipe σ vs)
    (ht : ∀ (i : Nat) (H : Hp) (Q : Bool → Hp → Prop), i < n → Same H1 H → (∀ H', Same H H' → Q (f i) H') → tt ((wipe σ vs).set i0 (some (.int (lo + (i : Nat))))) H Q)
    (he : ∀ (i : Nat) (H : Hp) (Q : VK), i < n → Same H1 H → Q (F i) H → te ((wipe σ vs).set i0 (some (.int (lo + (i : Nat))))) H Q)
    (hd : ∀ H, Same H1 H → H D = some (.lst (((List.range n).filter f).map F)) → Qd H) :
    ∃ W : Nat → Nat → Hp → Prop, (∃ m, W 0 m (upd H1 D (.lst []))) ∧ ∀ i m H, W i m H → ((Itr lo n).stop i H ∧ Qd H) ∨ ((Itr lo n).go i H ∧ ∃ Nx : Hp → Prop, (∀ H', Nx H' → ∃ m', m' < m ∧ W (i + 1) m' H') ∧
      ∀ x H', (Itr lo n).yld i H x H' → (gName i0) x (wipe σ vs) H' fun σ2 H2 => wipe σ2 vs = wipe σ vs ∧ tt σ2 H2 fun b H3 => if b = true then te σ2 H3 fun y H4 => ∃ acc, H4 D = some (.lst acc) ∧ acc.length < sizeLine ∧ Nx (upd H4 D (.lst (acc ++ [y]))) else Nx H3) := by
  have step : ∀ i, ((List.range (i + 1)).filter f).map F = ((List.range i).filter f).map F ++ (if f i = true then [F i] else []) := fun i => by
    rw [List.range_succ, List.filter_append, List.map_append]
    by_cases h : f i = true
    · rw [if_pos h]; simp [List.filter_cons, h]
    · rw [if_neg h]; simp [List.filter_cons, h]
  have small : ∀ i, i < n → (((List.range i).filter f).map F).length < sizeLine := fun i h => by
    rw [List.length_map]
    have := List.length_filter_le f (List.range i)
    rw [List.length_range] at this
    omega
  refine lc_range (g := gName i0) (tt := tt) (te := te) (fun i H => Same H1 H ∧ H D = some (.lst (((List.range i).filter f).map F))) ⟨Same.new hD, upd_same⟩ ?_ (fun H q => hd H q.1 q.2)
  rintro i H hi ⟨sm, hH⟩
  refine ⟨hw _, ht i H _ hi sm fun H' s' => ?_⟩
  have hH' := s' _ _ hH
  have sm' := sm.trans s'
  by_cases h : f i = true
  · rw [if_pos h]
    refine he i H' _ hi sm' ⟨_, hH', small i hi, Same.put sm' hD, ?_⟩
    rw [upd_same, step, if_pos h]
  · rw [if_neg h]
    exact ⟨sm', by rw [hH', step, if_neg h, List.append_nil]⟩
theorem pe_fldK {X : Cx} {K : PySem.W.Frag} {e : Expr} {f : Str} {pos : Pos} {ta : TE} (h : X.K = K) (ha : PE X e ta) (hb : attributeBase e f X.env (eval e X.env) = eval e X.env := by rfl) : PE X (.Attribute e f pos) (tFld K ta f) := by
  subst h
  exact pe_fld ha hb
def tTru (K : PySem.W.Frag) (ta : TE) : TT := fun σ H Q => ta σ H fun x H' => ∃ k, TruV K x H' k ∧ Q k H'
theorem pt_truthK {X : Cx} {K : PySem.W.Frag} {a : Expr} {ta : TE} (h : X.K = K) (ha : PE X a ta) (he : ∀ whole, isTrue a X.env whole = (do let v ← whole; standAt a.pos; holding [v] (truthy v)) := by intro _; rfl) :
    PT X a (tTru K ta) := by
  subst h
  exact pt_truth ha he
theorem op_inK {X : Cx} {K : PySem.W.Frag} (h : X.K = K) : OpR X (compareOp .In) (rIn K false) := by
  subst h
  exact op_in_seq
theorem But.refl (a : Addr) (H : Hp) : But a H H := fun _ _ e _ => e
theorem But.trans {a : Addr} {H H1 H2 : Hp} (x : But a H H1) (y : But a H1 H2) : But a H H2 := fun b o e hb => y b o (x b o e hb) hb
theorem But.put (a : Addr) (H : Hp) (o : HO) : But a H (upd H a o) := fun b u e hb => by rw [upd_ne hb]; exact e
theorem ix_tupK {X : Cx} {K : PySem.W.Frag} (h : X.K = K) : IxR X (rIxT K) := by
  subst h
  exact ix_tup
theorem ix_listK {X : Cx} {K : PySem.W.Frag} (h : X.K = K) : IxR X (rIxL K) := by
  subst h
  exact ix_list
theorem But.none {a b : Addr} {H H' : Hp} {o : HO} (s : But a H H') (h : H' a = some o) (hb : H' b = Option.none) : H b = Option.none := by
  cases e : H b with
  | none => rfl
  | some u =>
    have n : b ≠ a := fun q => by rw [q, h] at hb; cases hb
    rw [s b u e n] at hb
    cases hb
theorem sl_app (a b : Str) : sl (a ++ b) = sl a ++ sl b := by
  show (a.cps ++ b.cps).toList = _
  simp
theorem sl_sg (c : Nat) : sl (sg c) = [c] := rfl
theorem sl_mt : sl (Str.ofString "") = [] := by decide +kernel
theorem len_app (a b : Str) : (a ++ b).length = a.length + b.length := by
  rw [sl_len, sl_len, sl_len, sl_app, List.length_append]
theorem sl_ext {a b : Str} (h : sl a = sl b) : a = b := by
  obtain ⟨a⟩ := a
  obtain ⟨b⟩ := b
  have : a = b := by
    apply Array.ext'
    exact h
  rw [this]
theorem join_sg : ∀ zs : List Nat, sl (Txt.join (Str.ofString "") (zs.map sg)) = zs := by
  intro zs
  have e : Txt.join (Str.ofString "") (zs.map sg) = Str.join (Str.ofString "") (zs.map sg) := eq_of_beq (join_plain_closes _ _)
  rw [e]
  have e0 : Str.ofString "" = ⟨#[]⟩ := by decide +kernel
  rw [e0]
  induction zs with
  | nil => rfl
  | cons c r ih =>
    cases r with
    | nil => rfl
    | cons d r =>
      have e2 : Str.join ⟨#[]⟩ ((c :: d :: r).map sg) = sg c ++ ⟨#[]⟩ ++ Str.join ⟨#[]⟩ ((d :: r).map sg) := rfl
      rw [e2, sl_app, ih (eq_of_beq (join_plain_closes _ _)), sl_app]
      rfl
theorem lc_signs {z : Str} {tt : TT} {te : TE} {i0 : Nat} {vs : List Nat} {σ : L2.St} {H1 : Hp} {D : Addr} {Qd : Hp → Prop} (Pv : Nat → Hp → Prop) (h0 : Pv 0 (upd H1 D (.lst [])))
    (hs : ∀ (i c : Nat) (H : Hp), (sl z)[i]? = some c → Pv i H → wipe ((wipe σ vs).set i0 (some (.str (sg c)))) vs = wipe σ vs ∧ tt ((wipe σ vs).set i0 (some (.str (sg c)))) H fun b H3 => if b = true then te ((wipe σ vs).set i0 (some (.str (sg c)))) H3 fun y H4 => ∃ acc, H4 D = some (.lst acc) ∧ acc.length < sizeLine ∧ Pv (i + 1) (upd H4 D (.lst (acc ++ [y]))) else Pv (i + 1) H3)
    (hd : ∀ H, Pv (sl z).length H → Qd H) :
    ∃ W : Nat → Nat → Hp → Prop, (∃ m, W 0 m (upd H1 D (.lst []))) ∧ ∀ i m H, W i m H → ((Its z).stop i H ∧ Qd H) ∨ ((Its z).go i H ∧ ∃ Nx : Hp → Prop, (∀ H', Nx H' → ∃ m', m' < m ∧ W (i + 1) m' H') ∧
      ∀ x H', (Its z).yld i H x H' → (gName i0) x (wipe σ vs) H' fun σ2 H2 => wipe σ2 vs = wipe σ vs ∧ tt σ2 H2 fun b H3 => if b = true then te σ2 H3 fun y H4 => ∃ acc, H4 D = some (.lst acc) ∧ acc.length < sizeLine ∧ Nx (upd H4 D (.lst (acc ++ [y]))) else Nx H3) := by
  have hsz : z.cps.size = (sl z).length := by simp
  refine ⟨fun i m H => m = (sl z).length - i ∧ i ≤ (sl z).length ∧ Pv i H, ⟨(sl z).length, rfl, Nat.zero_le _, h0⟩, ?_⟩
  rintro i m H ⟨rfl, hi, p⟩
  by_cases lt : i < (sl z).length
  · refine .inr ⟨by show i < z.cps.size; omega, Pv (i + 1), fun H' q => ⟨(sl z).length - (i + 1), by omega, rfl, lt, q⟩, ?_⟩
    rintro x H' ⟨rfl, c, hc, rfl⟩
    exact hs i c _ (by rw [Array.getElem?_toList]; exact hc) p
  · have e : i = (sl z).length := by omega
    subst e
    exact .inl ⟨by show z.cps.size ≤ (sl z).length; omega, hd H p⟩
theorem for_signs {z : Str} {g : TG} {tb : TS} {D : Ends} {σ : L2.St} {H : Hp} (Pv : Nat → L2.St → Hp → Prop) (h0 : Pv 0 σ H)
    (hs : ∀ (i c : Nat) (σ : L2.St) (H : Hp), (sl z)[i]? = some c → Pv i σ H → g (.str (sg c)) σ H fun σ2 H2 => tb { D with nx := Pv (i + 1), ct := Pv (i + 1), bk := D.nx } σ2 H2) (hd : ∀ σ H, Pv (sl z).length σ H → D.nx σ H) :
    ∃ W : Nat → Nat → L2.St → Hp → Prop, (∃ m, W 0 m σ H) ∧ ∀ i m σ H, W i m σ H → ((Its z).stop i H ∧ D.nx σ H) ∨ ((Its z).go i H ∧ ∃ N : L2.St → Hp → Prop, (∀ σ' H', N σ' H' → ∃ m', m' < m ∧ W (i + 1) m' σ' H') ∧
      ∀ v H', (Its z).yld i H v H' → g v σ H' fun σ2 H2 => tb { D with nx := N, ct := N, bk := D.nx } σ2 H2) := by
  have hsz : z.cps.size = (sl z).length := by simp
  refine ⟨fun i m σ H => m = (sl z).length - i ∧ i ≤ (sl z).length ∧ Pv i σ H, ⟨(sl z).length, rfl, Nat.zero_le _, h0⟩, ?_⟩
  rintro i m σ H ⟨rfl, hi, p⟩
  by_cases lt : i < (sl z).length
  · refine .inr ⟨by show i < z.cps.size; omega, Pv (i + 1), fun σ' H' q => ⟨(sl z).length - (i + 1), by omega, rfl, lt, q⟩, ?_⟩
    rintro x H' ⟨rfl, c, hc, rfl⟩
    exact hs i c σ _ (by rw [Array.getElem?_toList]; exact hc) p
  · have e : i = (sl z).length := by omega
    subst e
    exact .inl ⟨by show z.cps.size ≤ (sl z).length; omega, hd σ H p⟩
theorem RZat {l : List Nat} {u : Int} (h : u.toNat < l.length) (h0 : 0 ≤ u) : atI l u = some l[u.toNat] := by
  have h2 := atI_nat (xs := l) (j := u.toNat) (List.getElem?_eq_getElem h)
  have e : ((u.toNat : Nat) : Int) = u := by omega
  rw [e] at h2
  exact h2
theorem map_snoc {α β : Type} (f : α → β) (l : List α) (x : α) : (l ++ [x]).map f = l.map f ++ [f x] := by simp
end
end Sx

set_option Elab.async false
set_option linter.all false
set_option maxRecDepth 100000
set_option maxHeartbeats 1000000
namespace Sx
open PySem PySem.Spec PyProof.Rows L2 SxA
/-! ### classes: methods that do not raise, and what is made -/
section
variable {P : Program} {w : World} {K : PySem.W.Frag} {mg : Str → Option Value} {base : Heap}
def Met (P : Program) (w : World) (K : PySem.W.Frag) (mg : Str → Option Value) (base : Heap) (k : Nat) (C m : Str) (ps : List Str) (sp : Sp) : Prop :=
  ∃ fd, FnOk P w K mg base CX0 k (He.ma K (He.ga K C) m) fd ps sp ∧ Binds K fd ps []
theorem mkMet {C m qual : Str} {st : Stmt} {N ps : List Str} {k : Nat} {sp : Sp} (d : ∃ fd, FunD K m qual (defArgs st) (defBody st) (defScope st) [] [] (He.ma K (He.ga K C) m) fd) (S : FnScope N ps (defScope st)) (len : ∀ vs H Q E, sp vs H Q E → vs.length = ps.length)
    (bnd : ∀ (kV doc pm : Value) (an : Option Addr) (cdv ct : Value) (us : List Value), us.length = ps.length → bindArgs (PySem.W.fnOf m qual (defArgs st) (defBody st) (defScope st) .none kV doc pm an cdv ct) ⟨us, []⟩ = pure (ps.zip us))
    (body : ∀ (cdv : Value) (A : Around) (outer : List Env) (s : Shared) (H0 : Hp) (vs : List V) (Q : VK) (E : XK), Room k (A.deeper (envOfC qual (defScope st) s.heap.objs.size (He.ma K (He.ga K C) m) cdv)) → sp vs H0 Q E →
      ∃ t, PSs (cxOf CX0 P w K mg base N qual (defScope st) (He.ma K (He.ga K C) m) cdv A outer s H0 E).nox (defBody st) t ∧ t { nx := fun _ H' => Q .non H', rt := Q } (start N vs) H0) : Met P w K mg base (k + 1) C m ps sp := by
  obtain ⟨fd, F⟩ := d
  refine ⟨fd, F.ok S len fun cdv A outer s H vs Q E hr h => ?_, F.bindsN bnd⟩
  obtain ⟨t, h1, h2⟩ := body cdv A outer s H vs Q E hr h
  exact ⟨t, h1.nox, h2⟩
theorem pe_met {X : Cx} {k : Nat} {C m : Str} {ps : List Str} {sp : Sp} {apos pos : Pos} {o e : Expr} {es : List Expr} {ta : TE} {t : TA} {pl : Sem Bool} (M : Met X.prog X.w X.K X.mg X.base k C m ps sp) (c : Cls X.K (He.ga X.K C)) (hm : Meth X.K (He.ga X.K C) m (He.ma X.K (He.ga X.K C) m))
    (hr : Room k X.A) (he : PE X o ta) (ha : PA X (e :: es) t)
    (hst : starEach (e :: es) X.env = (false, eval e X.env) :: starEach es X.env := by rfl) (hpl : (backTo pos (starEach es X.env)).any (·.1) = false := by rfl)
    (ht : eval (.Call (.Attribute o m apos) (e :: es) [] pos) X.env = (do
      let ov ← eval o X.env
      standAt apos.atName
      let (f, first) ← holding [ov] (getMethod ov m pl)
      callWith pos f first (backTo pos (starEach (e :: es) X.env)) (backToKw pos (keywordEach [] X.env))) := by rfl) :
    PE X (.Call (.Attribute o m apos) (e :: es) [] pos) (tMeth (He.ga X.K C) m sp [] E0 ta t) := by
  obtain ⟨fd, F, b⟩ := M
  exact pe_meth he c hm F hr b .nil pass0 ha hst hpl ht
theorem pe_met0 {X : Cx} {k : Nat} {C m : Str} {ps : List Str} {sp : Sp} {apos pos : Pos} {o : Expr} {ta : TE} {pl : Sem Bool} (M : Met X.prog X.w X.K X.mg X.base k C m ps sp) (c : Cls X.K (He.ga X.K C)) (hm : Meth X.K (He.ga X.K C) m (He.ma X.K (He.ga X.K C) m))
    (hr : Room k X.A) (he : PE X o ta)
    (ht : eval (.Call (.Attribute o m apos) [] [] pos) X.env = (do
      let ov ← eval o X.env
      standAt apos.atName
      let (f, first) ← holding [ov] (getMethod ov m pl)
      callWith pos f first (backTo pos (starEach [] X.env)) (backToKw pos (keywordEach [] X.env))) := by rfl) :
    PE X (.Call (.Attribute o m apos) [] [] pos) (tMeth (He.ga X.K C) m sp [] E0 ta tNil) := by
  obtain ⟨fd, F, b⟩ := M
  exact pe_meth0 he c hm F hr b .nil pass0 ht
theorem pe_metK {X : Cx} {K : PySem.W.Frag} {k : Nat} {C m : Str} {ps : List Str} {sp : Sp} {apos pos : Pos} {o e : Expr} {es : List Expr} {ta : TE} {t : TA} {pl : Sem Bool} (h : X.K = K) (M : Met X.prog X.w K X.mg X.base k C m ps sp) (c : Cls K (He.ga K C)) (hm : Meth K (He.ga K C) m (He.ma K (He.ga K C) m))
    (hr : Room k X.A) (he : PE X o ta) (ha : PA X (e :: es) t)
    (hst : starEach (e :: es) X.env = (false, eval e X.env) :: starEach es X.env := by rfl) (hpl : (backTo pos (starEach es X.env)).any (·.1) = false := by rfl)
    (ht : eval (.Call (.Attribute o m apos) (e :: es) [] pos) X.env = (do
      let ov ← eval o X.env
      standAt apos.atName
      let (f, first) ← holding [ov] (getMethod ov m pl)
      callWith pos f first (backTo pos (starEach (e :: es) X.env)) (backToKw pos (keywordEach [] X.env))) := by rfl) :
    PE X (.Call (.Attribute o m apos) (e :: es) [] pos) (tMeth (He.ga K C) m sp [] E0 ta t) := by
  subst h
  exact pe_met M c hm hr he ha hst hpl ht
theorem pe_met0K {X : Cx} {K : PySem.W.Frag} {k : Nat} {C m : Str} {ps : List Str} {sp : Sp} {apos pos : Pos} {o : Expr} {ta : TE} {pl : Sem Bool} (h : X.K = K) (M : Met X.prog X.w K X.mg X.base k C m ps sp) (c : Cls K (He.ga K C)) (hm : Meth K (He.ga K C) m (He.ma K (He.ga K C) m))
    (hr : Room k X.A) (he : PE X o ta)
    (ht : eval (.Call (.Attribute o m apos) [] [] pos) X.env = (do
      let ov ← eval o X.env
      standAt apos.atName
      let (f, first) ← holding [ov] (getMethod ov m pl)
      callWith pos f first (backTo pos (starEach [] X.env)) (backToKw pos (keywordEach [] X.env))) := by rfl) :
    PE X (.Call (.Attribute o m apos) [] [] pos) (tMeth (He.ga K C) m sp [] E0 ta tNil) := by
  subst h
  exact pe_met0 M c hm hr he ht
theorem pe_mk {X : Cx} {k : Nat} {C : Str} {ps : List Str} {sp : Sp} {p pos : Pos} {e : Expr} {es : List Expr} {t : TA} (M : Met X.prog X.w X.K X.mg X.base k C "__init__" ps sp) (m : Mk X.K (He.ga X.K C) (He.ma X.K (He.ga X.K C) "__init__")) (hm : X.mg C = some (.ref (He.ga X.K C)))
    (hr : Room (k + 1) X.A) (hg : Gl X C) (ha : PA X (e :: es) t)
    (hdb : (C == ("__debug__" : Str)) = false := by decide) (he : starEach (e :: es) X.env = (false, eval e X.env) :: starEach es X.env := by rfl) (hpl : (backTo pos (starEach es X.env)).any (·.1) = false := by rfl) :
    PE X (.Call (.Name C p) (e :: es) [] pos) (tMake (He.ga X.K C) sp [] E0 t) := by
  obtain ⟨fd, F, b⟩ := M
  exact pe_make m F hr hg hm b .nil pass0 ha hdb he hpl
end
end Sx

set_option Elab.async false
set_option linter.all false
set_option maxRecDepth 100000
set_option maxHeartbeats 0
namespace Sx
open PySem PySem.Spec PyProof.Rows L2
/-! ### the text by places -/
def top (i : Nat) : Stmt := PySem.Challenge.pw_sixdot_k34_whole_accepted_prices_show_th.main.body.getD i (.Pass ⟨0, 0, 0, 0⟩)
abbrev sPagesInit : Stmt := inClass (top 4) 0
abbrev sPagesEnds_from : Stmt := inClass (top 4) 1
abbrev sPagesCost : Stmt := inClass (top 4) 2
abbrev sPagesLast_beginning : Stmt := inClass (top 4) 3
abbrev sPagesLeast_costs : Stmt := inClass (top 4) 4
abbrev sPagesAre_all : Stmt := inClass (top 4) 5
abbrev sWall : Stmt := top 0
abbrev sMayPart : Stmt := top 2
abbrev sPartingPlaces : Stmt := top 3
abbrev sAreLow : Stmt := top 5
abbrev sAreReached : Stmt := top 6
abbrev sAcceptsPrices : Stmt := top 7
abbrev sLawDraws : Stmt := top 9
abbrev sLawTake : Stmt := top 10
abbrev sLawSame : Stmt := top 11
abbrev sLawText : Stmt := top 12
abbrev sLawBlock : Stmt := top 13
abbrev sLawBlocks : Stmt := top 14
abbrev sLawCounts : Stmt := top 15
abbrev sLawOwners : Stmt := top 16
abbrev sLawMay : Stmt := top 17
abbrev sLawEnds : Stmt := top 18
abbrev sLawPageCost : Stmt := top 19
abbrev sLawLeast : Stmt := top 20
abbrev sLawDrawnEnds : Stmt := top 21
abbrev sLawWholeCost : Stmt := top 22
abbrev sLawPrices : Stmt := top 23
abbrev sLawForged : Stmt := top 24
abbrev sLaw : Stmt := top 25
/-! ### the head: facts by names, the run -/
def dPagesInit : He.DefD := ⟨("Pages", some "__init__"), "__init__", "Pages.__init__", defArgs sPagesInit, defBody sPagesInit, defScope sPagesInit, [], []⟩
def dPagesEnds_from : He.DefD := ⟨("Pages", some "ends_from"), "ends_from", "Pages.ends_from", defArgs sPagesEnds_from, defBody sPagesEnds_from, defScope sPagesEnds_from, [], []⟩
def dPagesCost : He.DefD := ⟨("Pages", some "cost"), "cost", "Pages.cost", defArgs sPagesCost, defBody sPagesCost, defScope sPagesCost, [], []⟩
def dPagesLast_beginning : He.DefD := ⟨("Pages", some "last_beginning"), "last_beginning", "Pages.last_beginning", defArgs sPagesLast_beginning, defBody sPagesLast_beginning, defScope sPagesLast_beginning, [], []⟩
def dPagesLeast_costs : He.DefD := ⟨("Pages", some "least_costs"), "least_costs", "Pages.least_costs", defArgs sPagesLeast_costs, defBody sPagesLeast_costs, defScope sPagesLeast_costs, [], []⟩
def dPagesAre_all : He.DefD := ⟨("Pages", some "are_all"), "are_all", "Pages.are_all", defArgs sPagesAre_all, defBody sPagesAre_all, defScope sPagesAre_all, [], []⟩
def dWall : He.DefD := ⟨("_wall", none), "_wall", "_wall", defArgs sWall, defBody sWall, defScope sWall, [], []⟩
def dMayPart : He.DefD := ⟨("may_part", none), "may_part", "may_part", defArgs sMayPart, defBody sMayPart, defScope sMayPart, [], []⟩
def dPartingPlaces : He.DefD := ⟨("parting_places", none), "parting_places", "parting_places", defArgs sPartingPlaces, defBody sPartingPlaces, defScope sPartingPlaces, [], []⟩
def dAreLow : He.DefD := ⟨("are_low", none), "are_low", "are_low", defArgs sAreLow, defBody sAreLow, defScope sAreLow, [], []⟩
def dAreReached : He.DefD := ⟨("are_reached", none), "are_reached", "are_reached", defArgs sAreReached, defBody sAreReached, defScope sAreReached, [], []⟩
def dAcceptsPrices : He.DefD := ⟨("accepts_prices", none), "accepts_prices", "accepts_prices", defArgs sAcceptsPrices, defBody sAcceptsPrices, defScope sAcceptsPrices, [], []⟩
def dLawDraws : He.DefD := ⟨("_law_draws", none), "_law_draws", "_law_draws", defArgs sLawDraws, defBody sLawDraws, defScope sLawDraws, [], []⟩
def dLawTake : He.DefD := ⟨("_law_take", none), "_law_take", "_law_take", defArgs sLawTake, defBody sLawTake, defScope sLawTake, [], []⟩
def dLawSame : He.DefD := ⟨("_law_same", none), "_law_same", "_law_same", defArgs sLawSame, defBody sLawSame, defScope sLawSame, [], []⟩
def dLawText : He.DefD := ⟨("_law_text", none), "_law_text", "_law_text", defArgs sLawText, defBody sLawText, defScope sLawText, [], []⟩
def dLawBlock : He.DefD := ⟨("_law_block", none), "_law_block", "_law_block", defArgs sLawBlock, defBody sLawBlock, defScope sLawBlock, [], []⟩
def dLawBlocks : He.DefD := ⟨("_law_blocks", none), "_law_blocks", "_law_blocks", defArgs sLawBlocks, defBody sLawBlocks, defScope sLawBlocks, [], []⟩
def dLawCounts : He.DefD := ⟨("_law_counts", none), "_law_counts", "_law_counts", defArgs sLawCounts, defBody sLawCounts, defScope sLawCounts, [], []⟩
def dLawOwners : He.DefD := ⟨("_law_owners", none), "_law_owners", "_law_owners", defArgs sLawOwners, defBody sLawOwners, defScope sLawOwners, [], []⟩
def dLawMay : He.DefD := ⟨("_law_may", none), "_law_may", "_law_may", defArgs sLawMay, defBody sLawMay, defScope sLawMay, [], []⟩
def dLawEnds : He.DefD := ⟨("_law_ends", none), "_law_ends", "_law_ends", defArgs sLawEnds, defBody sLawEnds, defScope sLawEnds, [], []⟩
def dLawPageCost : He.DefD := ⟨("_law_page_cost", none), "_law_page_cost", "_law_page_cost", defArgs sLawPageCost, defBody sLawPageCost, defScope sLawPageCost, [], []⟩
def dLawLeast : He.DefD := ⟨("_law_least", none), "_law_least", "_law_least", defArgs sLawLeast, defBody sLawLeast, defScope sLawLeast, [], []⟩
def dLawDrawnEnds : He.DefD := ⟨("_law_drawn_ends", none), "_law_drawn_ends", "_law_drawn_ends", defArgs sLawDrawnEnds, defBody sLawDrawnEnds, defScope sLawDrawnEnds, [], []⟩
def dLawWholeCost : He.DefD := ⟨("_law_whole_cost", none), "_law_whole_cost", "_law_whole_cost", defArgs sLawWholeCost, defBody sLawWholeCost, defScope sLawWholeCost, [], []⟩
def dLawPrices : He.DefD := ⟨("_law_prices", none), "_law_prices", "_law_prices", defArgs sLawPrices, defBody sLawPrices, defScope sLawPrices, [], []⟩
def dLawForged : He.DefD := ⟨("_law_forged", none), "_law_forged", "_law_forged", defArgs sLawForged, defBody sLawForged, defScope sLawForged, [], []⟩
def dLaw : He.DefD := ⟨("law", none), "law", "law", defArgs sLaw, defBody sLaw, defScope sLaw, [], []⟩
def fn : List He.DefD := [dPagesInit, dPagesEnds_from, dPagesCost, dPagesLast_beginning, dPagesLeast_costs, dPagesAre_all, dWall, dMayPart, dPartingPlaces, dAreLow, dAreReached, dAcceptsPrices, dLawDraws, dLawTake, dLawSame, dLawText, dLawBlock, dLawBlocks, dLawCounts, dLawOwners, dLawMay, dLawEnds, dLawPageCost, dLawLeast, dLawDrawnEnds, dLawWholeCost, dLawPrices, dLawForged, dLaw]
def fa : List He.Fa := [.glo "_wall", .glo "may_part", .glo "parting_places", .glo "are_low", .glo "are_reached", .glo "accepts_prices", .glo "_law_draws", .glo "_law_take", .glo "_law_same", .glo "_law_text", .glo "_law_block", .glo "_law_blocks", .glo "_law_counts", .glo "_law_owners", .glo "_law_may", .glo "_law_ends", .glo "_law_page_cost", .glo "_law_least", .glo "_law_drawn_ends", .glo "_law_whole_cost", .glo "_law_prices", .glo "_law_forged", .glo "law", .free "abs", .free "all", .free "bool", .free "int", .free "isinstance", .free "len", .free "list", .free "max", .free "min", .free "range", .free "reversed", .free "str", .free "sum", .free "tuple", .free "zip", .glo "Pages", .cls "Pages", .mkr "Pages", .meth "Pages" "ends_from", .meth "Pages" "cost", .meth "Pages" "last_beginning", .meth "Pages" "least_costs", .meth "Pages" "are_all", .noat "Pages" "most", .noat "Pages" "parting", .noat "Pages" "total", .noat "Pages" "behind_stops"]
def loose0 : List Str := ["_wall", "may_part", "parting_places", "Pages", "are_low", "are_reached", "accepts_prices", "_law_draws", "_law_take", "_law_same", "_law_text", "_law_block", "_law_blocks", "_law_counts", "_law_owners", "_law_may", "_law_ends", "_law_page_cost", "_law_least", "_law_drawn_ends", "_law_whole_cost", "_law_prices", "_law_forged"]
abbrev loose : List Str := loose0
abbrev R : PySem.W.OpenRow := PySem.W.OpenLaw.row PySem.Challenge.rw_sixdot_k34_whole_accepted_prices_show_th
abbrev hk : PySem.W.Hook := He.hookD 5 fa fn
def ob (s : PySem.W.SharedT) : He.AlD := He.obsDG 5 fa fn (HandSHeadRun.getT s)
theorem ob_eq (s : PySem.W.SharedT) : ob s = hk.obs s.abs := He.obsDG_eq (HandSHeadRun.getT_eq s)
theorem run (w : World) : HandSHeadRun.RunEq R (PySem.W.view R.prog [25]) hk ob 4000 loose w := by
  intro os
  kernel_rfl
end Sx

set_option Elab.async false
set_option linter.all false
set_option maxRecDepth 100000
set_option maxHeartbeats 4000000
namespace Sx
open PySem PySem.Spec PyProof.Rows L2
/-- what stands behind the top -/
structure T (K : PySem.W.Frag) (mg : Str → Option Value) : Prop where
  c : He.SaysD fa fn K
  g : ∃ h : Heap, K.In h ∧ h.Ns mainGlobals mg
section
variable {K : PySem.W.Frag} {mg : Str → Option Value}

theorem T.g_wall (t : T K mg) : mg "_wall" = some (.ref (He.ga K "_wall")) := by
  obtain ⟨h, X, G⟩ := t.g
  exact He.glo_ok X G (t.c.fact 0 (f := .glo "_wall") rfl)
theorem T.g_may_part (t : T K mg) : mg "may_part" = some (.ref (He.ga K "may_part")) := by
  obtain ⟨h, X, G⟩ := t.g
  exact He.glo_ok X G (t.c.fact 1 (f := .glo "may_part") rfl)
theorem T.g_parting_places (t : T K mg) : mg "parting_places" = some (.ref (He.ga K "parting_places")) := by
  obtain ⟨h, X, G⟩ := t.g
  exact He.glo_ok X G (t.c.fact 2 (f := .glo "parting_places") rfl)
theorem T.g_are_low (t : T K mg) : mg "are_low" = some (.ref (He.ga K "are_low")) := by
  obtain ⟨h, X, G⟩ := t.g
  exact He.glo_ok X G (t.c.fact 3 (f := .glo "are_low") rfl)
theorem T.g_are_reached (t : T K mg) : mg "are_reached" = some (.ref (He.ga K "are_reached")) := by
  obtain ⟨h, X, G⟩ := t.g
  exact He.glo_ok X G (t.c.fact 4 (f := .glo "are_reached") rfl)
theorem T.g_accepts_prices (t : T K mg) : mg "accepts_prices" = some (.ref (He.ga K "accepts_prices")) := by
  obtain ⟨h, X, G⟩ := t.g
  exact He.glo_ok X G (t.c.fact 5 (f := .glo "accepts_prices") rfl)
theorem T.g_law_draws (t : T K mg) : mg "_law_draws" = some (.ref (He.ga K "_law_draws")) := by
  obtain ⟨h, X, G⟩ := t.g
  exact He.glo_ok X G (t.c.fact 6 (f := .glo "_law_draws") rfl)
theorem T.g_law_take (t : T K mg) : mg "_law_take" = some (.ref (He.ga K "_law_take")) := by
  obtain ⟨h, X, G⟩ := t.g
  exact He.glo_ok X G (t.c.fact 7 (f := .glo "_law_take") rfl)
theorem T.g_law_same (t : T K mg) : mg "_law_same" = some (.ref (He.ga K "_law_same")) := by
  obtain ⟨h, X, G⟩ := t.g
  exact He.glo_ok X G (t.c.fact 8 (f := .glo "_law_same") rfl)
theorem T.g_law_text (t : T K mg) : mg "_law_text" = some (.ref (He.ga K "_law_text")) := by
  obtain ⟨h, X, G⟩ := t.g
  exact He.glo_ok X G (t.c.fact 9 (f := .glo "_law_text") rfl)
theorem T.g_law_block (t : T K mg) : mg "_law_block" = some (.ref (He.ga K "_law_block")) := by
  obtain ⟨h, X, G⟩ := t.g
  exact He.glo_ok X G (t.c.fact 10 (f := .glo "_law_block") rfl)
theorem T.g_law_blocks (t : T K mg) : mg "_law_blocks" = some (.ref (He.ga K "_law_blocks")) := by
  obtain ⟨h, X, G⟩ := t.g
  exact He.glo_ok X G (t.c.fact 11 (f := .glo "_law_blocks") rfl)
theorem T.g_law_counts (t : T K mg) : mg "_law_counts" = some (.ref (He.ga K "_law_counts")) := by
  obtain ⟨h, X, G⟩ := t.g
  exact He.glo_ok X G (t.c.fact 12 (f := .glo "_law_counts") rfl)
theorem T.g_law_owners (t : T K mg) : mg "_law_owners" = some (.ref (He.ga K "_law_owners")) := by
  obtain ⟨h, X, G⟩ := t.g
  exact He.glo_ok X G (t.c.fact 13 (f := .glo "_law_owners") rfl)
theorem T.g_law_may (t : T K mg) : mg "_law_may" = some (.ref (He.ga K "_law_may")) := by
  obtain ⟨h, X, G⟩ := t.g
  exact He.glo_ok X G (t.c.fact 14 (f := .glo "_law_may") rfl)
theorem T.g_law_ends (t : T K mg) : mg "_law_ends" = some (.ref (He.ga K "_law_ends")) := by
  obtain ⟨h, X, G⟩ := t.g
  exact He.glo_ok X G (t.c.fact 15 (f := .glo "_law_ends") rfl)
theorem T.g_law_page_cost (t : T K mg) : mg "_law_page_cost" = some (.ref (He.ga K "_law_page_cost")) := by
  obtain ⟨h, X, G⟩ := t.g
  exact He.glo_ok X G (t.c.fact 16 (f := .glo "_law_page_cost") rfl)
theorem T.g_law_least (t : T K mg) : mg "_law_least" = some (.ref (He.ga K "_law_least")) := by
  obtain ⟨h, X, G⟩ := t.g
  exact He.glo_ok X G (t.c.fact 17 (f := .glo "_law_least") rfl)
theorem T.g_law_drawn_ends (t : T K mg) : mg "_law_drawn_ends" = some (.ref (He.ga K "_law_drawn_ends")) := by
  obtain ⟨h, X, G⟩ := t.g
  exact He.glo_ok X G (t.c.fact 18 (f := .glo "_law_drawn_ends") rfl)
theorem T.g_law_whole_cost (t : T K mg) : mg "_law_whole_cost" = some (.ref (He.ga K "_law_whole_cost")) := by
  obtain ⟨h, X, G⟩ := t.g
  exact He.glo_ok X G (t.c.fact 19 (f := .glo "_law_whole_cost") rfl)
theorem T.g_law_prices (t : T K mg) : mg "_law_prices" = some (.ref (He.ga K "_law_prices")) := by
  obtain ⟨h, X, G⟩ := t.g
  exact He.glo_ok X G (t.c.fact 20 (f := .glo "_law_prices") rfl)
theorem T.g_law_forged (t : T K mg) : mg "_law_forged" = some (.ref (He.ga K "_law_forged")) := by
  obtain ⟨h, X, G⟩ := t.g
  exact He.glo_ok X G (t.c.fact 21 (f := .glo "_law_forged") rfl)
theorem T.g_law (t : T K mg) : mg "law" = some (.ref (He.ga K "law")) := by
  obtain ⟨h, X, G⟩ := t.g
  exact He.glo_ok X G (t.c.fact 22 (f := .glo "law") rfl)
theorem T.f_abs (t : T K mg) : mg "abs" = none := by
  obtain ⟨h, X, G⟩ := t.g
  exact He.free_ok X G (t.c.fact 23 (f := .free "abs") rfl)
theorem T.f_all (t : T K mg) : mg "all" = none := by
  obtain ⟨h, X, G⟩ := t.g
  exact He.free_ok X G (t.c.fact 24 (f := .free "all") rfl)
theorem T.f_bool (t : T K mg) : mg "bool" = none := by
  obtain ⟨h, X, G⟩ := t.g
  exact He.free_ok X G (t.c.fact 25 (f := .free "bool") rfl)
theorem T.f_int (t : T K mg) : mg "int" = none := by
  obtain ⟨h, X, G⟩ := t.g
  exact He.free_ok X G (t.c.fact 26 (f := .free "int") rfl)
theorem T.f_isinstance (t : T K mg) : mg "isinstance" = none := by
  obtain ⟨h, X, G⟩ := t.g
  exact He.free_ok X G (t.c.fact 27 (f := .free "isinstance") rfl)
theorem T.f_len (t : T K mg) : mg "len" = none := by
  obtain ⟨h, X, G⟩ := t.g
  exact He.free_ok X G (t.c.fact 28 (f := .free "len") rfl)
theorem T.f_list (t : T K mg) : mg "list" = none := by
  obtain ⟨h, X, G⟩ := t.g
  exact He.free_ok X G (t.c.fact 29 (f := .free "list") rfl)
theorem T.f_max (t : T K mg) : mg "max" = none := by
  obtain ⟨h, X, G⟩ := t.g
  exact He.free_ok X G (t.c.fact 30 (f := .free "max") rfl)
theorem T.f_min (t : T K mg) : mg "min" = none := by
  obtain ⟨h, X, G⟩ := t.g
  exact He.free_ok X G (t.c.fact 31 (f := .free "min") rfl)
theorem T.f_range (t : T K mg) : mg "range" = none := by
  obtain ⟨h, X, G⟩ := t.g
  exact He.free_ok X G (t.c.fact 32 (f := .free "range") rfl)
theorem T.f_reversed (t : T K mg) : mg "reversed" = none := by
  obtain ⟨h, X, G⟩ := t.g
  exact He.free_ok X G (t.c.fact 33 (f := .free "reversed") rfl)
theorem T.f_str (t : T K mg) : mg "str" = none := by
  obtain ⟨h, X, G⟩ := t.g
  exact He.free_ok X G (t.c.fact 34 (f := .free "str") rfl)
theorem T.f_sum (t : T K mg) : mg "sum" = none := by
  obtain ⟨h, X, G⟩ := t.g
  exact He.free_ok X G (t.c.fact 35 (f := .free "sum") rfl)
theorem T.f_tuple (t : T K mg) : mg "tuple" = none := by
  obtain ⟨h, X, G⟩ := t.g
  exact He.free_ok X G (t.c.fact 36 (f := .free "tuple") rfl)
theorem T.f_zip (t : T K mg) : mg "zip" = none := by
  obtain ⟨h, X, G⟩ := t.g
  exact He.free_ok X G (t.c.fact 37 (f := .free "zip") rfl)
theorem T.g_Pages (t : T K mg) : mg "Pages" = some (.ref (He.ga K "Pages")) := by
  obtain ⟨h, X, G⟩ := t.g
  exact He.glo_ok X G (t.c.fact 38 (f := .glo "Pages") rfl)
theorem T.c_Pages (t : T K mg) : Cls K (He.ga K "Pages") := He.cls_ok (t.c.fact 39 (f := .cls "Pages") rfl)
theorem T.m_Pages (t : T K mg) : Mk K (He.ga K "Pages") (He.ma K (He.ga K "Pages") "__init__") := He.mkr_ok (t.c.fact 40 (f := .mkr "Pages") rfl)
theorem T.k_Pages_ends_from (t : T K mg) : Meth K (He.ga K "Pages") "ends_from" (He.ma K (He.ga K "Pages") "ends_from") := He.meth_ok (t.c.fact 41 (f := .meth "Pages" "ends_from") rfl)
theorem T.k_Pages_cost (t : T K mg) : Meth K (He.ga K "Pages") "cost" (He.ma K (He.ga K "Pages") "cost") := He.meth_ok (t.c.fact 42 (f := .meth "Pages" "cost") rfl)
theorem T.k_Pages_last_beginning (t : T K mg) : Meth K (He.ga K "Pages") "last_beginning" (He.ma K (He.ga K "Pages") "last_beginning") := He.meth_ok (t.c.fact 43 (f := .meth "Pages" "last_beginning") rfl)
theorem T.k_Pages_least_costs (t : T K mg) : Meth K (He.ga K "Pages") "least_costs" (He.ma K (He.ga K "Pages") "least_costs") := He.meth_ok (t.c.fact 44 (f := .meth "Pages" "least_costs") rfl)
theorem T.k_Pages_are_all (t : T K mg) : Meth K (He.ga K "Pages") "are_all" (He.ma K (He.ga K "Pages") "are_all") := He.meth_ok (t.c.fact 45 (f := .meth "Pages" "are_all") rfl)
theorem T.n_Pages_most (t : T K mg) : NoAttr K (He.ga K "Pages") "most" := He.noat_ok (t.c.fact 46 (f := .noat "Pages" "most") rfl)
theorem T.n_Pages_parting (t : T K mg) : NoAttr K (He.ga K "Pages") "parting" := He.noat_ok (t.c.fact 47 (f := .noat "Pages" "parting") rfl)
theorem T.n_Pages_total (t : T K mg) : NoAttr K (He.ga K "Pages") "total" := He.noat_ok (t.c.fact 48 (f := .noat "Pages" "total") rfl)
theorem T.n_Pages_behind_stops (t : T K mg) : NoAttr K (He.ga K "Pages") "behind_stops" := He.noat_ok (t.c.fact 49 (f := .noat "Pages" "behind_stops") rfl)
theorem T.d_Pages_init (t : T K mg) : ∃ fd, FunD K "__init__" "Pages.__init__" (defArgs sPagesInit) (defBody sPagesInit) (defScope sPagesInit) [] [] (He.ma K (He.ga K "Pages") "__init__") fd := t.c.def_ 0 (d := dPagesInit) rfl
theorem T.d_Pages_ends_from (t : T K mg) : ∃ fd, FunD K "ends_from" "Pages.ends_from" (defArgs sPagesEnds_from) (defBody sPagesEnds_from) (defScope sPagesEnds_from) [] [] (He.ma K (He.ga K "Pages") "ends_from") fd := t.c.def_ 1 (d := dPagesEnds_from) rfl
theorem T.d_Pages_cost (t : T K mg) : ∃ fd, FunD K "cost" "Pages.cost" (defArgs sPagesCost) (defBody sPagesCost) (defScope sPagesCost) [] [] (He.ma K (He.ga K "Pages") "cost") fd := t.c.def_ 2 (d := dPagesCost) rfl
theorem T.d_Pages_last_beginning (t : T K mg) : ∃ fd, FunD K "last_beginning" "Pages.last_beginning" (defArgs sPagesLast_beginning) (defBody sPagesLast_beginning) (defScope sPagesLast_beginning) [] [] (He.ma K (He.ga K "Pages") "last_beginning") fd := t.c.def_ 3 (d := dPagesLast_beginning) rfl
theorem T.d_Pages_least_costs (t : T K mg) : ∃ fd, FunD K "least_costs" "Pages.least_costs" (defArgs sPagesLeast_costs) (defBody sPagesLeast_costs) (defScope sPagesLeast_costs) [] [] (He.ma K (He.ga K "Pages") "least_costs") fd := t.c.def_ 4 (d := dPagesLeast_costs) rfl
theorem T.d_Pages_are_all (t : T K mg) : ∃ fd, FunD K "are_all" "Pages.are_all" (defArgs sPagesAre_all) (defBody sPagesAre_all) (defScope sPagesAre_all) [] [] (He.ma K (He.ga K "Pages") "are_all") fd := t.c.def_ 5 (d := dPagesAre_all) rfl
theorem T.d_wall (t : T K mg) : Fd K "_wall" sWall := t.c.def_ 6 (d := dWall) rfl
theorem T.d_may_part (t : T K mg) : Fd K "may_part" sMayPart := t.c.def_ 7 (d := dMayPart) rfl
theorem T.d_parting_places (t : T K mg) : Fd K "parting_places" sPartingPlaces := t.c.def_ 8 (d := dPartingPlaces) rfl
theorem T.d_are_low (t : T K mg) : Fd K "are_low" sAreLow := t.c.def_ 9 (d := dAreLow) rfl
theorem T.d_are_reached (t : T K mg) : Fd K "are_reached" sAreReached := t.c.def_ 10 (d := dAreReached) rfl
theorem T.d_accepts_prices (t : T K mg) : Fd K "accepts_prices" sAcceptsPrices := t.c.def_ 11 (d := dAcceptsPrices) rfl
theorem T.d_law_draws (t : T K mg) : Fd K "_law_draws" sLawDraws := t.c.def_ 12 (d := dLawDraws) rfl
theorem T.d_law_take (t : T K mg) : Fd K "_law_take" sLawTake := t.c.def_ 13 (d := dLawTake) rfl
theorem T.d_law_same (t : T K mg) : Fd K "_law_same" sLawSame := t.c.def_ 14 (d := dLawSame) rfl
theorem T.d_law_text (t : T K mg) : Fd K "_law_text" sLawText := t.c.def_ 15 (d := dLawText) rfl
theorem T.d_law_block (t : T K mg) : Fd K "_law_block" sLawBlock := t.c.def_ 16 (d := dLawBlock) rfl
theorem T.d_law_blocks (t : T K mg) : Fd K "_law_blocks" sLawBlocks := t.c.def_ 17 (d := dLawBlocks) rfl
theorem T.d_law_counts (t : T K mg) : Fd K "_law_counts" sLawCounts := t.c.def_ 18 (d := dLawCounts) rfl
theorem T.d_law_owners (t : T K mg) : Fd K "_law_owners" sLawOwners := t.c.def_ 19 (d := dLawOwners) rfl
theorem T.d_law_may (t : T K mg) : Fd K "_law_may" sLawMay := t.c.def_ 20 (d := dLawMay) rfl
theorem T.d_law_ends (t : T K mg) : Fd K "_law_ends" sLawEnds := t.c.def_ 21 (d := dLawEnds) rfl
theorem T.d_law_page_cost (t : T K mg) : Fd K "_law_page_cost" sLawPageCost := t.c.def_ 22 (d := dLawPageCost) rfl
theorem T.d_law_least (t : T K mg) : Fd K "_law_least" sLawLeast := t.c.def_ 23 (d := dLawLeast) rfl
theorem T.d_law_drawn_ends (t : T K mg) : Fd K "_law_drawn_ends" sLawDrawnEnds := t.c.def_ 24 (d := dLawDrawnEnds) rfl
theorem T.d_law_whole_cost (t : T K mg) : Fd K "_law_whole_cost" sLawWholeCost := t.c.def_ 25 (d := dLawWholeCost) rfl
theorem T.d_law_prices (t : T K mg) : Fd K "_law_prices" sLawPrices := t.c.def_ 26 (d := dLawPrices) rfl
theorem T.d_law_forged (t : T K mg) : Fd K "_law_forged" sLawForged := t.c.def_ 27 (d := dLawForged) rfl
theorem T.d_law (t : T K mg) : Fd K "law" sLaw := t.c.def_ 28 (d := dLaw) rfl
end
end Sx

set_option Elab.async false
set_option linter.all false
set_option maxRecDepth 100000
set_option maxHeartbeats 1000000
namespace Sx
open PySem PySem.Spec PyProof.Rows L2 SxA
/-! ### draws: a list of ints, of which one is taken -/
def Dr (H : Hp) (a : Addr) : Prop := ∃ ns : List Int, H a = some (.lst (ns.map V.int))
def DrL (H : Hp) (a : Addr) (n : Nat) : Prop := ∃ ns : List Int, H a = some (.lst (ns.map V.int)) ∧ ns.length ≤ n
theorem Dr.has {H : Hp} {a : Addr} (h : Dr H a) : ∃ o, H a = some o := ⟨_, h.choose_spec⟩
theorem Dr.ne {H : Hp} {a D : Addr} (h : Dr H a) (hD : H D = none) : a ≠ D := ne_of_none h.choose_spec hD
theorem Dr.put {H : Hp} {a D : Addr} {o : HO} (h : Dr H a) (n : a ≠ D) : Dr (upd H D o) a := by
  obtain ⟨ns, e⟩ := h
  exact ⟨ns, by rw [upd_ne n]; exact e⟩
theorem Dr.new {H : Hp} {a D : Addr} {o : HO} (h : Dr H a) (hD : H D = none) : Dr (upd H D o) a := h.put (h.ne hD)
theorem Dr.same {H H' : Hp} {a : Addr} (h : Dr H a) (s : Same H H') : Dr H' a := by
  obtain ⟨ns, e⟩ := h
  exact ⟨ns, s _ _ e⟩
theorem But.new {a : Addr} {H H' : Hp} {p : Addr} {o : HO} (b : But a H H') (hp : H p = Option.none) : But a H (upd H' p o) := fun c u e n => by
  rw [upd_ne (ne_of_none e hp)]
  exact b c u e n
theorem But.same {a : Addr} {H H1 H2 : Hp} (b : But a H H1) (s : Same H1 H2) : But a H H2 := b.trans (But.of s)
def spTake : Sp := fun vs H Q _ => ∃ (a : Addr) (m : Int), vs = [.ref a, .int m] ∧ Dr H a ∧ 0 < m ∧ ∀ v H', 0 ≤ v → v < m → Dr H' a → But a H H' → Q (.int v) H'
def spDraws (K : PySem.W.Frag) : Sp := fun vs H Q _ => ∃ (a : Addr) (ns : List Int), vs = [.ref a] ∧ SqL K H a (ns.map V.int) ∧ ns.length ≤ 63 ∧ ∀ p H', H p = none → Same H H' → Dr H' p → Q (.ref p) H'
section
variable {P : Program} {w : World} {K : PySem.W.Frag} {mg : Str → Option Value} {base : Heap}
abbrev nsLawTake : List Str := ["draws", "bound"]
theorem scLawTake : FnScope nsLawTake ["draws", "bound"] (defScope sLawTake) := ⟨rfl, rfl, rfl, by decide +kernel, rfl, by decide +kernel, by decide +kernel⟩
theorem ok_law_take (t : T K mg) : Ok P w K mg base 1 "_law_take" ["draws", "bound"] spTake := by
  refine mkOk t.d_law_take t.g_law_take scLawTake (fun vs H Q E h => ?_) (fun _ _ _ _ _ _ us hl => match us, hl with | [_, _], _ => rfl) fun cdv A outer s H vs Q E hr h => ?_
  · obtain ⟨a, m, rfl, _⟩ := h; rfl
  obtain ⟨a, m, rfl, ⟨ns, hn⟩, m0, k⟩ := h
  refine ⟨_, pss_cons (ps_if (pt_cmpR op_eq (pe_callB call_len_seq rfl t.f_len boot_len (pa_cons (pv 0) pa_nil)) pe_int (nomark _))
      (pss_one (ps_ret pe_int))
      pss_nil)
    (pss_one (ps_ret (pe_op op_mod (pe_callTy call_int1 rfl t.f_int (by decide +kernel) (pa_cons (pe_bm0 PySem.F.plainAttrs_list PySem.F.slot_list_pop PySem.F.type_list_pop mt_pop (pv 0)) pa_nil)) (pv 1)))), ?_⟩
  refine ⟨_, rfl, a, _, rfl, .inl (SqL.of hn), rfl, _, rfl, ?_⟩
  refine ite2 (fun h1 => k 0 H (Int.le_refl _) m0 ⟨ns, hn⟩ (But.refl _ _)) (fun h1 => ?_)
  have hl : 0 < ns.length := by
    cases ns with
    | nil => exact absurd rfl h1
    | cons x r => exact Nat.succ_pos _
  have hlast : (ns.map V.int)[(ns.map V.int).length - 1]? = some (.int (ns[ns.length - 1]'(by omega))) := by
    rw [List.length_map, List.getElem?_map, List.getElem?_eq_getElem (by omega)]
    rfl
  refine ⟨_, rfl, .inl ⟨rfl, _, SqL.of hn⟩, a, _, _, rfl, rfl, hn, hlast, .inl ⟨_, rfl, ?_⟩⟩
  refine ⟨_, rfl, _, _, rfl, rfl, m0, k _ _ (Int.emod_nonneg _ (by omega)) (Int.emod_lt_of_pos _ m0) ⟨ns.dropLast, ?_⟩ (But.put _ _ _)⟩
  rw [upd_same, List.map_dropLast]
abbrev nsLawDraws : List Str := ["script", "draws", "cell", "number", "first", "k", "seed"]
theorem scLawDraws : FnScope nsLawDraws ["script"] (defScope sLawDraws) := ⟨rfl, rfl, rfl, by decide +kernel, rfl, by decide +kernel, by decide +kernel⟩
theorem DrL.push {H : Hp} {D : Addr} {ns : List Int} {z : Int} {n : Nat} (h : ns.length ≤ n) : DrL (upd H D (.lst (ns.map V.int ++ [V.int z]))) D (n + 1) := ⟨ns ++ [z], by rw [upd_same, List.map_append]; rfl, by rw [List.length_append]; exact Nat.succ_le_succ h⟩
theorem smallL {ns : List Int} {n : Nat} (h : ns.length ≤ n) (hn : n ≤ 100000) : (ns.map V.int).length < sizeLine := by
  rw [List.length_map]
  exact Nat.lt_of_le_of_lt h (Nat.lt_of_le_of_lt hn (by decide))
theorem ok_law_draws (t : T K mg) : Ok P w K mg base 1 "_law_draws" ["script"] (spDraws K) := by
  refine mkOk t.d_law_draws t.g_law_draws scLawDraws (fun vs H Q E h => ?_) (fun _ _ _ _ _ _ us hl => match us, hl with | [_], _ => rfl) fun cdv A outer s H vs Q E hr h => ?_
  · obtain ⟨a, ns, rfl, _⟩ := h; rfl
  obtain ⟨sc, zs, rfl, hS, hlen, k⟩ := h
  refine ⟨_, pss_cons (ps_set (i := 1) scLawDraws.nd rfl (Or.inl rfl) (pe_lst pa_nil))
    (pss_cons (ps_for PassesOwn.never rfl (pi_list (pv 0)) (pg_name (i := 2) scLawDraws.nd rfl (Or.inl rfl))
      (pss_cons (ps_set (i := 3) scLawDraws.nd rfl (Or.inl rfl) (pe_callB call_abs rfl t.f_abs (by decide +kernel) (pa_cons (pv 2) pa_nil)))
    (C8.pss_cut (ps_if (pt_cmpR op_lt (pv 3) (pe_op op_pow pe_int pe_int) (nomark _))
      (pss_cons (ps_set (i := 4) scLawDraws.nd rfl (Or.inl rfl) (pe_op op_mod (pe_callTy call_int1 rfl t.f_int (by decide +kernel) (pa_cons (pe_op op_add (pe_op op_mul (pv 3) pe_int) pe_int) pa_nil)) pe_int))
    (pss_cons (ps_expr (pe_bm PySem.F.plainAttrs_list PySem.F.slot_list_append PySem.F.type_list_append mt_append (pv 1) (pa_cons (pe_op op_mod (pe_callTy call_int1 rfl t.f_int (by decide +kernel) (pa_cons (pe_op op_add (pe_op op_mul (pv 4) pe_int) (pv 3)) pa_nil)) pe_int) pa_nil)))
    (pss_cons (ps_expr (pe_bm PySem.F.plainAttrs_list PySem.F.slot_list_append PySem.F.type_list_append mt_append (pv 1) (pa_cons (pe_op op_mod (pe_callTy call_int1 rfl t.f_int (by decide +kernel) (pa_cons (pe_op op_add (pv 4) (pe_op op_fdiv (pv 3) pe_int)) pa_nil)) pe_int) pa_nil)))
    (pss_one (ps_set (i := 3) scLawDraws.nd rfl (Or.inl rfl) pe_int)))))
      pss_nil)
    (pss_one (ps_for PassesOwn.never rfl (pi_range1 rfl t.f_range (pa_cons pe_int pa_nil)) (pg_name (i := 5) scLawDraws.nd rfl (Or.inl rfl))
      (pss_one (ps_if (pt_cmpR op_gt (pv 3) pe_int (nomark _))
      (pss_cons (ps_expr (pe_bm PySem.F.plainAttrs_list PySem.F.slot_list_append PySem.F.type_list_append mt_append (pv 1) (pa_cons (pe_op op_mod (pe_callTy call_int1 rfl t.f_int (by decide +kernel) (pa_cons (pv 3) pa_nil)) pe_int) pa_nil)))
    (pss_one (ps_set (i := 3) scLawDraws.nd rfl (Or.inl rfl) (pe_op op_fdiv (pv 3) pe_int))))
      pss_nil)))))))
    (pss_cons (ps_set (i := 6) scLawDraws.nd rfl (Or.inl rfl) pe_int)
    (C8.pss_cut (ps_if (pt_cmpR op_gt (pe_callB call_len_seq rfl t.f_len boot_len (pa_cons (pv 0) pa_nil)) pe_int (nomark _))
      (pss_one (ps_set (i := 6) scLawDraws.nd rfl (Or.inl rfl) (pe_op op_add pe_int (pe_callB call_abs rfl t.f_abs (by decide +kernel) (pa_cons (pe_ix ix_list (pv 0) pe_int (fun _ _ => rfl)) pa_nil)))))
      pss_nil)
    (pss_cons (ps_for PassesOwn.never rfl (pi_range1 rfl t.f_range (pa_cons pe_int pa_nil)) (pg_name (i := 5) scLawDraws.nd rfl (Or.inl rfl))
      (pss_cons (ps_set (i := 6) scLawDraws.nd rfl (Or.inl rfl) (pe_op op_mod (pe_callTy call_int1 rfl t.f_int (by decide +kernel) (pa_cons (pe_op op_add (pe_op op_mul (pv 6) pe_int) pe_int) pa_nil)) pe_int))
    (pss_one (ps_expr (pe_bm PySem.F.plainAttrs_list PySem.F.slot_list_append PySem.F.type_list_append mt_append (pv 1) (pa_cons (pe_op op_fdiv (pv 6) pe_int) pa_nil))))))
    (pss_one (ps_ret (pe_listRev rfl t.f_list rfl t.f_reversed (pv 1)))))))), ?_⟩
  refine ⟨(by show 0 ≤ sizeLine; decide), fun D hD => ?_⟩
  refine ⟨_, rfl, sc, rfl, ⟨_, (Same.new hD).seq hS⟩, ?_⟩
  refine for_list (K := K) (a := sc) (xs := zs.map V.int) (fun i σ' H' => (∃ o2 o3 o4 o5 : Option V, σ' = [some (.ref sc), some (.ref D), o2, o3, o4, o5, none]) ∧ DrL H' D (62 * i) ∧ Same H H') ⟨⟨_, _, _, _, rfl⟩, ⟨[], upd_same, Nat.le_refl _⟩, Same.new hD⟩ (fun i σ' H' _ p => p.2.2.seq hS) ?_ ?_
  · rintro i x σ' H' hx ⟨⟨o2, o3, o4, o5, rfl⟩, ⟨ds, hds, hdl⟩, s1⟩
    obtain ⟨z, rfl⟩ : ∃ z : Int, x = .int z := by
      rw [List.getElem?_map] at hx
      cases q : zs[i]? with
      | none => rw [q] at hx; cases hx
      | some z => rw [q] at hx; exact ⟨z, (Option.some.inj hx).symm⟩
    have il : i < 63 := by
      have := (List.getElem?_eq_some_iff.mp hx).1
      rw [List.length_map] at this
      omega
    refine ⟨_, rfl, _, rfl, ?_⟩
    generalize (if z < 0 then -z else z) = n
    refine ⟨fun σ2 H2 => (∃ (m : Int) (o4 : Option V), σ2 = [some (.ref sc), some (.ref D), some (.int z), some (.int m), o4, o5, none]) ∧ DrL H2 D (62 * i + 2) ∧ Same H H2, ?_, ?_⟩
    · refine ⟨_, rfl, _, _, rfl, rfl, ⟨by decide, by decide, by decide⟩, _, _, rfl, rfl, _, rfl, ?_⟩
      refine ite2 (fun h1 => ?_) (fun h1 => ⟨⟨_, _, rfl⟩, ⟨ds, hds, by omega⟩, s1⟩)
      refine ⟨_, rfl, _, _, rfl, rfl, .inr (by decide), _, _, rfl, rfl, .inl ⟨_, rfl, ?_⟩⟩
      refine ⟨_, _, rfl, rfl, (by show (0 : Int) < 2147483647; decide), ?_⟩
      refine ⟨_, rfl, .inl ⟨rfl, _, SqL.of hds⟩, _, rfl, _, _, rfl, rfl, .inr (by decide), _, rfl, _, _, rfl, rfl, .inl ⟨_, rfl, ?_⟩⟩
      refine ⟨_, _, rfl, rfl, (by show (0 : Int) < 2147483629; decide), ?_⟩
      refine ⟨D, _, _, rfl, rfl, hds, smallL hdl (by omega), ?_⟩
      refine ⟨_, rfl, .inl ⟨rfl, _, SqL.of upd_same⟩, _, rfl, _, rfl, _, _, rfl, rfl, ⟨by decide, by decide⟩, _, _, rfl, rfl, .inl ⟨_, rfl, ?_⟩⟩
      refine ⟨_, _, rfl, rfl, (by show (0 : Int) < 1000003; decide), ?_⟩
      refine ⟨D, _, _, rfl, rfl, upd_same, ?_, ⟨⟨_, _, rfl⟩, ⟨ds ++ [_] ++ [_], by rw [upd_same, List.map_append, List.map_append]; rfl, by rw [List.length_append, List.length_append]; simp; omega⟩, ?_⟩⟩
      · rw [List.length_append]
        have := smallL (n := 62 * i) hdl (by omega)
        have e : (62 * i + 1) < sizeLine := Nat.lt_of_le_of_lt (show 62 * i + 1 ≤ 100000 by omega) (by decide)
        rw [List.length_map]
        exact Nat.lt_of_le_of_lt (Nat.succ_le_succ hdl) e
      · exact Same.put (Same.put s1 hD) hD
    · rintro σ2 H2 ⟨⟨m, o4, rfl⟩, ⟨ds, hds, hdl⟩, s1⟩
      refine ⟨60, rfl, by decide, by decide, ?_⟩
      refine for_range (lo := 0) (n := 60) (fun j σ3 H3 => (∃ (m : Int) (o5 : Option V), σ3 = [some (.ref sc), some (.ref D), some (.int z), some (.int m), o4, o5, none]) ∧ DrL H3 D (62 * i + 2 + j) ∧ Same H H3) ⟨⟨_, _, rfl⟩, ⟨ds, hds, hdl⟩, s1⟩ ?_ ?_
      · rintro j σ3 H3 hj ⟨⟨m, o5, rfl⟩, ⟨ds, hds, hdl⟩, s1⟩
        refine ⟨_, rfl, _, _, rfl, rfl, _, rfl, ?_⟩
        refine ite2 (fun h1 => ?_) (fun h1 => ⟨⟨_, _, rfl⟩, ⟨ds, hds, by omega⟩, s1⟩)
        refine ⟨_, rfl, .inl ⟨rfl, _, SqL.of hds⟩, _, rfl, .inl ⟨_, rfl, ?_⟩⟩
        refine ⟨_, _, rfl, rfl, (by show (0 : Int) < 997; decide), ?_⟩
        refine ⟨D, _, _, rfl, rfl, hds, smallL hdl (by omega), ?_⟩
        refine ⟨_, rfl, _, _, rfl, rfl, ⟨by decide, by decide⟩, ⟨_, _, rfl⟩, DrL.push hdl, Same.put s1 hD⟩
      · rintro σ3 H3 ⟨⟨m, o5, rfl⟩, ⟨ds, hds, hdl⟩, s1⟩
        exact ⟨⟨_, _, _, _, rfl⟩, ⟨ds, hds, by omega⟩, s1⟩
  rintro σ' H' ⟨⟨o2, o3, o4, o5, rfl⟩, ⟨ds, hds, hdl⟩, s1⟩
  rw [List.length_map] at hdl
  refine ⟨fun σ2 H2 => (∃ m : Int, σ2 = [some (.ref sc), some (.ref D), o2, o3, o4, o5, some (.int m)]) ∧ H2 = H', ?_, ?_⟩
  · refine ⟨_, rfl, sc, _, rfl, .inl (s1.seq hS), _, _, rfl, rfl, _, rfl, ?_⟩
    refine ite2 (fun h1 => ?_) (fun h1 => ⟨⟨_, rfl⟩, rfl⟩)
    cases zs with
    | nil => exact absurd h1 (by decide)
    | cons z r => exact ⟨_, rfl, sc, _, _, .int z, rfl, rfl, s1.seq hS, atI_nat (j := 0) rfl, _, rfl, _, _, rfl, rfl, ⟨_, rfl⟩, rfl⟩
  rintro σ2 H2 ⟨⟨m, rfl⟩, rfl⟩
  refine ⟨240, rfl, by decide, by decide, ?_⟩
  refine for_range (lo := 0) (n := 240) (fun j σ3 H3 => (∃ (m : Int) (o5 : Option V), σ3 = [some (.ref sc), some (.ref D), o2, o3, o4, o5, some (.int m)]) ∧ DrL H3 D (62 * 63 + j) ∧ Same H H3) ⟨⟨_, _, rfl⟩, ⟨ds, hds, by omega⟩, s1⟩ ?_ ?_
  · rintro j σ3 H3 hj ⟨⟨m, o5, rfl⟩, ⟨ds, hds, hdl⟩, s1⟩
    refine ⟨_, rfl, _, _, rfl, rfl, .inr (by decide), _, _, rfl, rfl, .inl ⟨_, rfl, ?_⟩⟩
    refine ⟨_, _, rfl, rfl, (by show (0 : Int) < 2147483647; decide), ?_⟩
    refine ⟨_, rfl, .inl ⟨rfl, _, SqL.of hds⟩, _, rfl, _, _, rfl, rfl, ⟨by decide, by decide⟩, ?_⟩
    exact ⟨D, _, _, rfl, rfl, hds, smallL hdl (by omega), ⟨⟨_, _, rfl⟩, DrL.push hdl, Same.put s1 hD⟩⟩
  · rintro σ3 H3 ⟨⟨m, o5, rfl⟩, ⟨ds, hds, hdl⟩, s1⟩
    refine ⟨_, rfl, D, _, rfl, SqL.of hds, fun q hq => ?_⟩
    exact k q _ (Sx.Same.none s1 _ hq) (Same.put s1 (Sx.Same.none s1 _ hq)) ⟨ds.reverse, by rw [upd_same, List.map_reverse]⟩
end
end Sx

set_option Elab.async false
set_option linter.all false
set_option maxRecDepth 100000
set_option maxHeartbeats 1000000
namespace Sx
open PySem PySem.Spec PyProof.Rows L2 SxA
theorem isi {K : PySem.W.Frag} {H : Hp} {Q : VK} {x : V} {t n : String} {b : Bool} (ty : TyX K H x (.type t)) (h : kitB t n = some b) (q : Q (.bl b) H) : rIsi K [x, .ty n] H Q := ⟨_, _, _, _, b, rfl, .ty n, ty, kit_ty h, q⟩
def spSameB : Sp := fun vs H Q _ => ∃ x d : Bool, vs = [.bl x, .bl d] ∧ Q (.bl (decide (V.bl x = V.bl d))) H
def spText : Sp := fun vs H Q _ => ∃ (a : Addr) (m : Int), vs = [.ref a, .int m] ∧ Dr H a ∧ 0 < m ∧ m ≤ 1000 ∧ ∀ x H', 1 ≤ x.length → x.length ≤ 1001 → Dr H' a → But a H H' → Q (.str x) H'
def spBlock : Sp := fun vs H Q _ => ∃ (a : Addr) (m : Int), vs = [.ref a, .int m] ∧ Dr H a ∧ 0 < m ∧ m ≤ 1000 ∧ ∀ p (kd : Str) rest H', H p = none → H' p = some (.tup (.str kd :: rest)) → Dr H' a → But a H H' → Q (.ref p) H'
section
variable {P : Program} {w : World} {K : PySem.W.Frag} {mg : Str → Option Value} {base : Heap}
abbrev nsLawSame : List Str := ["actual", "due", "k"]
theorem scLawSame : FnScope nsLawSame ["actual", "due"] (defScope sLawSame) := ⟨rfl, rfl, rfl, by decide +kernel, rfl, by decide +kernel, by decide +kernel⟩
theorem ok_law_same (t : T K mg) : Ok P w K mg base 1 "_law_same" ["actual", "due"] spSameB := by
  refine mkOk t.d_law_same t.g_law_same scLawSame (fun vs H Q E h => ?_) (fun _ _ _ _ _ _ us hl => match us, hl with | [_, _], _ => rfl) fun cdv A outer s H vs Q E hr h => ?_
  · obtain ⟨x, d, rfl, _⟩ := h; rfl
  obtain ⟨x, d, rfl, k⟩ := h
  refine ⟨_, pss_cons (ps_if (PW.pt (pw_or (pt_val (pe_callB call_isi rfl t.f_isinstance (by decide +kernel) (pa_cons (pv 1) (pa_cons (pe_bltn (v := .ty "tuple") rfl t.f_tuple (by decide +kernel) rfl) pa_nil)))) (pw_or1 (pt_val (pe_callB call_isi rfl t.f_isinstance (by decide +kernel) (pa_cons (pv 1) (pa_cons (pe_bltn (v := .ty "list") rfl t.f_list (by decide +kernel) rfl) pa_nil)))))))
      pss_never
      pss_nil)
    (pss_cons (ps_if (pt_cmpR op_ne (pe_callB call_isi rfl t.f_isinstance (by decide +kernel) (pa_cons (pv 1) (pa_cons (pe_bltn (v := .ty "bool") rfl t.f_bool (by decide +kernel) rfl) pa_nil))) (pe_callB call_isi rfl t.f_isinstance (by decide +kernel) (pa_cons (pv 0) (pa_cons (pe_bltn (v := .ty "bool") rfl t.f_bool (by decide +kernel) rfl) pa_nil))) (nomark _))
      (pss_one (ps_ret pe_bl))
      pss_nil)
    (pss_cons (ps_if (PW.pt (pw_or (pt_cmpR op_ne (pe_callB call_isi rfl t.f_isinstance (by decide +kernel) (pa_cons (pv 1) (pa_cons (pe_bltn (v := .ty "int") rfl t.f_int (by decide +kernel) rfl) pa_nil))) (pe_callB call_isi rfl t.f_isinstance (by decide +kernel) (pa_cons (pv 0) (pa_cons (pe_bltn (v := .ty "int") rfl t.f_int (by decide +kernel) rfl) pa_nil))) (nomark _)) (pw_or1 (pt_cmpR op_ne (pe_callB call_isi rfl t.f_isinstance (by decide +kernel) (pa_cons (pv 1) (pa_cons (pe_bltn (v := .ty "str") rfl t.f_str (by decide +kernel) rfl) pa_nil))) (pe_callB call_isi rfl t.f_isinstance (by decide +kernel) (pa_cons (pv 0) (pa_cons (pe_bltn (v := .ty "str") rfl t.f_str (by decide +kernel) rfl) pa_nil))) (nomark _)))))
      (pss_one (ps_ret pe_bl))
      pss_nil)
    (pss_one (ps_ret (pe_cmpR op_eq (pv 0) (pv 1) (nomark _)))))), ?_⟩
  refine ⟨_, rfl, _, _, _, _, false, rfl, .ty _, .base (.bl _), kit_ty (by decide +kernel), _, rfl, iteF ⟨_, rfl, _, _, _, _, false, rfl, .ty _, .base (.bl _), kit_ty (by decide +kernel), _, rfl, iteF ?_⟩⟩
  refine ⟨_, rfl, _, _, _, _, true, rfl, .ty _, .base (.bl _), kit_ty (by decide +kernel), _, rfl, _, _, _, _, true, rfl, .ty _, .base (.bl _), kit_ty (by decide +kernel), rfl, _, rfl, iteF ?_⟩
  refine ⟨_, rfl, _, _, _, _, true, rfl, .ty _, .base (.bl _), kit_ty (by decide +kernel), _, rfl, _, _, _, _, true, rfl, .ty _, .base (.bl _), kit_ty (by decide +kernel), rfl, _, rfl, iteF ?_⟩
  refine ⟨_, rfl, _, _, _, _, false, rfl, .ty _, .base (.bl _), kit_ty (by decide +kernel), _, rfl, _, _, _, _, false, rfl, .ty _, .base (.bl _), kit_ty (by decide +kernel), rfl, _, rfl, iteF ?_⟩
  exact ⟨_, rfl, _, rfl, rfl, k⟩
abbrev nsLawText : List Str := ["draws", "most", "text", "k", "sign"]
theorem scLawText : FnScope nsLawText ["draws", "most"] (defScope sLawText) := ⟨rfl, rfl, rfl, by decide +kernel, rfl, by decide +kernel, by decide +kernel⟩
theorem atS {z : Str} {l : List Nat} {v : Int} (e : sl z = l) (h0 : 0 ≤ v) (h1 : v.toNat < l.length) : atI z.cps.toList v = some l[v.toNat] := by
  subst e
  exact RZat h1 h0
theorem ok_law_text (t : T K mg) : Ok P w K mg base 2 "_law_text" ["draws", "most"] spText := by
  refine mkOk t.d_law_text t.g_law_text scLawText (fun vs H Q E h => ?_) (fun _ _ _ _ _ _ us hl => match us, hl with | [_, _], _ => rfl) fun cdv A outer s H vs Q E hr h => ?_
  · obtain ⟨a, m, rfl, _⟩ := h; rfl
  obtain ⟨a, m, rfl, hD, m0, m1, k⟩ := h
  have hr1 : Room 1 _ := hr.mono (by decide)
  refine ⟨_, pss_cons (ps_set (i := 2) scLawText.nd rfl (Or.inl rfl) (pe_ix ix_str pe_str (pe_ok (ok_law_take t) hr1 rfl (pa_cons (pv 0) (pa_cons pe_int pa_nil))) (fun _ _ => rfl)))
    (pss_cons (ps_for PassesOwn.never rfl (pi_range1 rfl t.f_range (pa_cons (pe_ok (ok_law_take t) hr1 rfl (pa_cons (pv 0) (pa_cons (pv 1) pa_nil))) pa_nil)) (pg_name (i := 3) scLawText.nd rfl (Or.inl rfl))
      (pss_cons (ps_set (i := 4) scLawText.nd rfl (Or.inl rfl) (pe_ix ix_str pe_str (pe_ok (ok_law_take t) hr1 rfl (pa_cons (pv 0) (pa_cons pe_int pa_nil))) (fun _ _ => rfl)))
    (pss_one (ps_if (PW.pt (pw_or (pt_cmpR op_ne (pv 4) pe_str (nomark _)) (pw_or1 (pt_cmpR op_ne (pe_ix ix_str (pv 2) (pe_op op_sub (pe_callB call_len_str rfl t.f_len boot_len (pa_cons (pv 2) pa_nil)) pe_int) (fun _ _ => rfl)) pe_str (nomark _)))))
      (pss_one (ps_set (i := 2) scLawText.nd rfl (Or.inl rfl) (pe_op op_add_str (pv 2) (pv 4))))
      pss_nil))))
    (C8.pss_cut (ps_if (pt_cmpR op_eq (pe_ix ix_str (pv 2) (pe_op op_sub (pe_callB call_len_str rfl t.f_len boot_len (pa_cons (pv 2) pa_nil)) pe_int) (fun _ _ => rfl)) pe_str (nomark _))
      (pss_one (ps_set (i := 2) scLawText.nd rfl (Or.inl rfl) (pe_op op_add_str (pv 2) pe_str)))
      pss_nil)
    (pss_one (ps_ret (pv 2))))), ?_⟩
  have ab : sl (Str.ofString "ab") = [97, 98] := by decide +kernel
  have aabb : sl (Str.ofString "aabb ") = [97, 97, 98, 98, 32] := by decide +kernel
  have ea : (Str.ofString "a").length = 1 := by decide +kernel
  have lst : ∀ x : Str, 1 ≤ x.length → atI x.cps.toList ((x.length : Int) - 1) = some ((sl x).getD (x.length - 1) 0) := fun x hx => by
    have hl : ((x.length : Int) - 1).toNat < (sl x).length := by rw [← sl_len]; omega
    have q := RZat hl (by omega)
    rw [q]
    have e : ((x.length : Int) - 1).toNat = x.length - 1 := by omega
    congr 1
    rw [← e]
    rw [List.getD_eq_getElem?_getD, List.getElem?_eq_getElem hl]
    rfl
  refine ⟨_, rfl, a, 2, rfl, hD, by decide, fun v H1 v0 v1 D1 B1 => ?_⟩
  refine ⟨_, v, _, rfl, rfl, (by decide +kernel), atS ab v0 (by show v.toNat < 2; omega), ?_⟩
  refine ⟨_, rfl, _, rfl, a, m, rfl, D1, m0, fun u H2 u0 u1 D2 B2 => ?_⟩
  refine ⟨_, rfl, by omega, by omega, ?_⟩
  refine for_range (lo := 0) (n := u.toNat) (fun i σ' H' => (∃ (x : Str) (o3 o4 : Option V), σ' = [some (.ref a), some (.int m), some (.str x), o3, o4] ∧ 1 ≤ x.length ∧ x.length ≤ 1 + i) ∧ Dr H' a ∧ But a H H') ⟨⟨_, _, _, rfl, Nat.le_refl _, Nat.le_refl _⟩, D2, B1.trans B2⟩ ?_ ?_
  · rintro i σ' H' hi ⟨⟨x, o3, o4, rfl, x1, x2⟩, D3, B3⟩
    refine ⟨_, rfl, a, 5, rfl, D3, by decide, fun c H4 c0 c1 D4 B4 => ?_⟩
    refine ⟨_, c, _, rfl, rfl, (by decide +kernel), atS aabb c0 (by show c.toNat < 5; omega), ?_⟩
    have more : ∀ z : Nat, ((∃ (x' : Str) (o3 o4 : Option V), [some (V.ref a), some (.int m), some (.str (x ++ sg z)), some (.int (0 + (i : Int))), some (.str (sg z))] = [some (V.ref a), some (.int m), some (.str x'), o3, o4] ∧ 1 ≤ x'.length ∧ x'.length ≤ 1 + (i + 1)) ∧ Dr H4 a ∧ But a H H4) := fun z =>
      ⟨⟨_, _, _, rfl, by rw [len_app]; omega, by rw [len_app]; show x.length + 1 ≤ _; omega⟩, D4, B3.trans B4⟩
    refine ⟨_, rfl, rfl, _, rfl, ?_⟩
    refine ite2 (fun h1 => ?_) (fun h1 => ?_)
    · exact ⟨_, rfl, _, rfl, _, _, rfl, rfl, (by show x.length + 1 ≤ sizeLine; exact small4 (by omega)), more _⟩
    · refine ⟨_, rfl, _, rfl, _, rfl, small4 (by omega), _, _, rfl, rfl, _, _, _, rfl, rfl, small4 (by omega), lst x x1, rfl, _, rfl, ?_⟩
      refine ite2 (fun h2 => ?_) (fun h2 => ⟨⟨_, _, _, rfl, x1, by omega⟩, D4, B3.trans B4⟩)
      exact ⟨_, rfl, _, rfl, _, _, rfl, rfl, (by show x.length + 1 ≤ sizeLine; exact small4 (by omega)), more _⟩
  rintro σ' H' ⟨⟨x, o3, o4, rfl, x1, x2⟩, D3, B3⟩
  refine ⟨fun σ2 H2 => (∃ x : Str, σ2 = [some (V.ref a), some (.int m), some (.str x), o3, o4] ∧ 1 ≤ x.length ∧ x.length ≤ 1001) ∧ H2 = H', ?_, ?_⟩
  · refine ⟨_, rfl, _, rfl, _, rfl, small4 (by omega), _, _, rfl, rfl, _, _, _, rfl, rfl, small4 (by omega), lst x x1, rfl, _, rfl, ?_⟩
    refine ite2 (fun h2 => ?_) (fun h2 => ⟨⟨_, rfl, x1, by omega⟩, rfl⟩)
    exact ⟨_, rfl, _, _, rfl, rfl, (by rw [ea]; exact small4 (by omega)), ⟨_, rfl, by rw [len_app]; omega, by rw [len_app, ea]; omega⟩, rfl⟩
  rintro σ2 H2 ⟨⟨x, rfl, x1, x2⟩, rfl⟩
  exact ⟨_, rfl, k x _ x1 x2 D3 B3⟩
end
end Sx

set_option Elab.async false
set_option linter.all false
set_option maxRecDepth 100000
set_option maxHeartbeats 1000000
namespace Sx
open PySem PySem.Spec PyProof.Rows L2 SxA
/-! ### blocks: their kinds alone -/
structure BlksAt (H : Hp) (p : Addr) (vs : List V) (ks : List Str) : Prop where
  at_ : H p = some (.lst vs)
  len : vs.length = ks.length
  el : ∀ (i : Nat) v kd, vs[i]? = some v → ks[i]? = some kd → ∃ q rest, v = .ref q ∧ H q = some (.tup (.str kd :: rest))
theorem BlksAt.same {H H' : Hp} {p : Addr} {vs : List V} {ks : List Str} (h : BlksAt H p vs ks) (s : Same H H') : BlksAt H' p vs ks :=
  ⟨s _ _ h.at_, h.len, fun i v kd a b => by
    obtain ⟨q, rest, e, hq⟩ := h.el i v kd a b
    exact ⟨q, rest, e, s _ _ hq⟩⟩
theorem BlksAt.but {H H' : Hp} {a p : Addr} {vs : List V} {ks : List Str} (h : BlksAt H p vs ks) (s : But a H H') (n : p ≠ a) (D : Dr H a) : BlksAt H' p vs ks := by
  obtain ⟨ns, hn⟩ := D
  refine ⟨s _ _ h.at_ n, h.len, fun i v kd a b => ?_⟩
  obtain ⟨q, rest, e, hq⟩ := h.el i v kd a b
  exact ⟨q, rest, e, s _ _ hq (ne_of hq hn (by intro z; cases z))⟩
def nv (n : Nat) : V := .int (n : Int)
def spBlocks : Sp := fun vs H Q _ => ∃ (a : Addr) (lo hi m : Int), vs = [.ref a, .int lo, .int hi, .int m] ∧ Dr H a ∧ 0 ≤ lo ∧ lo ≤ hi ∧ hi ≤ 1000 ∧ 0 < m ∧ m ≤ 1000 ∧ ∀ p vs ks H', H p = none → BlksAt H' p vs ks → lo ≤ ks.length → ks.length ≤ hi → Dr H' a → But a H H' → Q (.ref p) H'
structure Counts (ks : List Str) (ns : List Nat) : Prop where
  len : ns.length = ks.length
  pos : ∀ n ∈ ns, 1 ≤ n ∧ n ≤ 6
  brk : ∀ (i : Nat) (kd : Str) (n : Nat), ks[i]? = some kd → ns[i]? = some n → kd = "break" → n = 1
def spCounts : Sp := fun vs H Q _ => ∃ (a p : Addr) (bs : List V) (ks : List Str), vs = [.ref a, .ref p] ∧ Dr H a ∧ BlksAt H p bs ks ∧ p ≠ a ∧ ks.length ≤ 1000 ∧ ∀ q ns H', H q = none → H' q = some (.lst (ns.map nv)) → Counts ks ns → Dr H' a → But a H H' → Q (.ref q) H'
section
variable {P : Program} {w : World} {K : PySem.W.Frag} {mg : Str → Option Value} {base : Heap}
abbrev nsLawBlock : List Str := ["draws", "most", "kind", "text"]
theorem scLawBlock : FnScope nsLawBlock ["draws", "most"] (defScope sLawBlock) := ⟨rfl, rfl, rfl, by decide +kernel, rfl, by decide +kernel, by decide +kernel⟩
theorem ok_law_block (t : T K mg) : Ok P w K mg base 3 "_law_block" ["draws", "most"] spBlock := by
  refine mkOk t.d_law_block t.g_law_block scLawBlock (fun vs H Q E h => ?_) (fun _ _ _ _ _ _ us hl => match us, hl with | [_, _], _ => rfl) fun cdv A outer s H vs Q E hr h => ?_
  · obtain ⟨a, m, rfl, _⟩ := h; rfl
  obtain ⟨a, m, rfl, hD, m0, m1, k⟩ := h
  have hr1 : Room 1 _ := hr.mono (by decide)
  have hr2 : Room 2 _ := hr.mono (by decide)
  refine ⟨_, pss_cons (ps_set (i := 2) scLawBlock.nd rfl (Or.inl rfl) (pe_ok (ok_law_take t) hr1 rfl (pa_cons (pv 0) (pa_cons pe_int pa_nil))))
    (pss_cons (ps_set (i := 3) scLawBlock.nd rfl (Or.inl rfl) (pe_ok (ok_law_text t) hr2 rfl (pa_cons (pv 0) (pa_cons (pv 1) pa_nil))))
    (pss_cons (ps_if (pt_cmpR op_lt (pv 2) pe_int (nomark _))
      (pss_one (ps_ret (pe_tup (pa_cons pe_str (pa_cons (pv 3) pa_nil)))))
      pss_nil)
    (pss_cons (ps_if (pt_cmpR op_lt (pv 2) pe_int (nomark _))
      (pss_one (ps_ret (pe_tup (pa_cons pe_str (pa_cons (pv 3) pa_nil)))))
      pss_nil)
    (pss_cons (ps_if (pt_cmpR op_eq (pv 2) pe_int (nomark _))
      (pss_one (ps_ret (pe_tup (pa_cons pe_str (pa_cons (pe_op op_add pe_int (pe_ok (ok_law_take t) hr1 rfl (pa_cons (pv 0) (pa_cons pe_int pa_nil)))) (pa_cons (pv 3) pa_nil))))))
      pss_nil)
    (pss_cons (ps_if (pt_cmpR op_eq (pv 2) pe_int (nomark _))
      (pss_one (ps_ret (pe_tup (pa_cons pe_str (pa_cons (pe_ix ix_list (pe_lst (pa_cons (pe_op op_add pe_int (pe_ok (ok_law_take t) hr1 rfl (pa_cons (pv 0) (pa_cons pe_int pa_nil)))) (pa_cons pe_int pa_nil))) (pe_ok (ok_law_take t) hr1 rfl (pa_cons (pv 0) (pa_cons pe_int pa_nil))) (fun _ _ => rfl)) (pa_cons (pv 3) pa_nil))))))
      pss_nil)
    (pss_one (ps_ret (pe_tup (pa_cons pe_str pa_nil))))))))), ?_⟩
  refine ⟨_, rfl, a, 8, rfl, hD, by decide, fun v H1 v0 v1 D1 B1 => ?_⟩
  refine ⟨_, rfl, _, rfl, a, m, rfl, D1, m0, m1, fun x H2 x1 x2 D2 B2 => ?_⟩
  have B := B1.trans B2
  have fin : ∀ (kd : Str) rest (H3 : Hp) p, Dr H3 a → But a H H3 → H3 p = none → Q (.ref p) (upd H3 p (.tup (.str kd :: rest))) := fun kd rest H3 p D3 B3 hp => by
    refine k p kd rest _ ?_ upd_same (D3.new hp) (B3.new ?_)
    all_goals
      cases e : H p with
      | none => rfl
      | some o =>
        by_cases n : p = a
        · obtain ⟨o2, h2⟩ := D3.has
          rw [n, h2] at hp
          cases hp
        · rw [B3 _ _ e n] at hp
          cases hp
  refine ⟨_, rfl, _, _, rfl, rfl, _, rfl, ?_⟩
  refine ite2 (fun h1 => ⟨_, rfl, (by show 2 ≤ sizeLine; decide), fun p hp => fin _ _ _ p D2 B hp⟩) (fun h1 => ?_)
  refine ⟨_, rfl, _, _, rfl, rfl, _, rfl, ?_⟩
  refine ite2 (fun h2 => ⟨_, rfl, (by show 2 ≤ sizeLine; decide), fun p hp => fin _ _ _ p D2 B hp⟩) (fun h2 => ?_)
  refine ⟨_, rfl, rfl, _, rfl, ?_⟩
  refine ite2 (fun h3 => ?_) (fun h3 => ?_)
  · refine ⟨_, rfl, a, 3, rfl, D2, by decide, fun u H3 u0 u1 D3 B3 => ⟨_, _, rfl, rfl, _, rfl, (by show 3 ≤ sizeLine; decide), fun p hp => fin _ _ _ p D3 (B.trans B3) hp⟩⟩
  refine ⟨_, rfl, rfl, _, rfl, ?_⟩
  refine ite2 (fun h4 => ?_) (fun h4 => ⟨(by show 1 ≤ sizeLine; decide), fun p hp => fin _ _ _ p D2 B hp⟩)
  refine ⟨_, rfl, a, 99, rfl, D2, by decide, fun u H3 u0 u1 D3 B3 => ⟨_, _, rfl, rfl, (by show 2 ≤ sizeLine; decide), fun l hl => ?_⟩⟩
  refine ⟨_, rfl, a, 2, rfl, D3.new hl, by decide, fun y H4 y0 y1 D4 B4 => ?_⟩
  have hl4 := B4 _ _ upd_same (D3.ne hl).symm
  have hy : y = 0 ∨ y = 1 := by omega
  obtain ⟨z, hz⟩ : ∃ z : Int, atI [V.int (1 + u), V.int 7] y = some (.int z) := by
    rcases hy with rfl | rfl
    · exact ⟨_, rfl⟩
    · exact ⟨_, rfl⟩
  refine ⟨_, _, _, _, rfl, rfl, SqL.of hl4, hz, _, rfl, (by show 3 ≤ sizeLine; decide), fun p hp => fin _ _ _ p D4 ((B.trans B3).trans fun b o e n => ?_) hp⟩
  exact B4 b o (by rw [upd_ne (ne_of_none e hl)]; exact e) n
theorem get_snoc {α : Type} {l : List α} {x y : α} {i j : Nat} (hl : l.length = i) (h : (l ++ [x])[j]? = some y) : (j < i ∧ l[j]? = some y) ∨ (j = i ∧ y = x) := by
  by_cases hji : j < i
  · rw [List.getElem?_append_left (by omega)] at h
    exact .inl ⟨hji, h⟩
  · rw [List.getElem?_append_right (by omega)] at h
    have hj : j - l.length = 0 := by
      have := (List.getElem?_eq_some_iff.mp h).1
      rw [List.length_singleton] at this
      omega
    rw [hj] at h
    exact .inr ⟨by omega, (Option.some.inj h).symm⟩
theorem But.free {a : Addr} {H H' : Hp} {p : Addr} (b : But a H H') (D : Dr H' a) (hp : H' p = Option.none) : H p = Option.none := by
  cases e : H p with
  | none => rfl
  | some o =>
    by_cases n : p = a
    · obtain ⟨o2, h2⟩ := D.has
      rw [n, h2] at hp
      cases hp
    · rw [b _ _ e n] at hp
      cases hp
theorem small1 {n : Nat} (h : n ≤ 100000) : n < sizeLine := Nat.lt_of_le_of_lt h (by decide)
abbrev nsLawBlocks : List Str := ["draws", "least", "most", "length", "k"]
theorem scLawBlocks : FnScope nsLawBlocks ["draws", "least", "most", "length"] (defScope sLawBlocks) := ⟨rfl, rfl, rfl, by decide +kernel, rfl, by decide +kernel, by decide +kernel⟩
theorem ok_law_blocks (t : T K mg) : Ok P w K mg base 4 "_law_blocks" ["draws", "least", "most", "length"] spBlocks := by
  refine mkOk t.d_law_blocks t.g_law_blocks scLawBlocks (fun vs H Q E h => ?_) (fun _ _ _ _ _ _ us hl => match us, hl with | [_, _, _, _], _ => rfl) fun cdv A outer s H vs Q E hr h => ?_
  · obtain ⟨a, lo, hi, m, rfl, _⟩ := h; rfl
  obtain ⟨a, lo, hi, m, rfl, hD, l0, l1, l2, m0, m1, k⟩ := h
  have hr1 : Room 1 _ := hr.mono (by decide)
  have hr3 : Room 3 _ := hr.mono (by decide)
  refine ⟨_, pss_one (ps_ret (pe_lc (own := [("k", 4)]) (g := gName 4) (tt := tYes) rfl scLawBlocks.nd (pi_range1 rfl t.f_range (pa_cons (pe_op op_add (pv 1) (pe_ok (ok_law_take t) hr1 rfl (pa_cons (pv 0) (pa_cons (pe_op op_add (pe_op op_sub (pv 2) (pv 1)) pe_int) pa_nil)))) pa_nil)) (blkOk_by (own := [("k", 4)]) (N := nsLawBlocks) (sc := defScope sLawBlocks) (by decide +kernel)) (fun _ _ _ _ _ => pg_name (i := 4) scLawBlocks.nd rfl (Or.inl rfl)) (fun _ _ _ _ _ => pts_nil) (fun _ _ _ _ _ => (pe_ok (ok_law_block t) hr3 rfl (pa_cons (pv 0) (pa_cons (pv 3) pa_nil)))))), ?_⟩
  refine ⟨_, rfl, _, rfl, _, rfl, _, rfl, _, _, rfl, rfl, _, _, rfl, rfl, a, _, rfl, hD, by omega, fun v H1 v0 v1 D1 B1 => ?_⟩
  refine ⟨_, _, rfl, rfl, _, rfl, by omega, by omega, fun D hN => ?_⟩
  refine lc_range (lo := 0) (n := (lo + v).toNat) (fun i H' => (∃ (ys : List V) (ks : List Str), ys.length = i ∧ BlksAt H' D ys ks) ∧ Dr H' a ∧ But a H1 H') ?_ ?_ ?_
  · exact ⟨⟨[], [], rfl, upd_same, rfl, fun (i : Nat) v kd h => by simp at h⟩, D1.new hN, But.new (But.refl _ _) hN⟩
  · rintro i H' hi ⟨⟨ys, ks, yl, hB⟩, D2, B2⟩
    have naD : D ≠ a := by
      intro e
      obtain ⟨o2, h2⟩ := D1.has
      rw [e, h2] at hN
      cases hN
    refine ⟨rfl, ?_⟩
    refine ⟨_, rfl, _, rfl, a, m, rfl, D2, m0, m1, fun p kd rest H3 hp hp3 D3 B3 => ?_⟩
    have hB3 := hB.but B3 naD D2
    have hD3 := hB3.at_
    refine ⟨ys, hD3, small1 (by omega), ⟨ys ++ [.ref p], ks ++ [kd], by rw [List.length_append, yl]; rfl, upd_same, by rw [List.length_append, List.length_append, hB3.len]; rfl, fun j y kd' hj hj' => ?_⟩, D3.put naD.symm, fun b o e nb => ?_⟩
    · rcases get_snoc yl hj with ⟨q1, q2⟩ | ⟨q1, rfl⟩
      · rcases get_snoc (hB3.len.symm.trans yl) hj' with ⟨q3, q4⟩ | ⟨q3, _⟩
        · obtain ⟨q, rest', e, hq⟩ := hB3.el j y kd' q2 q4
          exact ⟨q, rest', e, by rw [upd_ne (ne_of hq hD3 (by intro z; cases z))]; exact hq⟩
        · omega
      · rcases get_snoc (hB3.len.symm.trans yl) hj' with ⟨q3, q4⟩ | ⟨q3, rfl⟩
        · omega
        · exact ⟨p, rest, rfl, by rw [upd_ne (ne_of hp3 hD3 (by intro z; cases z))]; exact hp3⟩
    · rw [upd_ne (ne_of_none e hN)]
      exact B3 _ _ (B2 b o e nb) nb
  · rintro H' ⟨⟨ys, ks, yl, hB⟩, D2, B2⟩
    have e := hB.len
    exact k D ys ks H' (B1.free D1 hN) hB (by omega) (by omega) D2 (B1.trans B2)
abbrev nsLawCounts : List Str := ["draws", "blocks", "found", "block"]
theorem scLawCounts : FnScope nsLawCounts ["draws", "blocks"] (defScope sLawCounts) := ⟨rfl, rfl, rfl, by decide +kernel, rfl, by decide +kernel, by decide +kernel⟩
theorem Counts.snoc {ks : List Str} {ns : List Nat} {i n : Nat} {kd : Str} (h : Counts (ks.take i) ns) (hk : ks[i]? = some kd) (h1 : 1 ≤ n ∧ n ≤ 6) (hb : kd = "break" → n = 1) : Counts (ks.take (i + 1)) (ns ++ [n]) := by
  have tk : ks.take (i + 1) = ks.take i ++ [kd] := by rw [List.take_add_one, hk]; rfl
  have il : i < ks.length := (List.getElem?_eq_some_iff.mp hk).1
  have kl : (ks.take i).length = i := by rw [List.length_take]; omega
  rw [tk]
  refine ⟨by rw [List.length_append, List.length_append, h.len]; rfl, fun x hx => ?_, fun j kd' n' hj hj' e => ?_⟩
  · rw [List.mem_append, List.mem_singleton] at hx
    rcases hx with hx | rfl
    · exact h.pos x hx
    · exact h1
  · rcases get_snoc kl hj with ⟨q1, q2⟩ | ⟨q1, rfl⟩
    · rcases get_snoc (h.len.trans kl) hj' with ⟨q3, q4⟩ | ⟨q3, _⟩
      · exact h.brk j kd' n' q2 q4 e
      · omega
    · rcases get_snoc (h.len.trans kl) hj' with ⟨q3, q4⟩ | ⟨q3, rfl⟩
      · omega
      · exact hb e
theorem ok_law_counts (t : T K mg) : Ok P w K mg base 2 "_law_counts" ["draws", "blocks"] spCounts := by
  refine mkOk t.d_law_counts t.g_law_counts scLawCounts (fun vs H Q E h => ?_) (fun _ _ _ _ _ _ us hl => match us, hl with | [_, _], _ => rfl) fun cdv A outer s H vs Q E hr h => ?_
  · obtain ⟨a, p, bs, ks, rfl, _⟩ := h; rfl
  obtain ⟨a, p, bs, ks, rfl, hD, hB, npa, kl, k⟩ := h
  have hr1 : Room 1 _ := hr.mono (by decide)
  refine ⟨_, pss_cons (ps_set (i := 2) scLawCounts.nd rfl (Or.inl rfl) (pe_lst pa_nil))
    (pss_cons (ps_for PassesOwn.never rfl (pi_list (pv 1)) (pg_name (i := 3) scLawCounts.nd rfl (Or.inl rfl))
      (pss_one (ps_if (pt_cmpR op_eq (pe_ix ix_tup (pv 3) pe_int (fun _ _ => rfl)) pe_str (nomark _))
      (pss_one (ps_expr (pe_bm PySem.F.plainAttrs_list PySem.F.slot_list_append PySem.F.type_list_append mt_append (pv 2) (pa_cons pe_int pa_nil))))
      (pss_one (ps_expr (pe_bm PySem.F.plainAttrs_list PySem.F.slot_list_append PySem.F.type_list_append mt_append (pv 2) (pa_cons (pe_op op_add pe_int (pe_ok (ok_law_take t) hr1 rfl (pa_cons (pv 0) (pa_cons pe_int pa_nil)))) pa_nil)))))))
    (pss_one (ps_ret (pv 2)))), ?_⟩
  refine ⟨(by show 0 ≤ sizeLine; decide), fun D hN => ?_⟩
  have naD : D ≠ a := fun e => hD.ne hN e.symm
  have B0 : BlksAt (upd H D (.lst [])) p bs ks := hB.same (Same.new hN)
  refine ⟨_, rfl, p, rfl, ⟨_, SqL.of B0.at_⟩, ?_⟩
  refine for_list (K := K) (a := p) (xs := bs) (fun i σ' H' => (∃ (ns : List Nat) (o3 : Option V), σ' = [some (.ref a), some (.ref p), some (.ref D), o3] ∧ H' D = some (.lst (ns.map nv)) ∧ Counts (ks.take i) ns) ∧ BlksAt H' p bs ks ∧ Dr H' a ∧ But a H H') ?_ (fun i σ' H' _ p => SqL.of p.2.1.at_) ?_ ?_
  · exact ⟨⟨[], none, rfl, upd_same, rfl, fun n hn => absurd hn List.not_mem_nil, fun (i : Nat) kd n h => by simp at h⟩, B0, hD.new hN, But.new (But.refl _ _) hN⟩
  · rintro i x σ' H' hx ⟨⟨ns, o3, rfl, hns, hC⟩, hB', D2, B2⟩
    have il : i < ks.length := by
      have := (List.getElem?_eq_some_iff.mp hx).1
      rw [hB'.len] at this
      exact this
    have nl : ns.length ≤ 1000 := by
      have := hC.len
      rw [List.length_take] at this
      omega
    have hk : ks[i]? = some ks[i] := List.getElem?_eq_getElem il
    obtain ⟨q, rest, rfl, hq⟩ := hB'.el i x _ hx hk
    have nD : ∀ (o : HO) , H D = none → D ≠ p := fun _ h => (ne_of_none hB.at_ h).symm
    refine ⟨_, rfl, q, _, _, _, rfl, rfl, SqT.of hq, atI_nat (j := 0) rfl, rfl, _, rfl, ?_⟩
    have step : ∀ (n : Nat) (y : V) (H3 : Hp), y = nv n → H3 D = some (.lst (ns.map nv)) → BlksAt H3 p bs ks → Dr H3 a → But a H H3 → 1 ≤ n ∧ n ≤ 6 → (ks[i] = "break" → n = 1) →
        (∃ (ns' : List Nat) (o3 : Option V), [some (V.ref a), some (.ref p), some (.ref D), some (.ref q)] = [some (V.ref a), some (.ref p), some (.ref D), o3] ∧ upd H3 D (.lst (ns.map nv ++ [y])) D = some (.lst (ns'.map nv)) ∧ Counts (ks.take (i + 1)) ns') ∧ BlksAt (upd H3 D (.lst (ns.map nv ++ [y]))) p bs ks ∧ Dr (upd H3 D (.lst (ns.map nv ++ [y]))) a ∧ But a H (upd H3 D (.lst (ns.map nv ++ [y]))) := fun n y H3 ey h1 h2 h3 h4 h5 h6 =>
      ⟨⟨ns ++ [n], _, rfl, by rw [upd_same, List.map_append, ey]; rfl, hC.snoc hk h5 h6⟩, ⟨by rw [upd_ne (nD (.lst []) hN).symm]; exact h2.at_, h2.len, fun j v kd hj hj' => by
        obtain ⟨r, rest', e, hr⟩ := h2.el j v kd hj hj'
        exact ⟨r, rest', e, by rw [upd_ne (ne_of hr h1 (by intro z; cases z))]; exact hr⟩⟩, h3.put naD.symm, h4.new hN⟩
    refine ite2 (fun h1 => ?_) (fun h1 => ?_)
    · have e1 : ks[i] = "break" := by
        simp at h1
        exact h1
      refine ⟨_, rfl, .inl ⟨rfl, _, SqL.of hns⟩, D, _, _, rfl, rfl, hns, (by rw [List.length_map]; exact small1 (by omega)), step 1 _ H' rfl hns hB' D2 B2 ⟨by decide, by decide⟩ (fun _ => rfl)⟩
    · have e1 : ks[i] ≠ "break" := by
        simp at h1
        exact h1
      refine ⟨_, rfl, .inl ⟨rfl, _, SqL.of hns⟩, _, rfl, a, 6, rfl, D2, by decide, fun v H3 v0 v1 D3 B3 => ?_⟩
      have hns3 := B3 _ _ hns naD
      refine ⟨_, _, rfl, rfl, D, _, _, rfl, rfl, hns3, (by rw [List.length_map]; exact small1 (by omega)), ?_⟩
      have ev : V.int (1 + v) = nv (v.toNat + 1) := by
        show V.int (1 + v) = V.int ((v.toNat + 1 : Nat) : Int)
        congr 1
        omega
      exact step (v.toNat + 1) _ H3 ev hns3 (hB'.but B3 npa D2) D3 (B2.trans B3) ⟨by omega, by omega⟩ (fun e => absurd e e1)
  · rintro σ' H' ⟨⟨ns, o3, rfl, hns, hC⟩, hB', D2, B2⟩
    rw [hB.len, List.take_length] at hC
    exact ⟨_, rfl, k D ns H' hN hns hC D2 B2⟩
end
end Sx

set_option Elab.async false
set_option linter.all false
set_option maxRecDepth 100000
set_option maxHeartbeats 1000000
namespace Sx
open PySem PySem.Spec PyProof.Rows L2 SxA
/-! ### whose a line is -/
def own (n : Nat → Nat) (m : Nat) : List (Nat × Nat) := (List.range m).flatMap fun k => (List.range (n k)).map fun j => (k, j)
theorem own_succ (n : Nat → Nat) (m : Nat) : own n (m + 1) = own n m ++ (List.range (n m)).map fun j => (m, j) := by
  unfold own
  rw [List.range_succ, List.flatMap_append]
  simp
theorem own_get (n : Nat → Nat) : ∀ m k j, k < m → j < n k → (own n m)[(own n k).length + j]? = some (k, j)
  | 0, k, j, h, _ => absurd h (Nat.not_lt_zero _)
  | m + 1, k, j, h, hj => by
    rw [own_succ]
    by_cases e : k = m
    · subst e
      rw [List.getElem?_append_right (by omega)]
      simp [hj]
    · have q := own_get n m k j (by omega) hj
      rw [List.getElem?_append_left (List.getElem?_eq_some_iff.mp q).1]
      exact q
theorem own_inv (n : Nat → Nat) : ∀ m i k j, (own n m)[i]? = some (k, j) → k < m ∧ j < n k ∧ i = (own n k).length + j
  | 0, i, k, j, h => by simp [own] at h
  | m + 1, i, k, j, h => by
    rw [own_succ] at h
    by_cases e : i < (own n m).length
    · rw [List.getElem?_append_left e] at h
      obtain ⟨a, b, c⟩ := own_inv n m i k j h
      exact ⟨by omega, b, c⟩
    · rw [List.getElem?_append_right (by omega)] at h
      obtain ⟨h1, h2⟩ := List.getElem?_eq_some_iff.mp h
      rw [List.length_map, List.length_range] at h1
      rw [List.getElem_map, List.getElem_range] at h2
      cases h2
      exact ⟨Nat.lt_succ_self _, h1, by omega⟩
theorem own_mono (n : Nat → Nat) (k : Nat) : (own n (k + 1)).length = (own n k).length + n k := by
  rw [own_succ, List.length_append, List.length_map, List.length_range]
theorem own_le (n : Nat → Nat) {m : Nat} : ∀ {q : Nat}, m ≤ q → (own n m).length ≤ (own n q).length
  | 0, h => by
    have : m = 0 := by omega
    rw [this]
    exact Nat.le_refl _
  | q + 1, h => by
    by_cases z : m = q + 1
    · rw [z]; exact Nat.le_refl _
    · have := own_le n (m := m) (q := q) (by omega)
      rw [own_mono]
      omega
/-- what stands behind a line's owner -/
theorem own_next {n : Nat → Nat} {m i k j : Nat} (h : (own n m)[i]? = some (k, j)) (h1 : i + 1 < (own n m).length) : ∃ k' j', (own n m)[i + 1]? = some (k', j') ∧ (j + 1 < n k → k' = k ∧ j' = j + 1) ∧ (¬ j + 1 < n k → k' ≠ k) := by
  obtain ⟨a, b, c⟩ := own_inv n m i k j h
  obtain ⟨⟨k', j'⟩, e⟩ : ∃ q, (own n m)[i + 1]? = some q := ⟨_, List.getElem?_eq_getElem h1⟩
  refine ⟨k', j', e, fun lt => ?_, fun ge q => ?_⟩
  · have q := own_get n m k (j + 1) a lt
    rw [show (own n k).length + (j + 1) = i + 1 by omega, e] at q
    cases q
    exact ⟨rfl, rfl⟩
  · subst q
    obtain ⟨_, b', c'⟩ := own_inv n m _ _ _ e
    omega
/-! ### where a page may end -/
def mpB (kd : Str) (n d : Nat) : Bool := !decide (kd = "head") && (decide (d = n) || (decide (1 < d) && decide (d + 1 < n)))
def nN (ns : List Nat) (k : Nat) : Nat := ns.getD k 0
def flatB (ks : List Str) (ns : List Nat) (m : Nat) : List Bool := (own (nN ns) m).map fun q => mpB (ks.getD q.1 "") (nN ns q.1) (q.2 + 1)
def partL (ks : List Str) (ns : List Nat) : List Bool := (false :: flatB ks ns ns.length).set (flatB ks ns ns.length).length true
theorem flatB_succ (ks : List Str) (ns : List Nat) (m : Nat) : flatB ks ns (m + 1) = flatB ks ns m ++ (List.range (nN ns m)).map fun j => mpB (ks.getD m "") (nN ns m) (j + 1) := by
  unfold flatB
  rw [own_succ, List.map_append, List.map_map]
  rfl
theorem flatB_len (ks : List Str) (ns : List Nat) (m : Nat) : (flatB ks ns m).length = (own (nN ns) m).length := List.length_map _
theorem partL_end (ks : List Str) (ns : List Nat) : (partL ks ns)[(own (nN ns) ns.length).length]? = some true := by
  unfold partL
  rw [flatB_len, List.getElem?_set_self]
  rw [List.length_cons, flatB_len]
  exact Nat.lt_succ_self _
theorem partL_in {ks : List Str} {ns : List Nat} {i k j : Nat} (h : (own (nN ns) ns.length)[i]? = some (k, j)) (hi : i + 1 < (own (nN ns) ns.length).length) : (partL ks ns)[i + 1]? = some (mpB (ks.getD k "") (nN ns k) (j + 1)) := by
  unfold partL
  rw [flatB_len, List.getElem?_set_ne (by omega), List.getElem?_cons_succ]
  unfold flatB
  rw [List.getElem?_map, h]
  rfl
theorem own_total (ns : List Nat) : (own (nN ns) ns.length).length = ns.sum := by
  have : ∀ m, m ≤ ns.length → (own (nN ns) m).length = (ns.take m).sum := fun m => by
    induction m with
    | zero => intro _; rfl
    | succ m ih =>
      intro h
      have e : ns[m]? = some (ns[m]'(by omega)) := List.getElem?_eq_getElem _
      have hn : nN ns m = ns[m]'(by omega) := by simp [nN, List.getD_eq_getElem?_getD, e]
      rw [own_mono, ih (by omega), hn, List.take_add_one, e]
      simp only [Option.toList, List.sum_append, List.sum_cons, List.sum_nil]
      omega
  have q := this ns.length (Nat.le_refl _)
  rw [List.take_length] at q
  exact q
theorem sum_le (ns : List Nat) (h : ∀ n ∈ ns, 1 ≤ n ∧ n ≤ 6) : ns.sum ≤ 6 * ns.length := by
  induction ns with
  | nil => exact Nat.le_refl _
  | cons n r ih =>
    have := (h n (.head _)).2
    have := ih fun x hx => h x (.tail _ hx)
    rw [List.sum_cons, List.length_cons]
    omega
theorem sum_take_le (ns : List Nat) (m : Nat) : (ns.take m).sum ≤ ns.sum := by
  have e := congrArg List.sum (List.take_append_drop m ns)
  rw [List.sum_append] at e
  omega
def spMayPart : Sp := fun vs H Q _ => ∃ (q : Addr) (kd : Str) (rest : List V) (n d : Nat), vs = [.ref q, nv n, nv d] ∧ H q = some (.tup (.str kd :: rest)) ∧ Q (.bl (mpB kd n d)) H
def spPart : Sp := fun vs H Q _ => ∃ (b l : Addr) (bs : List V) (ks : List Str) (ns : List Nat), vs = [.ref b, .ref l] ∧ BlksAt H b bs ks ∧ H l = some (.lst (ns.map nv)) ∧ Counts ks ns ∧ ks.length ≤ 1000 ∧
  ∀ p H', H p = none → Same H H' → H' p = some (.lst ((partL ks ns).map V.bl)) → Q (.ref p) H'
def spMayEnd : Sp := fun vs H Q _ => ∃ (b l : Addr) (bs : List V) (ks : List Str) (ns : List Nat) (at_ : Nat) (y : Bool), vs = [.ref b, .ref l, nv at_] ∧ BlksAt H b bs ks ∧ H l = some (.lst (ns.map nv)) ∧ Counts ks ns ∧ ks.length ≤ 1000 ∧ (partL ks ns)[at_]? = some y ∧
  ∀ H', Same H H' → Q (.bl y) H'
section
variable {P : Program} {w : World} {K : PySem.W.Frag} {mg : Str → Option Value} {base : Heap}
abbrev nsMayPart : List Str := ["block", "many", "done"]
theorem scMayPart : FnScope nsMayPart ["block", "many", "done"] (defScope sMayPart) := ⟨rfl, rfl, rfl, by decide +kernel, rfl, by decide +kernel, by decide +kernel⟩
theorem ok_may_part (t : T K mg) : Ok P w K mg base 1 "may_part" ["block", "many", "done"] spMayPart := by
  refine mkOk t.d_may_part t.g_may_part scMayPart (fun vs H Q E h => ?_) (fun _ _ _ _ _ _ us hl => match us, hl with | [_, _, _], _ => rfl) fun cdv A outer s H vs Q E hr h => ?_
  · obtain ⟨q, kd, rest, n, d, rfl, _⟩ := h; rfl
  obtain ⟨q, kd, rest, n, d, rfl, hq, k⟩ := h
  refine ⟨_, pss_cons (ps_if (pt_cmpR op_eq (pe_ix ix_tup (pv 0) pe_int (fun _ _ => rfl)) pe_str (nomark _))
      (pss_one (ps_ret pe_bl))
      pss_nil)
    (pss_one (ps_ret (pe_or (pe_cmpR op_eq (pv 2) (pv 1) (nomark _)) (pe_one (pe_chain op_lt op_lt pe_int (pv 2) (pe_op op_sub (pv 1) pe_int)))))), ?_⟩
  unfold mpB at k
  refine ⟨_, rfl, q, _, _, _, rfl, rfl, SqT.of hq, atI_nat (j := 0) rfl, rfl, _, rfl, ?_⟩
  refine ite2 (fun h1 => ?_) (fun h1 => ?_)
  · have e : kd = "head" := by simp at h1; exact h1
    rw [decide_eq_true e] at k
    exact k
  have e : kd ≠ "head" := by simp at h1; exact h1
  rw [decide_eq_false e] at k
  refine ⟨_, rfl, _, rfl, rfl, _, rfl, ?_⟩
  have e2 : decide (nv d = nv n) = decide (d = n) := by
    rw [decide_eq_decide]
    constructor
    · intro z
      have := V.int.inj z
      omega
    · intro z; rw [z]
  refine ite2 (fun h2 => ?_) (fun h2 => ?_)
  · rw [e2] at h2
    rw [h2] at k
    exact k
  · rw [e2, Bool.not_eq_true] at h2
    rw [h2] at k
    refine ⟨_, rfl, _, _, rfl, rfl, _, rfl, ?_⟩
    have e3 : decide ((1 : Int) < (d : Int)) = decide (1 < d) := by rw [decide_eq_decide]; omega
    refine ite2 (fun h3 => ?_) (fun h3 => ?_)
    · rw [e3] at h3
      rw [h3] at k
      refine ⟨_, rfl, _, _, rfl, rfl, _, _, rfl, rfl, ?_⟩
      have e4 : decide ((d : Int) < (n : Int) - 1) = decide (d + 1 < n) := by rw [decide_eq_decide]; omega
      show Q (.bl (decide ((d : Int) < (n : Int) - 1))) H
      rw [e4]
      exact k
    · rw [e3, Bool.not_eq_true] at h3
      rw [h3] at k
      exact k
abbrev nsPartingPlaces : List Str := ["blocks", "lines", "places", "block", "many", "done"]
theorem scPartingPlaces : FnScope nsPartingPlaces ["blocks", "lines"] (defScope sPartingPlaces) := ⟨rfl, rfl, rfl, by decide +kernel, rfl, by decide +kernel, by decide +kernel⟩
theorem ft (l : List Nat) : l.filter (fun _ => true) = l := List.filter_eq_self.mpr fun _ _ => rfl
theorem ok_parting_places (t : T K mg) : Ok P w K mg base 2 "parting_places" ["blocks", "lines"] spPart := by
  refine mkOk t.d_parting_places t.g_parting_places scPartingPlaces (fun vs H Q E h => ?_) (fun _ _ _ _ _ _ us hl => match us, hl with | [_, _], _ => rfl) fun cdv A outer s H vs Q E hr h => ?_
  · obtain ⟨b, l, bs, ks, ns, rfl, _⟩ := h; rfl
  obtain ⟨b, l, bs, ks, ns, rfl, hB, hL, hC, kl, k⟩ := h
  have hr1 : Room 1 _ := hr.mono (by decide)
  refine ⟨_, pss_cons (ps_set (i := 2) scPartingPlaces.nd rfl (Or.inl rfl) (pe_lst (pa_cons pe_bl pa_nil)))
    (pss_cons (ps_for PassesOwn.never rfl (pi_zip (by rfl) t.f_zip (pa_cons (pv 0) (pa_cons (pv 1) pa_nil))) (pg_tup rfl (pgs_cons (pg_name (i := 3) scPartingPlaces.nd rfl (Or.inr rfl)) (pgs_cons (pg_name (i := 4) scPartingPlaces.nd rfl (Or.inr rfl)) pgs_nil)))
      (pss_one (ps_expr (pe_bm PySem.F.plainAttrs_list PySem.F.slot_list_extend PySem.F.type_list_extend mt_extend (pv 2) (pa_cons (pe_lc (own := [("done", 5)]) (g := gName 5) (tt := tYes) rfl scPartingPlaces.nd (pi_range2 rfl t.f_range (pa_cons pe_int (pa_cons (pe_op op_add (pv 4) pe_int) pa_nil))) (blkOk_by (own := [("done", 5)]) (N := nsPartingPlaces) (sc := defScope sPartingPlaces) (by decide +kernel)) (fun _ _ _ _ _ => pg_name (i := 5) scPartingPlaces.nd rfl (Or.inl rfl)) (fun _ _ _ _ _ => pts_nil) (fun _ _ _ _ _ => (pe_ok (ok_may_part t) hr1 rfl (pa_cons (pv 3) (pa_cons (pv 4) (pa_cons (pv 5) pa_nil)))))) pa_nil)))))
    (pss_cons (ps_asg pe_bl (pg_sub (pv 2) (pe_un un_neg pe_int) set_list))
    (pss_one (ps_ret (pv 2))))), ?_⟩
  have hl : bs.length = (ns.map nv).length := by rw [List.length_map, hC.len, hB.len]
  have few : ∀ m, m ≤ ns.length → (flatB ks ns m).length ≤ 6000 := fun m h => by
    rw [flatB_len]
    have e1 := own_total ns
    have e2 := sum_le ns hC.pos
    have e3 := own_le (nN ns) h
    have := hC.len
    omega
  refine ⟨(by show 1 ≤ sizeLine; decide), fun D hN => ?_⟩
  refine ⟨_, rfl, _, rfl, b, l, bs, ns.map nv, rfl, SqL.of (Same.new hN _ _ hB.at_), SqL.of (Same.new hN _ _ hL), ?_⟩
  refine RZ.for_zipL (K := K) (a := b) (b := l) (xs := bs) (ys := ns.map nv) hl (fun i σ' H' => (∃ o3 o4 : Option V, σ' = [some (.ref b), some (.ref l), some (.ref D), o3, o4, none]) ∧ H' D = some (.lst ((false :: flatB ks ns i).map V.bl)) ∧ Same H H') ⟨⟨_, _, rfl⟩, upd_same, Same.new hN⟩ (fun i σ' H' p => ⟨SqL.of (p.2.2 _ _ hB.at_), SqL.of (p.2.2 _ _ hL)⟩) ?_ ?_
  · rintro i x y T σ' H' hx hy ⟨⟨o3, o4, rfl⟩, hD, s1⟩ hT
    have il : i < ns.length := by
      have := (List.getElem?_eq_some_iff.mp hy).1
      rw [List.length_map] at this
      exact this
    have hn : ns[i]? = some (ns[i]'il) := List.getElem?_eq_getElem il
    have ilk : i < ks.length := by rw [← hC.len]; exact il
    have hk : ks[i]? = some ks[i] := List.getElem?_eq_getElem ilk
    obtain ⟨q, rest, rfl, hq⟩ := hB.el i x _ hx hk
    have ey : y = nv ns[i] := by
      rw [List.getElem?_map, hn] at hy
      exact (Option.some.inj hy).symm
    subst ey
    have nDT : D ≠ T := ne_of_none hD hT
    have s2 : Same H (upd H' T (.tup [.ref q, nv ns[i]])) := Same.put s1 (Sx.Same.none s1 _ hT)
    have np := hC.pos _ (List.getElem_mem il)
    refine ⟨T, _, rfl, SqT.of upd_same, rfl, _, _, rfl, _, _, rfl, rfl, ?_⟩
    refine ⟨_, rfl, .inl ⟨rfl, _, SqL.of (by rw [upd_ne nDT]; exact hD)⟩, ?_⟩
    refine ⟨_, rfl, _, _, rfl, rfl, _, _, rfl, ⟨by omega, by omega, by omega, by omega⟩, fun C hCn => ?_⟩
    have nDC : D ≠ C := ne_of_none (show upd H' T (.tup [.ref q, nv ns[i]]) D = some _ by rw [upd_ne nDT]; exact hD) hCn
    refine lc_rangeF (lo := 1) (n := ((ns[i] : Int) + 1 - 1).toNat) (i0 := 5) (f := fun _ => true) (F := fun j => .bl (mpB ks[i] ns[i] (j + 1))) hCn (Nat.le_trans (show ((ns[i] : Int) + 1 - 1).toNat ≤ 6 by omega) (by decide)) (fun _ => rfl) (fun j H1 Q1 hj sm q1 => q1) (fun j H1 Q1 hj sm q1 => ?_) (fun H2 sm hC2 => ?_)
    · refine ⟨_, rfl, _, rfl, _, rfl, q, ks[i], rest, ns[i], j + 1, ?_, sm _ _ (s2 _ _ hq), q1⟩
      have : (1 : Int) + (j : Int) = ((j + 1 : Nat) : Int) := by omega
      show [V.ref q, nv ns[i], V.int (1 + (j : Int))] = _
      rw [this]
      rfl
    · refine ⟨D, C, _, _, rfl, rfl, sm _ _ (by rw [upd_ne nDT]; exact hD), hC2, ?_, ⟨⟨_, _, rfl⟩, ?_, ?_⟩⟩
      · rw [List.length_map, List.length_map, List.length_cons]
        have e1 := few i (by omega)
        have e2 : ((List.range ((ns[i] : Int) + 1 - 1).toNat).filter (fun _ => true)).length ≤ 6 := by
          rw [ft, List.length_range]
          omega
        exact Nat.le_trans (show _ ≤ 100000 by omega) (by decide)
      · rw [upd_same, flatB_succ, ft]
        have e1 : ((ns[i] : Int) + 1 - 1).toNat = nN ns i := by
          unfold nN
          rw [List.getD_eq_getElem?_getD, hn]
          show _ = ns[i]
          omega
        have e2 : ks.getD i "" = ks[i] := by
          rw [List.getD_eq_getElem?_getD, hk]
          rfl
        have e3 : nN ns i = ns[i] := by
          unfold nN
          rw [List.getD_eq_getElem?_getD, hn]
          rfl
        rw [e1, e2, ← List.cons_append, List.map_append, List.map_map, e3]
        rfl
      · exact Same.put (fun b o e => sm b o (s2 b o e)) hN
  · rintro σ' H' ⟨⟨o3, o4, rfl⟩, hD, s1⟩
    rw [hl, List.length_map] at hD
    have e1 : ixN ((false :: flatB ks ns ns.length).map V.bl).length (-1) = some (flatB ks ns ns.length).length := by
      rw [List.length_map, List.length_cons]
      unfold ixN
      rw [if_neg (by decide), if_pos (by omega)]
      congr 1
      omega
    refine ⟨_, rfl, _, rfl, D, _, _, _, rfl, rfl, hD, e1, ?_⟩
    refine ⟨_, rfl, k D _ hN (Same.put s1 hN) ?_⟩
    rw [upd_same]
    unfold partL
    rw [List.map_set]
end
end Sx

set_option Elab.async false
set_option linter.all false
set_option maxRecDepth 100000
set_option maxHeartbeats 1000000
namespace Sx
open PySem PySem.Spec PyProof.Rows L2 SxA
structure OwnAt (H : Hp) (p : Addr) (vs : List V) (os : List (Nat × Nat)) : Prop where
  at_ : H p = some (.lst vs)
  len : vs.length = os.length
  el : ∀ (i : Nat) v (q : Nat × Nat), vs[i]? = some v → os[i]? = some q → ∃ r, v = .ref r ∧ H r = some (.tup [nv q.1, nv q.2])
theorem OwnAt.get {H : Hp} {p : Addr} {vs : List V} {os : List (Nat × Nat)} (h : OwnAt H p vs os) {i : Nat} {q : Nat × Nat} (e : os[i]? = some q) : ∃ r, vs[i]? = some (.ref r) ∧ H r = some (.tup [nv q.1, nv q.2]) := by
  have il := (List.getElem?_eq_some_iff.mp e).1
  rw [← h.len] at il
  have e2 : vs[i]? = some vs[i] := List.getElem?_eq_getElem il
  obtain ⟨r, e3, hr⟩ := h.el i _ q e2 e
  exact ⟨r, by rw [e2, e3], hr⟩
def spOwners : Sp := fun vs H Q _ => ∃ (l : Addr) (ns : List Nat), vs = [.ref l] ∧ H l = some (.lst (ns.map nv)) ∧ ns.length ≤ 1000 ∧ (∀ n ∈ ns, 1 ≤ n ∧ n ≤ 6) ∧ ∀ p vs H', Same H H' → OwnAt H' p vs (own (nN ns) ns.length) → Q (.ref p) H'
def spMay : Sp := fun vs H Q _ => ∃ (b l : Addr) (bs : List V) (ks : List Str) (ns : List Nat) (at_ : Nat) (y : Bool), vs = [.ref b, .ref l, nv at_] ∧ BlksAt H b bs ks ∧ H l = some (.lst (ns.map nv)) ∧ Counts ks ns ∧ ks.length ≤ 1000 ∧ 1 ≤ at_ ∧ at_ ≤ ns.sum ∧ (partL ks ns)[at_]? = some y ∧
  ∀ H', Same H H' → Q (.bl y) H'
theorem nv_eq (a b : Nat) : decide (nv a = nv b) = decide (a = b) := by
  rw [decide_eq_decide]
  constructor
  · intro z
    have := V.int.inj z
    omega
  · intro z; rw [z]
theorem sum_nv (ns : List Nat) : (ns.map fun n : Nat => (n : Int)).sum = ((ns.sum : Nat) : Int) := by
  induction ns with
  | nil => rfl
  | cons n r ih => rw [List.map_cons, List.sum_cons, List.sum_cons, ih]; omega
section
variable {P : Program} {w : World} {K : PySem.W.Frag} {mg : Str → Option Value} {base : Heap}
abbrev nsLawOwners : List Str := ["counts", "found", "k", "j"]
theorem scLawOwners : FnScope nsLawOwners ["counts"] (defScope sLawOwners) := ⟨rfl, rfl, rfl, by decide +kernel, rfl, by decide +kernel, by decide +kernel⟩
theorem ok_law_owners (t : T K mg) : Ok P w K mg base 1 "_law_owners" ["counts"] spOwners := by
  refine mkOk t.d_law_owners t.g_law_owners scLawOwners (fun vs H Q E h => ?_) (fun _ _ _ _ _ _ us hl => match us, hl with | [_], _ => rfl) fun cdv A outer s H vs Q E hr h => ?_
  · obtain ⟨l, ns, rfl, _⟩ := h; rfl
  obtain ⟨l, ns, rfl, hL, nl, np, k⟩ := h
  refine ⟨_, pss_cons (ps_set (i := 1) scLawOwners.nd rfl (Or.inl rfl) (pe_lst pa_nil))
    (pss_cons (ps_for PassesOwn.never rfl (pi_range1 rfl t.f_range (pa_cons (pe_callB call_len_seq rfl t.f_len boot_len (pa_cons (pv 0) pa_nil)) pa_nil)) (pg_name (i := 2) scLawOwners.nd rfl (Or.inr rfl))
      (pss_one (ps_set (i := 1) scLawOwners.nd rfl (Or.inl rfl) (pe_op op_cat (pv 1) (pe_lc (own := [("j", 3)]) (g := gName 3) (tt := tYes) rfl scLawOwners.nd (pi_range1 rfl t.f_range (pa_cons (pe_ix ix_list (pv 0) (pv 2) (fun _ _ => rfl)) pa_nil)) (blkOk_by (own := [("j", 3)]) (N := nsLawOwners) (sc := defScope sLawOwners) (by decide +kernel)) (fun _ _ _ _ _ => pg_name (i := 3) scLawOwners.nd rfl (Or.inl rfl)) (fun _ _ _ _ _ => pts_nil) (fun _ _ _ _ _ => (pe_tup (pa_cons (pv 2) (pa_cons (pv 3) pa_nil)))))))))
    (pss_one (ps_ret (pv 1)))), ?_⟩
  refine ⟨(by show 0 ≤ sizeLine; decide), fun D hN => ?_⟩
  have total : (own (nN ns) ns.length).length ≤ 6000 := by
    have e1 := own_total ns
    have e2 := sum_le ns np
    omega
  refine ⟨_, rfl, l, _, rfl, .inl (SqL.of (Same.new hN _ _ hL)), _, rfl, by rw [List.length_map]; omega, by rw [List.length_map]; omega, ?_⟩
  rw [List.length_map]
  refine for_range (lo := 0) (n := ((ns.length : Nat) : Int).toNat) (fun i σ' H' => (∃ (p : Addr) (vs : List V) (o2 : Option V), σ' = [some (.ref l), some (.ref p), o2, none] ∧ OwnAt H' p vs (own (nN ns) i)) ∧ Same H H') ⟨⟨D, [], none, rfl, upd_same, rfl, fun (i : Nat) v q h => by simp at h⟩, Same.new hN⟩ ?_ ?_
  · rintro i σ' H' hi ⟨⟨p, vs, o2, rfl, hO⟩, s1⟩
    have il : i < ns.length := by omega
    have hn : ns[i]? = some ns[i] := List.getElem?_eq_getElem il
    have e0 : (0 : Int) + (i : Int) = ((i : Nat) : Int) := by omega
    have eN : nN ns i = ns[i] := by
      unfold nN
      rw [List.getD_eq_getElem?_getD, hn]
      rfl
    have np1 := np _ (List.getElem_mem il)
    rw [e0]
    refine ⟨_, rfl, _, rfl, _, rfl, l, _, _, nv ns[i], rfl, rfl, SqL.of (s1 _ _ hL), atI_nat (by rw [List.getElem?_map, hn]; rfl), _, rfl, by omega, by omega, fun C hCn => ?_⟩
    refine lc_range (lo := 0) (n := ((ns[i] : Nat) : Int).toNat) (fun j H2 => (∃ ys : List V, H2 C = some (.lst ys) ∧ ys.length = j ∧ ∀ (a : Nat) y, ys[a]? = some y → ∃ r, y = .ref r ∧ H2 r = some (.tup [nv i, nv a])) ∧ Same H' H2) ⟨⟨[], upd_same, rfl, fun (a : Nat) y h => by simp at h⟩, Same.new hCn⟩ ?_ ?_
    · rintro j H2 hj ⟨⟨ys, hY, yl, hE⟩, s2⟩
      refine ⟨rfl, ?_⟩
      have e1 : (0 : Int) + (j : Int) = ((j : Nat) : Int) := by omega
      rw [e1]
      refine ⟨_, rfl, _, rfl, (by show 2 ≤ sizeLine; decide), fun r hr => ?_⟩
      have nCr : C ≠ r := ne_of_none hY hr
      refine ⟨ys, by rw [upd_ne nCr]; exact hY, small1 (by omega), ⟨ys ++ [.ref r], upd_same, by rw [List.length_append, yl]; rfl, fun a y ha => ?_⟩, Same.put (Same.put s2 (Sx.Same.none s2 _ hr)) hCn⟩
      rcases get_snoc yl ha with ⟨q1, q2⟩ | ⟨q1, rfl⟩
      · obtain ⟨r', e, hr'⟩ := hE a y q2
        refine ⟨r', e, ?_⟩
        rw [upd_ne (ne_of hr' hY (by intro z; cases z)), upd_ne (ne_of_none hr' hr)]
        exact hr'
      · subst q1
        exact ⟨r, rfl, by rw [upd_ne nCr.symm, upd_same]; rfl⟩
    · rintro H2 ⟨⟨ys, hY, yl, hE⟩, s2⟩
      have hp2 := s2 _ _ hO.at_
      have o1 : (own (nN ns) i).length ≤ 6000 := by
        have := own_le (nN ns) (show i ≤ ns.length by omega)
        omega
      refine ⟨p, C, _, _, rfl, rfl, hp2, hY, ?_, fun p2 hp2' => ?_⟩
      · have := hO.len
        exact Nat.le_trans (show _ ≤ 100000 by omega) (by decide)
      · refine ⟨⟨p2, _, _, rfl, upd_same, ?_, fun a v q ha hb => ?_⟩, Same.put (fun b o e => s2 b o (s1 b o e)) ?_⟩
        · rw [List.length_append, own_succ, List.length_append, hO.len, yl, List.length_map, List.length_range, eN]
          omega
        · rw [own_succ] at hb
          by_cases ai : a < vs.length
          · rw [List.getElem?_append_left ai] at ha
            rw [List.getElem?_append_left (by rw [← hO.len]; exact ai)] at hb
            obtain ⟨r, e, hr⟩ := hO.el a v q ha hb
            exact ⟨r, e, by rw [upd_ne (ne_of_none (s2 _ _ hr) hp2')]; exact s2 _ _ hr⟩
          · rw [List.getElem?_append_right (by omega)] at ha
            rw [List.getElem?_append_right (by rw [← hO.len]; omega), ← hO.len] at hb
            obtain ⟨r, e, hr⟩ := hE _ v ha
            obtain ⟨h1, h2⟩ := List.getElem?_eq_some_iff.mp hb
            rw [List.getElem_map, List.getElem_range] at h2
            subst h2
            exact ⟨r, e, by rw [upd_ne (ne_of_none hr hp2')]; exact hr⟩
        · exact Sx.Same.none (fun b o e => s2 b o (s1 b o e)) _ hp2'
  · rintro σ' H' ⟨⟨p, vs, o2, rfl, hO⟩, s1⟩
    exact ⟨_, rfl, k p vs H' s1 hO⟩
abbrev nsLawMay : List Str := ["blocks", "counts", "at", "owners", "before", "kind"]
theorem scLawMay : FnScope nsLawMay ["blocks", "counts", "at"] (defScope sLawMay) := ⟨rfl, rfl, rfl, by decide +kernel, rfl, by decide +kernel, by decide +kernel⟩
theorem ok_law_may (t : T K mg) : Ok P w K mg base 2 "_law_may" ["blocks", "counts", "at"] spMay := by
  refine mkOk t.d_law_may t.g_law_may scLawMay (fun vs H Q E h => ?_) (fun _ _ _ _ _ _ us hl => match us, hl with | [_, _, _], _ => rfl) fun cdv A outer s H vs Q E hr h => ?_
  · obtain ⟨b, l, bs, ks, ns, n, y, rfl, _⟩ := h; rfl
  obtain ⟨b, l, bs, ks, ns, n, y, rfl, hB, hL, hC, kl, n1, n2, hy, k⟩ := h
  have hr1 : Room 1 _ := hr.mono (by decide)
  refine ⟨_, pss_cons (ps_set (i := 3) scLawMay.nd rfl (Or.inl rfl) (pe_ok (ok_law_owners t) hr1 rfl (pa_cons (pv 1) pa_nil)))
    (pss_cons (ps_set (i := 4) scLawMay.nd rfl (Or.inl rfl) (pe_ix ix_list (pv 3) (pe_op op_sub (pv 2) pe_int) (fun _ _ => rfl)))
    (pss_cons (ps_set (i := 5) scLawMay.nd rfl (Or.inl rfl) (pe_ix ix_tup (pe_ix ix_list (pv 0) (pe_ix ix_tup (pv 4) pe_int (fun _ _ => rfl)) (fun _ _ => rfl)) pe_int (fun _ _ => rfl)))
    (pss_cons (ps_if (PW.pt (pw_or (pt_cmpR op_eq (pv 2) (pe_callB call_len_seq rfl t.f_len boot_len (pa_cons (pv 3) pa_nil)) (nomark _)) (pw_or1 (pt_cmpR op_eq (pv 5) pe_str (nomark _)))))
      (pss_one (ps_ret pe_bl))
      pss_nil)
    (pss_cons (ps_if (pt_cmpR op_eq (pv 5) pe_str (nomark _))
      (pss_one (ps_ret pe_bl))
      pss_nil)
    (pss_cons (ps_if (pt_cmpR op_ne (pe_ix ix_tup (pe_ix ix_list (pv 3) (pv 2) (fun _ _ => rfl)) pe_int (fun _ _ => rfl)) (pe_ix ix_tup (pv 4) pe_int (fun _ _ => rfl)) (nomark _))
      (pss_one (ps_ret pe_bl))
      pss_nil)
    (pss_one (ps_ret (pe_and (pe_cmpR op_ne (pe_ix ix_tup (pe_ix ix_list (pv 3) (pv 2) (fun _ _ => rfl)) pe_int (fun _ _ => rfl)) pe_int (nomark _)) (pe_one (pe_cmpR op_ne (pe_ix ix_tup (pe_ix ix_list (pv 3) (pv 2) (fun _ _ => rfl)) pe_int (fun _ _ => rfl)) (pe_op op_sub (pe_ix ix_list (pv 1) (pe_ix ix_tup (pv 4) pe_int (fun _ _ => rfl)) (fun _ _ => rfl)) pe_int) (nomark _))))))))))), ?_⟩
  have tot := own_total ns
  refine ⟨_, rfl, l, ns, rfl, hL, by have := hC.len; omega, hC.pos, fun p ov H1 s1 hO => ?_⟩
  obtain ⟨⟨kk, j⟩, e1⟩ : ∃ q, (own (nN ns) ns.length)[n - 1]? = some q := ⟨_, List.getElem?_eq_getElem (by omega)⟩
  obtain ⟨k1, j1, i1⟩ := own_inv _ _ _ _ _ e1
  obtain ⟨r, er, hr'⟩ := hO.get e1
  have hB1 := hB.same s1
  have en : (n : Int) - 1 = ((n - 1 : Nat) : Int) := by omega
  have hk : ks[kk]? = some (ks[kk]'(by rw [← hC.len]; exact k1)) := List.getElem?_eq_getElem _
  have hnk : ns[kk]? = some (nN ns kk) := by
    unfold nN
    rw [List.getD_eq_getElem?_getD, List.getElem?_eq_getElem k1]
    rfl
  have hbv : bs[kk]? = some (bs[kk]'(by rw [hB.len, ← hC.len]; exact k1)) := List.getElem?_eq_getElem _
  obtain ⟨q, rest, e2, hq⟩ := hB1.el kk _ _ hbv hk
  rw [e2] at hbv
  have ekd : ks.getD kk "" = ks[kk]'(by rw [← hC.len]; exact k1) := by
    rw [List.getD_eq_getElem?_getD, hk]
    rfl
  have hbrk := hC.brk kk _ _ hk hnk
  revert hbrk
  generalize ks[kk]'(by rw [← hC.len]; exact k1) = kd at hk ekd hq
  intro hbrk
  refine ⟨_, rfl, _, rfl, _, _, rfl, rfl, p, _, _, .ref r, rfl, rfl, SqL.of hO.at_, by rw [en]; exact atI_nat er, ?_⟩
  refine ⟨_, rfl, _, rfl, r, _, _, nv kk, rfl, rfl, SqT.of hr', atI_nat (j := 0) rfl, b, _, _, .ref q, rfl, rfl, SqL.of hB1.at_, atI_nat hbv, q, _, _, .str kd, rfl, rfl, SqT.of hq, atI_nat (j := 0) rfl, ?_⟩
  refine ⟨_, rfl, _, rfl, p, _, rfl, .inl (SqL.of hO.at_), rfl, _, rfl, ?_⟩
  have elen : decide (nv n = V.int (ov.length : Nat)) = decide (n = ns.sum) := by
    rw [hO.len, tot]
    exact nv_eq _ _
  -- what is due
  have due_in : n ≠ ns.sum → y = mpB kd (nN ns kk) (j + 1) := fun h => by
    have q := partL_in e1 (ks := ks) (by omega)
    rw [show n - 1 + 1 = n by omega, hy, ekd] at q
    exact Option.some.inj q
  refine ite2 (fun h1 => ?_) (fun h1 => ?_)
  · refine iteT ?_
    have e : n = ns.sum := by
      have := elen
      exact of_decide_eq_true (this ▸ h1)
    have q := partL_end ks ns
    rw [tot, ← e, hy] at q
    rw [Option.some.inj q] at k
    exact k H1 s1
  have hne : n ≠ ns.sum := fun e => h1 (by
    have := decide_eq_true e
    rw [← elen] at this
    exact this)
  have yy := due_in hne
  refine ⟨_, rfl, rfl, _, rfl, ?_⟩
  refine ite2 (fun h2 => ?_) (fun h2 => ?_)
  · have e : kd = "break" := by simp at h2; exact h2
    have en1 := hbrk e
    have : y = true := by
      rw [yy, e, en1]
      have : j = 0 := by omega
      rw [this]
      decide +kernel
    rw [this] at k
    exact k H1 s1
  refine ⟨_, rfl, rfl, _, rfl, ?_⟩
  refine ite2 (fun h3 => ?_) (fun h3 => ?_)
  · have e : kd = "head" := by simp at h3; exact h3
    have : y = false := by
      rw [yy]
      unfold mpB
      rw [decide_eq_true e]
      rfl
    rw [this] at k
    exact k H1 s1
  have nh : kd ≠ "head" := by simp at h3; exact h3
  have yy2 : y = (decide (j + 1 = nN ns kk) || (decide (1 < j + 1) && decide (j + 1 + 1 < nN ns kk))) := by
    rw [yy]
    unfold mpB
    rw [decide_eq_false nh]
    rfl
  obtain ⟨k', j', e3, c1, c2⟩ := own_next e1 (by omega)
  rw [show n - 1 + 1 = n by omega] at e3
  obtain ⟨r2, er2, hr2⟩ := hO.get e3
  refine ⟨_, rfl, _, rfl, p, _, _, .ref r2, rfl, rfl, SqL.of hO.at_, atI_nat er2, r2, _, _, nv k', rfl, rfl, SqT.of hr2, atI_nat (j := 0) rfl, ?_⟩
  refine ⟨_, rfl, r, _, _, nv kk, rfl, rfl, SqT.of hr', atI_nat (j := 0) rfl, rfl, _, rfl, ?_⟩
  rw [nv_eq]
  by_cases lt : j + 1 < nN ns kk
  · obtain ⟨rfl, rfl⟩ := c1 lt
    rw [decide_eq_true (show k' = k' from rfl)]
    refine iteF ?_
    refine ⟨_, rfl, _, rfl, p, _, _, .ref r2, rfl, rfl, SqL.of hO.at_, atI_nat er2, r2, _, _, nv (j + 1), rfl, rfl, SqT.of hr2, atI_nat (j := 1) rfl, rfl, _, rfl, ?_⟩
    have e5 : decide (nv (j + 1) = V.int 1) = decide (j + 1 = 1) := nv_eq (j + 1) 1
    have ef : decide (j + 1 = nN ns k') = false := decide_eq_false (by omega)
    rw [ef, Bool.false_or] at yy2
    rw [e5]
    by_cases j0 : j + 1 = 1
    · rw [decide_eq_true j0]
      refine iteF ?_
      rw [decide_eq_false (by omega), Bool.false_and] at yy2
      rw [yy2] at k
      exact k H1 s1
    · rw [decide_eq_false j0]
      refine iteT ?_
      refine ⟨_, rfl, _, rfl, p, _, _, .ref r2, rfl, rfl, SqL.of hO.at_, atI_nat er2, r2, _, _, nv (j + 1), rfl, rfl, SqT.of hr2, atI_nat (j := 1) rfl, ?_⟩
      refine ⟨_, rfl, _, rfl, r, _, _, nv k', rfl, rfl, SqT.of hr', atI_nat (j := 0) rfl, l, _, _, nv (nN ns k'), rfl, rfl, SqL.of (s1 _ _ hL), atI_nat (by rw [List.getElem?_map, hnk]; rfl), _, _, rfl, rfl, rfl, ?_⟩
      have e6 : decide (nv (j + 1) = V.int (((nN ns k' : Nat) : Int) - 1)) = decide (j + 1 + 1 = nN ns k') := by
        rw [decide_eq_decide]
        constructor
        · intro z
          have := V.int.inj z
          omega
        · intro z
          show V.int _ = V.int _
          congr 1
          omega
      show Q (.bl (!decide (nv (j + 1) = V.int (((nN ns k' : Nat) : Int) - 1)))) H1
      rw [e6]
      have e7 : (!decide (j + 1 + 1 = nN ns k')) = y := by
        rw [yy2, decide_eq_true (show 1 < j + 1 by omega), Bool.true_and, ← decide_not, decide_eq_decide]
        omega
      rw [e7]
      exact k H1 s1
  · rw [decide_eq_false (c2 lt)]
    refine iteT ?_
    rw [decide_eq_true (show j + 1 = nN ns kk by omega), Bool.true_or] at yy2
    rw [yy2] at k
    exact k H1 s1
end
end Sx

set_option Elab.async false
set_option linter.all false
set_option maxRecDepth 100000
set_option maxHeartbeats 1000000
namespace Sx
open PySem PySem.Spec PyProof.Rows L2 SxA
/-! ### pages: what the class holds -/
abbrev offN (ns : List Nat) (k : Nat) : Nat := (own (nN ns) k).length
def stopU (ks : List Str) (ns : List Nat) (m e : Nat) : Bool := (List.range m).any fun k => decide (ks.getD k "" = "break") && decide (e = offN ns (k + 1))
abbrev stopB (ks : List Str) (ns : List Nat) (e : Nat) : Bool := stopU ks ns ns.length e
theorem stopU_succ (ks : List Str) (ns : List Nat) (m e : Nat) : stopU ks ns (m + 1) e = (stopU ks ns m e || (decide (ks.getD m "" = "break") && decide (e = offN ns (m + 1)))) := by
  unfold stopU
  rw [List.range_succ, List.any_append]
  simp
def parB (ks : List Str) (ns : List Nat) (e : Nat) : Bool := (partL ks ns).getD e false
theorem partL_len (ks : List Str) (ns : List Nat) : (partL ks ns).length = ns.sum + 1 := by
  unfold partL
  rw [List.length_set, List.length_cons, flatB_len, own_total]
theorem parB_get {ks : List Str} {ns : List Nat} {e : Nat} (h : e ≤ ns.sum) : (partL ks ns)[e]? = some (parB ks ns e) := by
  have := partL_len ks ns
  unfold parB
  rw [List.getD_eq_getElem?_getD, List.getElem?_eq_getElem (by omega)]
  rfl
def goE (p st : Nat → Bool) : List Nat → List Nat
  | [] => []
  | e :: r => (if p e = true then [e] else []) ++ (if st e = true then [] else goE p st r)
def cand (n most b : Nat) : List Nat := (List.range (min (b + most) n - b)).map fun i => b + 1 + i
def endsL (ks : List Str) (ns : List Nat) (most b : Nat) : List Nat := goE (parB ks ns) (stopB ks ns) (cand ns.sum most b)
def costN (ks : List Str) (ns : List Nat) (most b e : Nat) : Nat := if stopB ks ns e = true ∨ e = ns.sum then 0 else (most - (e - b)) ^ 2
theorem goE_mem {p st : Nat → Bool} : ∀ {l : List Nat} {e : Nat}, e ∈ goE p st l → e ∈ l ∧ p e = true
  | [], e, h => absurd h List.not_mem_nil
  | x :: r, e, h => by
    unfold goE at h
    rw [List.mem_append] at h
    rcases h with h | h
    · by_cases q : p x = true
      · rw [if_pos q, List.mem_singleton] at h
        rw [h]
        exact ⟨List.mem_cons_self, q⟩
      · rw [if_neg q] at h; exact absurd h List.not_mem_nil
    · by_cases q : st x = true
      · rw [if_pos q] at h; exact absurd h List.not_mem_nil
      · rw [if_neg q] at h
        exact ⟨List.mem_cons_of_mem _ (goE_mem h).1, (goE_mem h).2⟩
theorem ends_mem {ks : List Str} {ns : List Nat} {most b e : Nat} (h : e ∈ endsL ks ns most b) : b < e ∧ e ≤ b + most ∧ e ≤ ns.sum := by
  have := (goE_mem h).1
  unfold cand at this
  rw [List.mem_map] at this
  obtain ⟨i, hi, rfl⟩ := this
  rw [List.mem_range] at hi
  omega
theorem goE_len (p st : Nat → Bool) : ∀ l : List Nat, (goE p st l).length ≤ l.length
  | [] => Nat.le_refl _
  | x :: r => by
    unfold goE
    have := goE_len p st r
    rw [List.length_append, List.length_cons]
    split <;> split <;> simp <;> omega
theorem ends_len (ks : List Str) (ns : List Nat) (most b : Nat) : (endsL ks ns most b).length ≤ most := by
  have := goE_len (parB ks ns) (stopB ks ns) (cand ns.sum most b)
  unfold cand at this
  rw [List.length_map, List.length_range] at this
  unfold endsL cand
  omega
def pgF (most tot : Nat) (pl d : Addr) : List (Str × V) := [("most", .int (most : Int)), ("parting", .ref pl), ("total", .int (tot : Int)), ("behind_stops", .ref d)]
structure PgAt (K : PySem.W.Frag) (H : Hp) (x : Addr) (ks : List Str) (ns : List Nat) (most : Nat) (dx pl d : Addr) (kvs : List (L2.Key × V)) : Prop where
  ins : H x = some (.ins (He.ga K "Pages") dx (pgF most ns.sum pl d))
  par : H pl = some (.lst ((partL ks ns).map V.bl))
  dic : H d = some (.dK kvs)
  stp : ∀ e : Nat, (valV kvs (.inl (e : Int))).isSome = stopB ks ns e
theorem PgAt.same {K : PySem.W.Frag} {H H' : Hp} {x : Addr} {ks : List Str} {ns : List Nat} {most : Nat} {dx pl d : Addr} {kvs : List (L2.Key × V)} (h : PgAt K H x ks ns most dx pl d kvs) (s : Same H H') : PgAt K H' x ks ns most dx pl d kvs := ⟨s _ _ h.ins, s _ _ h.par, s _ _ h.dic, h.stp⟩
theorem lk_most (m n : Nat) (pl d : Addr) : (pgF m n pl d).lookup ("most" : Str) = some (.int (m : Int)) := rfl
theorem lk_parting (m n : Nat) (pl d : Addr) : (pgF m n pl d).lookup ("parting" : Str) = some (.ref pl) := rfl
theorem lk_total (m n : Nat) (pl d : Addr) : (pgF m n pl d).lookup ("total" : Str) = some (.int (n : Int)) := rfl
theorem lk_stops (m n : Nat) (pl d : Addr) : (pgF m n pl d).lookup ("behind_stops" : Str) = some (.ref d) := rfl
theorem pgF_put (m n : Nat) (pl d : Addr) : putF "behind_stops" (.ref d) (putF "total" (.int (n : Int)) (putF "parting" (.ref pl) (putF "most" (.int (m : Int)) []))) = pgF m n pl d := by
  rw [put_new "most" _ [] (by simp), put_new "parting" _ _ (by simp only [List.nil_append, List.mem_cons, List.not_mem_nil, or_false, forall_eq]; decide +kernel)]
  rw [put_new "total" _ _ (by simp only [List.nil_append, List.cons_append, List.mem_cons, List.not_mem_nil, or_false, forall_eq_or_imp, forall_eq]; decide +kernel)]
  rw [put_new "behind_stops" _ _ (by simp only [List.nil_append, List.cons_append, List.mem_cons, List.not_mem_nil, or_false, forall_eq_or_imp, forall_eq]; decide +kernel)]
  rfl
/-- a book's lines, as the program has them -/
def BkAt (H : Hp) (b l : Addr) (bs : List V) (ks : List Str) (ns : List Nat) : Prop := BlksAt H b bs ks ∧ H l = some (.lst (ns.map nv)) ∧ Counts ks ns ∧ ks.length ≤ 1000
theorem BkAt.same {H H' : Hp} {b l : Addr} {bs : List V} {ks : List Str} {ns : List Nat} (h : BkAt H b l bs ks ns) (s : Same H H') : BkAt H' b l bs ks ns := ⟨h.1.same s, s _ _ h.2.1, h.2.2.1, h.2.2.2⟩
def spPagesInit (K : PySem.W.Frag) : Sp := fun vs H Q _ => ∃ (x dx b l : Addr) (bs : List V) (ks : List Str) (ns : List Nat) (most : Nat), vs = [.ref x, .int ((most : Int) + 1), .ref b, .ref l] ∧ H x = some (.ins (He.ga K "Pages") dx []) ∧ BkAt H b l bs ks ns ∧
  ∀ H' pl d kvs, PgAt K H' x ks ns most dx pl d kvs → But x H H' → Q .non H'
def spEnds (K : PySem.W.Frag) : Sp := fun vs H Q _ => ∃ (x : Addr) (ks : List Str) (ns : List Nat) (most : Nat) (dx pl d : Addr) (kvs : List (L2.Key × V)) (b : Nat), vs = [.ref x, nv b] ∧ PgAt K H x ks ns most dx pl d kvs ∧ ns.sum ≤ 6000 ∧ most ≤ 1000 ∧ b ≤ 6000 ∧
  ∀ p H', H p = none → Same H H' → H' p = some (.lst ((endsL ks ns most b).map nv)) → Q (.ref p) H'
def spCost (K : PySem.W.Frag) : Sp := fun vs H Q _ => ∃ (x : Addr) (ks : List Str) (ns : List Nat) (most : Nat) (dx pl d : Addr) (kvs : List (L2.Key × V)) (b e : Nat), vs = [.ref x, nv b, nv e] ∧ PgAt K H x ks ns most dx pl d kvs ∧ most ≤ 1000 ∧ b ≤ e ∧ e ≤ b + most ∧ Q (nv (costN ks ns most b e)) H
section
variable {P : Program} {w : World} {K : PySem.W.Frag} {mg : Str → Option Value} {base : Heap}
abbrev nsPagesCost : List Str := ["self", "begin", "end"]
theorem scPagesCost : FnScope nsPagesCost ["self", "begin", "end"] (defScope sPagesCost) := ⟨rfl, rfl, rfl, by decide +kernel, rfl, by decide +kernel, by decide +kernel⟩
theorem met_Pages_cost (t : T K mg) : Met P w K mg base 1 "Pages" "cost" ["self", "begin", "end"] (spCost K) := by
  refine mkMet t.d_Pages_cost scPagesCost (fun vs H Q E h => ?_) (fun _ _ _ _ _ _ us hl => match us, hl with | [_, _, _], _ => rfl) fun cdv A outer s H vs Q E hr h => ?_
  · obtain ⟨x, ks, ns, most, dx, pl, d, kvs, b, e, rfl, _⟩ := h; rfl
  obtain ⟨x, ks, ns, most, dx, pl, d, kvs, b, e, rfl, hP, hm, be, em, k⟩ := h
  refine ⟨_, pss_cons (ps_if (PW.pt (pw_or (pt_cmp (pc_din (hu_of hr) (pv 2) (pe_fld (pv 0) rfl)) rfl) (pw_or1 (pt_cmpR op_eq (pv 2) (pe_fld (pv 0) rfl) (nomark _)))))
      (pss_one (ps_ret pe_int))
      pss_nil)
    (pss_one (ps_ret (pe_op op_pow (pe_op op_sub (pe_fld (pv 0) rfl) (pe_op op_sub (pv 2) (pv 1))) pe_int))), ?_⟩
  have zero : stopB ks ns e = true ∨ e = ns.sum → Q (.int 0) H := fun h => by
    unfold costN at k
    rw [if_pos h] at k
    exact k
  refine ⟨_, rfl, _, rfl, x, _, dx, _, _, rfl, hP.ins, t.c_Pages, t.n_Pages_behind_stops, lk_stops _ _ _ _, d, _, rfl, DGet.k (k := Sum.inl (e : Int)) hP.dic, _, rfl, ?_⟩
  rw [hP.stp]
  refine ite2 (fun h1 => iteT (zero (.inl h1))) (fun h1 => ?_)
  refine ⟨_, rfl, _, rfl, x, _, dx, _, _, rfl, hP.ins, t.c_Pages, t.n_Pages_total, lk_total _ _ _ _, rfl, _, rfl, ?_⟩
  have e2 : decide (nv e = V.int ((ns.sum : Nat) : Int)) = decide (e = ns.sum) := nv_eq _ _
  rw [e2]
  refine ite2 (fun h2 => zero (.inr (of_decide_eq_true h2))) (fun h2 => ?_)
  have h2' : e ≠ ns.sum := fun q => h2 (decide_eq_true q)
  unfold costN at k
  rw [if_neg (fun q => q.elim h1 h2')] at k
  refine ⟨_, rfl, x, _, dx, _, _, rfl, hP.ins, t.c_Pages, t.n_Pages_most, lk_most _ _ _ _, _, rfl, _, rfl, _, _, rfl, rfl, _, _, rfl, rfl, _, _, rfl, rfl, ⟨by decide, by decide, ?_⟩, ?_⟩
  · show ((most : Int) - ((e : Int) - (b : Int))).natAbs < 2 ^ 64
    omega
  · show Q (.int (((most : Int) - ((e : Int) - (b : Int))) ^ 2)) H
    have e3 : ((most : Int) - ((e : Int) - (b : Int))) ^ 2 = (((most - (e - b)) ^ 2 : Nat) : Int) := by
      rw [Int.natCast_pow]
      congr 1
      omega
    rw [e3]
    exact k
abbrev nsPagesEndsFrom : List Str := ["self", "begin", "found", "end"]
theorem scPagesEndsFrom : FnScope nsPagesEndsFrom ["self", "begin"] (defScope sPagesEnds_from) := ⟨rfl, rfl, rfl, by decide +kernel, rfl, by decide +kernel, by decide +kernel⟩
theorem cand_drop {n most b i : Nat} (h : i < min (b + most) n - b) : (cand n most b).drop i = (b + 1 + i) :: (cand n most b).drop (i + 1) := by
  have hl : i < (cand n most b).length := by unfold cand; rw [List.length_map, List.length_range]; exact h
  rw [List.drop_eq_getElem_cons hl]
  congr 1
  have e : (cand n most b)[i]? = some (b + 1 + i) := by
    unfold cand
    rw [List.getElem?_map, List.getElem?_range h]
    rfl
  exact (List.getElem?_eq_some_iff.mp e).2
theorem cand_len (n most b : Nat) : (cand n most b).length = min (b + most) n - b := by
  unfold cand; rw [List.length_map, List.length_range]
theorem met_Pages_ends_from (t : T K mg) : Met P w K mg base 1 "Pages" "ends_from" ["self", "begin"] (spEnds K) := by
  refine mkMet t.d_Pages_ends_from scPagesEndsFrom (fun vs H Q E h => ?_) (fun _ _ _ _ _ _ us hl => match us, hl with | [_, _], _ => rfl) fun cdv A outer s H vs Q E hr h => ?_
  · obtain ⟨x, ks, ns, most, dx, pl, d, kvs, b, rfl, _⟩ := h; rfl
  obtain ⟨x, ks, ns, most, dx, pl, d, kvs, b, rfl, hP, hn, hm, hb, k⟩ := h
  refine ⟨_, pss_cons (ps_set (i := 2) scPagesEndsFrom.nd rfl (Or.inl rfl) (pe_lst pa_nil))
    (pss_cons (ps_for PassesOwn.never rfl (pi_range2 rfl t.f_range (pa_cons (pe_op op_add (pv 1) pe_int) (pa_cons (pe_op op_add (pe_callB (call_min2 rfl) rfl t.f_min (by decide +kernel) (pa_cons (pe_op op_add (pv 1) (pe_fld (pv 0) rfl)) (pa_cons (pe_fld (pv 0) rfl) pa_nil))) pe_int) pa_nil))) (pg_name (i := 3) scPagesEndsFrom.nd rfl (Or.inl rfl))
      (C8.pss_cut (ps_if (pt_val (pe_ix ix_list (pe_fld (pv 0) rfl) (pv 3) (fun _ _ => rfl)))
      (pss_one (ps_expr (pe_bm PySem.F.plainAttrs_list PySem.F.slot_list_append PySem.F.type_list_append mt_append (pv 2) (pa_cons (pv 3) pa_nil))))
      pss_nil)
    (pss_one (ps_if (pt_cmp (pc_din (hu_of hr) (pv 3) (pe_fld (pv 0) rfl)) rfl)
      (pss_one ps_break)
      pss_nil))))
    (pss_one (ps_ret (pv 2)))), ?_⟩
  refine ⟨(by show 0 ≤ sizeLine; decide), fun D hD => ?_⟩
  have hP0 : PgAt K (upd H D (.lst [])) x ks ns most dx pl d kvs := hP.same (Same.new hD)
  refine ⟨_, rfl, _, _, rfl, rfl, _, rfl, _, rfl, x, _, dx, _, _, rfl, hP0.ins, t.c_Pages, t.n_Pages_most, lk_most _ _ _ _, _, _, rfl, rfl, _, rfl, x, _, dx, _, _, rfl, hP0.ins, t.c_Pages, t.n_Pages_total, lk_total _ _ _ _, _, _, rfl, _, _, rfl, rfl, _, _, rfl, ⟨by omega, by omega, ?_, ?_⟩, ?_⟩
  · split <;> omega
  · split <;> omega
  have eL : ((if ((ns.sum : Nat) : Int) < (b : Int) + (most : Int) then ((ns.sum : Nat) : Int) else (b : Int) + (most : Int)) + 1 - ((b : Int) + 1)).toNat = min (b + most) ns.sum - b := by
    split <;> omega
  rw [eL]
  refine for_range (lo := (b : Int) + 1) (n := min (b + most) ns.sum - b) (fun i σ' H' => (∃ (acc : List Nat) (o3 : Option V), σ' = [some (.ref x), some (nv b), some (.ref D), o3] ∧ H' D = some (.lst (acc.map nv)) ∧ acc.length ≤ i ∧ acc ++ goE (parB ks ns) (stopB ks ns) ((cand ns.sum most b).drop i) = endsL ks ns most b) ∧ Same H H') ?_ ?_ ?_
  · exact ⟨⟨[], none, rfl, upd_same, Nat.le_refl _, rfl⟩, Same.new hD⟩
  · rintro i σ' H' hi ⟨⟨acc, o3, rfl, hA, al, hE⟩, s1⟩
    have hP1 := hP.same s1
    rw [cand_drop hi] at hE
    unfold goE at hE
    have ee : (b : Int) + 1 + (i : Int) = ((b + 1 + i : Nat) : Int) := by omega
    rw [ee]
    refine ⟨fun σ2 H2 => (∃ (acc2 : List Nat), σ2 = [some (.ref x), some (nv b), some (.ref D), some (nv (b + 1 + i))] ∧ H2 D = some (.lst (acc2.map nv)) ∧ acc2.length ≤ i + 1 ∧ acc2 ++ (if stopB ks ns (b + 1 + i) = true then [] else goE (parB ks ns) (stopB ks ns) ((cand ns.sum most b).drop (i + 1))) = endsL ks ns most b) ∧ Same H H2, ?_, ?_⟩
    · refine ⟨_, rfl, x, _, dx, _, _, rfl, hP1.ins, t.c_Pages, t.n_Pages_parting, lk_parting _ _ _ _, _, rfl, pl, _, _, .bl (parB ks ns (b + 1 + i)), rfl, rfl, SqL.of hP1.par, atI_nat (by rw [List.getElem?_map, parB_get (by omega)]; rfl), _, rfl, ?_⟩
      refine ite2 (fun h1 => ?_) (fun h1 => ?_)
      · rw [if_pos h1, ← List.append_assoc] at hE
        refine ⟨_, rfl, .inl ⟨rfl, _, SqL.of hA⟩, _, rfl, D, _, _, rfl, rfl, hA, (by rw [List.length_map]; exact small1 (by omega)), ⟨acc ++ [b + 1 + i], rfl, by rw [upd_same, List.map_append]; rfl, by rw [List.length_append]; exact Nat.succ_le_succ al, hE⟩, Same.put s1 hD⟩
      · rw [if_neg h1, List.nil_append] at hE
        exact ⟨⟨acc, rfl, hA, by omega, hE⟩, s1⟩
    · rintro σ2 H2 ⟨⟨acc2, rfl, hA2, al2, hE2⟩, s2⟩
      have hP2 := hP.same s2
      refine ⟨_, rfl, _, rfl, x, _, dx, _, _, rfl, hP2.ins, t.c_Pages, t.n_Pages_behind_stops, lk_stops _ _ _ _, d, _, rfl, DGet.k (k := Sum.inl ((b + 1 + i : Nat) : Int)) hP2.dic, _, rfl, ?_⟩
      rw [hP2.stp]
      refine ite2 (fun h1 => ?_) (fun h1 => ?_)
      · rw [if_pos h1, List.append_nil] at hE2
        exact ⟨_, rfl, k D H2 hD s2 (by rw [hA2, hE2])⟩
      · rw [if_neg h1] at hE2
        exact ⟨⟨acc2, _, rfl, hA2, al2, hE2⟩, s2⟩
  · rintro σ' H' ⟨⟨acc, o3, rfl, hA, al, hE⟩, s1⟩
    rw [List.drop_of_length_le (by rw [cand_len]; exact Nat.le_refl _)] at hE
    unfold goE at hE
    rw [List.append_nil] at hE
    exact ⟨_, rfl, k D H' hD s1 (by rw [hA, hE])⟩
end
end Sx

set_option Elab.async false
set_option linter.all false
set_option maxRecDepth 100000
set_option maxHeartbeats 1000000
namespace Sx
open PySem PySem.Spec PyProof.Rows L2 SxA
theorem BlksAt.putI {H : Hp} {b x C dx : Addr} {fs : List (Str × V)} {o : HO} {bs : List V} {ks : List Str} (h : BlksAt H b bs ks) (hx : H x = some (.ins C dx fs)) : BlksAt (upd H x o) b bs ks :=
  ⟨by rw [upd_ne (ne_of h.at_ hx (by intro z; cases z))]; exact h.at_, h.len, fun i v kd a c => by
    obtain ⟨q, rest, e, hq⟩ := h.el i v kd a c
    exact ⟨q, rest, e, by rw [upd_ne (ne_of hq hx (by intro z; cases z))]; exact hq⟩⟩
theorem BkAt.putI {H : Hp} {b l x C dx : Addr} {fs : List (Str × V)} {o : HO} {bs : List V} {ks : List Str} {ns : List Nat} (h : BkAt H b l bs ks ns) (hx : H x = some (.ins C dx fs)) : BkAt (upd H x o) b l bs ks ns :=
  ⟨h.1.putI hx, by rw [upd_ne (ne_of h.2.1 hx (by intro z; cases z))]; exact h.2.1, h.2.2.1, h.2.2.2⟩
theorem BkAt.putD {H : Hp} {b l x : Addr} {kv : List (L2.Key × V)} {o : HO} {bs : List V} {ks : List Str} {ns : List Nat} (h : BkAt H b l bs ks ns) (hx : H x = some (.dK kv)) : BkAt (upd H x o) b l bs ks ns :=
  ⟨⟨by rw [upd_ne (ne_of h.1.at_ hx (by intro z; cases z))]; exact h.1.at_, h.1.len, fun i v kd a c => by
    obtain ⟨q, rest, e, hq⟩ := h.1.el i v kd a c
    exact ⟨q, rest, e, by rw [upd_ne (ne_of hq hx (by intro z; cases z))]; exact hq⟩⟩, by rw [upd_ne (ne_of h.2.1 hx (by intro z; cases z))]; exact h.2.1, h.2.2.1, h.2.2.2⟩
theorem pgF_put2 {m n : Nat} {z s : Int} (pl d : Addr) (hm : z = (m : Int)) (hs : s = (n : Int)) : putF "behind_stops" (.ref d) (putF "total" (.int s) (putF "parting" (.ref pl) (putF "most" (.int z) []))) = pgF m n pl d := by
  subst hm hs
  exact pgF_put m n pl d
theorem But.same2 {a : Addr} {H H1 H2 : Hp} (b : But a H H1) (s : Same H1 H2) : But a H H2 := fun c o e n => s c o (b c o e n)
section
variable {P : Program} {w : World} {K : PySem.W.Frag} {mg : Str → Option Value} {base : Heap}
abbrev nsPagesInit : List Str := ["self", "height", "blocks", "lines", "at", "block", "many"]
theorem scPagesInit : FnScope nsPagesInit ["self", "height", "blocks", "lines"] (defScope sPagesInit) := ⟨rfl, rfl, rfl, by decide +kernel, rfl, by decide +kernel, by decide +kernel⟩
theorem met_Pages_init (t : T K mg) : Met P w K mg base 3 "Pages" "__init__" ["self", "height", "blocks", "lines"] (spPagesInit K) := by
  refine mkMet t.d_Pages_init scPagesInit (fun vs H Q E h => ?_) (fun _ _ _ _ _ _ us hl => match us, hl with | [_, _, _, _], _ => rfl) fun cdv A outer s H vs Q E hr h => ?_
  · obtain ⟨x, dx, b, l, bs, ks, ns, most, rfl, _⟩ := h; rfl
  obtain ⟨x, dx, b, l, bs, ks, ns, most, rfl, hx, hB, k⟩ := h
  have hr2 : Room 2 _ := hr.mono (by decide)
  refine ⟨_, pss_cons (ps_fld (pv 0) (pe_op op_sub (pv 1) pe_int) rfl)
    (pss_cons (ps_fld (pv 0) (pe_ok (ok_parting_places t) hr2 rfl (pa_cons (pv 2) (pa_cons (pv 3) pa_nil))) rfl)
    (pss_cons (ps_fld (pv 0) (pe_op op_sub (pe_callB call_len_seq rfl t.f_len boot_len (pa_cons (pe_fld (pv 0) rfl) pa_nil)) pe_int) rfl)
    (pss_cons (ps_fld (pv 0) pe_dnewK rfl)
    (pss_cons (ps_set (i := 4) scPagesInit.nd rfl (Or.inl rfl) pe_int)
    (pss_one (ps_for PassesOwn.never rfl (pi_zip (by rfl) t.f_zip (pa_cons (pv 2) (pa_cons (pv 3) pa_nil))) (pg_tup rfl (pgs_cons (pg_name (i := 5) scPagesInit.nd rfl (Or.inl rfl)) (pgs_cons (pg_name (i := 6) scPagesInit.nd rfl (Or.inl rfl)) pgs_nil)))
      (pss_cons (ps_aug (i := 4) scPagesInit.nd rfl (Or.inl rfl) (pe_callB (call_max2 rfl) rfl t.f_max boot_max (pa_cons (pv 6) (pa_cons pe_int pa_nil))) ip_add)
    (pss_one (ps_if (pt_cmpR op_eq (pe_ix ix_tup (pv 5) pe_int (fun _ _ => rfl)) pe_str (nomark _))
      (pss_one (ps_dput (hu_of hr) (pe_fld (pv 0) rfl) (pv 4) pe_bl rfl))
      pss_nil))))))))), ?_⟩
  have l0 : ([] : List (Str × V)).length ≤ 0 := Nat.le_refl _
  refine ⟨_, rfl, _, _, rfl, rfl, _, rfl, x, _, dx, [], rfl, hx, t.c_Pages, t.n_Pages_most, (by decide), ?_⟩
  have hB1 := hB.putI (o := .ins (He.ga K "Pages") dx (putF "most" (.int ((most : Int) + 1 - 1)) [])) hx
  have B1 : But x H (upd H x (.ins (He.ga K "Pages") dx (putF "most" (.int ((most : Int) + 1 - 1)) []))) := But.put _ _ _
  refine ⟨_, rfl, _, rfl, b, l, bs, ks, ns, rfl, hB1.1, hB1.2.1, hB1.2.2.1, hB1.2.2.2, fun pl H2 hpl s2 hpar => ?_⟩
  have hx2 := s2 _ _ upd_same
  have B2 := B1.same2 s2
  refine ⟨_, rfl, x, _, dx, _, rfl, hx2, t.c_Pages, t.n_Pages_parting, (Nat.lt_of_le_of_lt (len_put_lt l0) (by decide)), ?_⟩
  have hB3 := (hB1.same s2).putI (o := .ins (He.ga K "Pages") dx (putF "parting" (.ref pl) (putF "most" (.int ((most : Int) + 1 - 1)) []))) hx2
  have npl : pl ≠ x := ne_of hpar hx2 (by intro z; cases z)
  have plen : (((partL ks ns).map V.bl).length : Int) - 1 = ((ns.sum : Nat) : Int) := by
    rw [List.length_map]
    unfold partL
    rw [List.length_set, List.length_cons, flatB_len, own_total]
    omega
  have hpar3 : (upd H2 x (.ins (He.ga K "Pages") dx (putF "parting" (.ref pl) (putF "most" (.int ((most : Int) + 1 - 1)) [])))) pl = some (.lst ((partL ks ns).map V.bl)) := by rw [upd_ne npl]; exact hpar
  refine ⟨_, rfl, x, _, dx, _, _, rfl, upd_same, t.c_Pages, t.n_Pages_parting, rfl, pl, _, rfl, .inl (SqL.of hpar3), _, _, rfl, rfl, _, rfl, x, _, dx, _, rfl, upd_same, t.c_Pages, t.n_Pages_total, (Nat.lt_of_le_of_lt (len_put_lt (len_put_lt l0)) (by decide)), ?_⟩
  have plenV : ((fun i j : Int => V.int (i - j)) ((((partL ks ns).map V.bl).length : Nat) : Int) 1) = V.int ((ns.sum : Nat) : Int) := congrArg V.int plen
  rw [plenV]
  have hB4 := hB3.putI (o := .ins (He.ga K "Pages") dx (putF "total" (.int ((ns.sum : Nat) : Int)) (putF "parting" (.ref pl) (putF "most" (.int ((most : Int) + 1 - 1)) [])))) upd_same
  intro d hd
  have ndx : d ≠ x := fun e => by rw [e, upd_same] at hd; cases hd
  refine ⟨_, rfl, x, _, dx, _, rfl, (by rw [upd_ne ndx.symm]; exact upd_same), t.c_Pages, t.n_Pages_behind_stops, (Nat.lt_of_le_of_lt (len_put_lt (len_put_lt (len_put_lt l0))) (by decide)), ?_⟩
  have hB5 := (hB4.same (Same.new (o := .dK []) hd)).putI (o := .ins (He.ga K "Pages") dx (putF "behind_stops" (.ref d) (putF "total" (.int ((ns.sum : Nat) : Int)) (putF "parting" (.ref pl) (putF "most" (.int ((most : Int) + 1 - 1)) []))))) (by rw [upd_ne ndx.symm]; exact upd_same)
  have hd2 : H2 d = none := by rw [upd_ne ndx, upd_ne ndx] at hd; exact hd
  have hl : bs.length = (ns.map nv).length := by rw [List.length_map, hB.2.2.1.len, hB.1.len]
  have nl : ns.length ≤ 1000 := by rw [hB.2.2.1.len]; exact hB.2.2.2
  refine ⟨_, rfl, _, rfl, b, l, bs, ns.map nv, rfl, SqL.of hB5.1.at_, SqL.of hB5.2.1, ?_⟩
  refine RZ.for_zipL (K := K) (a := b) (b := l) (xs := bs) (ys := ns.map nv) hl (fun i σ' H' => (∃ o5 o6 : Option V, σ' = [some (.ref x), some (.int ((most : Int) + 1)), some (.ref b), some (.ref l), some (nv (offN ns i)), o5, o6]) ∧
    (∃ kvs, H' d = some (.dK kvs) ∧ kvs.length ≤ i ∧ ∀ e : Nat, (valV kvs (.inl (e : Int))).isSome = stopU ks ns i e) ∧ H' x = some (.ins (He.ga K "Pages") dx (pgF most ns.sum pl d)) ∧ H' pl = some (.lst ((partL ks ns).map V.bl)) ∧ BkAt H' b l bs ks ns ∧ But x H H') ?_ (fun i σ' H' p => ⟨SqL.of p.2.2.2.2.1.1.at_, SqL.of p.2.2.2.2.1.2.1⟩) ?_ ?_
  · refine ⟨⟨_, _, rfl⟩, ⟨[], ?_, Nat.le_refl _, fun e => rfl⟩, ?_, ?_, hB5, fun c o e n => ?_⟩
    · rw [upd_ne ndx]
      exact upd_same
    · rw [← pgF_put2 pl d (show (most : Int) + 1 - 1 = (most : Int) by omega) rfl]
      exact upd_same
    · rw [upd_ne npl, upd_ne (ne_of_none hpar hd2), upd_ne npl, upd_ne npl]
      exact hpar
    · have q := B2 c o e n
      rw [upd_ne n, upd_ne (ne_of_none q hd2), upd_ne n, upd_ne n]
      exact q
  · rintro i u v T σ' H' hu hv ⟨⟨o5, o6, rfl⟩, ⟨kvs, hd', kl, hk⟩, hx', hp', hB', B'⟩ hT
    have il : i < ns.length := by
      have := (List.getElem?_eq_some_iff.mp hv).1
      rw [List.length_map] at this
      exact this
    have ilk : i < ks.length := by rw [← hB.2.2.1.len]; exact il
    have hn : ns[i]? = some ns[i] := List.getElem?_eq_getElem il
    have hkk : ks[i]? = some ks[i] := List.getElem?_eq_getElem ilk
    have ev : v = nv ns[i] := by
      rw [List.getElem?_map, hn] at hv
      exact (Option.some.inj hv).symm
    subst ev
    obtain ⟨q, rest, rfl, hq⟩ := hB'.1.el i u _ hu hkk
    have eN : nN ns i = ns[i] := by
      unfold nN
      rw [List.getD_eq_getElem?_getD, hn]
      rfl
    have eK : ks.getD i "" = ks[i] := by
      rw [List.getD_eq_getElem?_getD, hkk]
      rfl
    have eo : offN ns (i + 1) = offN ns i + ns[i] := by
      show (own (nN ns) (i + 1)).length = _
      rw [own_mono, eN]
    have sT : Same H' (upd H' T (.tup [.ref q, nv ns[i]])) := Same.new hT
    have ea : V.int (((offN ns i : Nat) : Int) + ((ns[i] : Nat) : Int)) = nv (offN ns (i + 1)) := by
      rw [eo]
      rfl
    refine ⟨T, _, rfl, SqT.of upd_same, rfl, _, _, rfl, _, _, rfl, rfl, ?_⟩
    refine ⟨_, rfl, _, rfl, _, _, rfl, _, _, rfl, rfl, ?_⟩
    rw [if_neg (show ¬ ((0 : Int) > ((ns[i] : Nat) : Int)) by omega)]
    refine ⟨_, rfl, q, _, _, _, rfl, rfl, SqT.of (sT _ _ hq), atI_nat (j := 0) rfl, rfl, _, rfl, ?_⟩
    have st := stopU_succ ks ns i
    rw [eK] at st
    refine ite2 (fun h1 => ?_) (fun h1 => ?_)
    · have ek : ks[i] = "break" := by simp at h1; exact h1
      refine ⟨_, rfl, x, _, dx, _, _, rfl, sT _ _ hx', t.c_Pages, t.n_Pages_behind_stops, lk_stops _ _ _ _, _, rfl, d, _, rfl, DPut.k (k := Sum.inl (((offN ns i : Nat) : Int) + ((ns[i] : Nat) : Int))) (sT _ _ hd') (small1 (by omega)), ?_⟩
      have hdT := sT _ _ hd'
      refine ⟨⟨_, _, by rw [← ea]; rfl⟩, ⟨_, upd_same, Nat.le_trans (length_putK _ _ _) (Nat.succ_le_succ kl), fun e => ?_⟩, ?_, ?_, (hB'.same sT).putD hdT, fun c o e n => ?_⟩
      · rw [valV_put, st, decide_eq_true ek, Bool.true_and]
        by_cases ee : e = offN ns (i + 1)
        · rw [if_pos (by rw [ee, eo]; rfl), decide_eq_true ee, Bool.or_true]
          rfl
        · rw [if_neg (fun z => ee (by have := Sum.inl.inj z; rw [eo]; omega)), decide_eq_false ee, Bool.or_false]
          exact hk e
      · rw [upd_ne (ne_of (sT _ _ hx') hdT (by intro z; cases z))]
        exact sT _ _ hx'
      · rw [upd_ne (ne_of (sT _ _ hp') hdT (by intro z; cases z))]
        exact sT _ _ hp'
      · have q1 := sT _ _ (B' c o e n)
        have nd : c ≠ d := fun z => by
          have q2 := B2 c o e n
          rw [z, hd2] at q2
          cases q2
        rw [upd_ne nd]
        exact q1
    · have ek : ks[i] ≠ "break" := by simp at h1; exact h1
      refine ⟨⟨_, _, by rw [← ea]; rfl⟩, ⟨kvs, sT _ _ hd', by omega, fun e => ?_⟩, sT _ _ hx', sT _ _ hp', hB'.same sT, B'.same2 sT⟩
      rw [st, decide_eq_false ek, Bool.false_and, Bool.or_false]
      exact hk e
  · rintro σ' H' ⟨_, ⟨kvs, hd', kl, hk⟩, hx', hp', hB', B'⟩
    rw [hl, List.length_map] at hk
    exact k H' pl d kvs ⟨hx', hp', hd', hk⟩ B'
end
end Sx

set_option Elab.async false
set_option linter.all false
set_option maxRecDepth 100000
set_option maxHeartbeats 1000000
namespace Sx
open PySem PySem.Spec PyProof.Rows L2 SxA
theorem inV_ints (z : Int) (l : List Int) : inV (.int z) (l.map V.int) = decide (z ∈ l) := by
  unfold inV
  rw [List.any_map]
  induction l with
  | nil => rfl
  | cons a r ih =>
    rw [List.any_cons, ih]
    show ((a == z) || decide (z ∈ r)) = _
    by_cases h : z = a
    · subst h; simp
    · have h2 : ¬ a = z := fun q => h q.symm
      simp [h, h2]
theorem nv_ints (l : List Nat) : l.map nv = (l.map fun n : Nat => (n : Int)).map V.int := by rw [List.map_map]; rfl
theorem flat_ints (l : List Int) : (l.map V.int).all flatV = true := by
  rw [List.all_map]
  exact List.all_eq_true.mpr fun _ _ => rfl
theorem atI_m1 {α : Type} {xs : List α} {v : α} (h : xs[xs.length - 1]? = some v) : atI xs (-1) = some v := by
  have hl := (List.getElem?_eq_some_iff.mp h).1
  unfold atI ixN
  rw [if_neg (by decide), if_pos (by omega)]
  show xs[((-1 : Int) + (xs.length : Int)).toNat]? = some v
  rw [show ((-1 : Int) + (xs.length : Int)).toNat = xs.length - 1 by omega]
  exact h
/-! ### what is judged -/
def begAt (es : List Int) : Nat → Nat
  | 0 => 0
  | i + 1 => (es.getD i 0).toNat
def inE (ks : List Str) (ns : List Nat) (most b : Nat) (e : Int) : Bool := decide (e ∈ (endsL ks ns most b).map fun n : Nat => (n : Int))
def allU (ks : List Str) (ns : List Nat) (most : Nat) (es : List Int) (m : Nat) : Bool := (List.range m).all fun i => inE ks ns most (begAt es i) (es.getD i 0)
def allB (ks : List Str) (ns : List Nat) (most : Nat) (es : List Int) : Bool := allU ks ns most es es.length && decide (begAt es es.length = ns.sum)
def okP (ks : List Str) (ns : List Nat) (most : Nat) (ps : List Int) (b e : Nat) : Bool := decide (ps.getD b 0 ≤ (costN ks ns most b e : Int) + ps.getD e 0)
def lowB (ks : List Str) (ns : List Nat) (most : Nat) (ps : List Int) : Bool := (List.range ns.sum).all fun b => (endsL ks ns most b).all (okP ks ns most ps b)
def rchB (ks : List Str) (ns : List Nat) (most : Nat) (es ps : List Int) : Bool := (List.range es.length).all fun i => decide (ps.getD (begAt es i) 0 = (costN ks ns most (begAt es i) (es.getD i 0).toNat : Int) + ps.getD (es.getD i 0).toNat 0)
def accB (ks : List Str) (ns : List Nat) (most : Nat) (es ps : List Int) : Bool := decide (ps.length = ns.sum + 1) && (decide (ps.getD (ps.length - 1) 0 = 0) && (allB ks ns most es && (lowB ks ns most ps && rchB ks ns most es ps)))
theorem allU_succ (ks : List Str) (ns : List Nat) (most : Nat) (es : List Int) (m : Nat) : allU ks ns most es (m + 1) = (allU ks ns most es m && inE ks ns most (begAt es m) (es.getD m 0)) := by
  unfold allU
  rw [List.range_succ, List.all_append]
  simp
theorem inE_nat {ks : List Str} {ns : List Nat} {most b : Nat} {e : Int} (h : inE ks ns most b e = true) : ∃ n : Nat, e = n ∧ n ∈ endsL ks ns most b := by
  have := of_decide_eq_true h
  rw [List.mem_map] at this
  obtain ⟨n, hn, e⟩ := this
  exact ⟨n, e.symm, hn⟩
theorem allU_get {ks : List Str} {ns : List Nat} {most : Nat} {es : List Int} {m i : Nat} (h : allU ks ns most es m = true) (hi : i < m) : inE ks ns most (begAt es i) (es.getD i 0) = true := by
  unfold allU at h
  rw [List.all_eq_true] at h
  exact h i (List.mem_range.mpr hi)
theorem getD_of {es : List Int} {i : Nat} {x : Int} (h : es[i]? = some x) : es.getD i 0 = x := by
  rw [List.getD_eq_getElem?_getD, h]
  rfl
def spAreAll (K : PySem.W.Frag) : Sp := fun vs H Q _ => ∃ (x : Addr) (ks : List Str) (ns : List Nat) (most : Nat) (dx pl d : Addr) (kvs : List (L2.Key × V)) (a : Addr) (es : List Int), vs = [.ref x, .ref a] ∧ PgAt K H x ks ns most dx pl d kvs ∧ ns.sum ≤ 6000 ∧ most ≤ 1000 ∧ H a = some (.lst (es.map V.int)) ∧
  ∀ H', Same H H' → Q (.bl (allB ks ns most es)) H'
def spAreLow (K : PySem.W.Frag) : Sp := fun vs H Q _ => ∃ (x : Addr) (ks : List Str) (ns : List Nat) (most : Nat) (dx pl d : Addr) (kvs : List (L2.Key × V)) (a : Addr) (ps : List Int), vs = [.ref x, .ref a] ∧ PgAt K H x ks ns most dx pl d kvs ∧ ns.sum ≤ 6000 ∧ most ≤ 1000 ∧ H a = some (.lst (ps.map V.int)) ∧ ps.length = ns.sum + 1 ∧
  ∀ H', Same H H' → Q (.bl (lowB ks ns most ps)) H'
section
variable {P : Program} {w : World} {K : PySem.W.Frag} {mg : Str → Option Value} {base : Heap}
abbrev nsPagesAreAll : List Str := ["self", "ends", "begin", "end"]
theorem scPagesAreAll : FnScope nsPagesAreAll ["self", "ends"] (defScope sPagesAre_all) := ⟨rfl, rfl, rfl, by decide +kernel, rfl, by decide +kernel, by decide +kernel⟩
theorem met_Pages_are_all (t : T K mg) : Met P w K mg base 2 "Pages" "are_all" ["self", "ends"] (spAreAll K) := by
  refine mkMet t.d_Pages_are_all scPagesAreAll (fun vs H Q E h => ?_) (fun _ _ _ _ _ _ us hl => match us, hl with | [_, _], _ => rfl) fun cdv A outer s H vs Q E hr h => ?_
  · obtain ⟨x, ks, ns, most, dx, pl, d, kvs, a, es, rfl, _⟩ := h; rfl
  obtain ⟨x, ks, ns, most, dx, pl, d, kvs, a, es, rfl, hP, hn, hm, ha, k⟩ := h
  have hr1 : Room 1 _ := hr.mono (by decide)
  refine ⟨_, pss_cons (ps_set (i := 2) scPagesAreAll.nd rfl (Or.inl rfl) pe_int)
    (pss_cons (ps_for PassesOwn.never rfl (pi_list (pv 1)) (pg_name (i := 3) scPagesAreAll.nd rfl (Or.inl rfl))
      (pss_cons (ps_if (pt_cmpR op_notIn_seq (pv 3) (pe_met (met_Pages_ends_from t) t.c_Pages t.k_Pages_ends_from hr1 (pv 0) (pa_cons (pv 2) pa_nil)) (by rfl))
      (pss_one (ps_ret pe_bl))
      pss_nil)
    (pss_one (ps_set (i := 2) scPagesAreAll.nd rfl (Or.inl rfl) (pv 3)))))
    (pss_one (ps_ret (pe_cmpR op_eq (pv 2) (pe_fld (pv 0) rfl) (nomark _))))), ?_⟩
  refine ⟨_, rfl, a, rfl, ⟨_, SqL.of ha⟩, ?_⟩
  refine for_list (K := K) (a := a) (xs := es.map V.int) (fun i σ' H' => (∃ o3 : Option V, σ' = [some (.ref x), some (.ref a), some (nv (begAt es i)), o3]) ∧ allU ks ns most es i = true ∧ begAt es i ≤ 6000 ∧ Same H H') ⟨⟨none, rfl⟩, rfl, Nat.zero_le _, Same.refl _⟩ (fun i σ' H' _ p => SqL.of (p.2.2.2 _ _ ha)) ?_ ?_
  · rintro i v σ' H' hv ⟨⟨o3, rfl⟩, hU, hb, s1⟩
    have il : i < es.length := by
      have := (List.getElem?_eq_some_iff.mp hv).1
      rw [List.length_map] at this
      exact this
    have he : es[i]? = some es[i] := List.getElem?_eq_getElem il
    have hg := getD_of he
    obtain rfl : v = .int es[i] := by
      rw [List.getElem?_map, he] at hv
      exact (Option.some.inj hv).symm
    refine ⟨_, rfl, _, rfl, x, _, _, rfl, (hP.same s1).ins, rfl, _, rfl, x, ks, ns, most, dx, pl, d, kvs, begAt es i, rfl, hP.same s1, hn, hm, hb, fun p H2 hp s2 hL => ?_⟩
    refine ⟨p, _, rfl, .inl (SqL.of hL), rfl, by rw [nv_ints]; exact flat_ints _, _, rfl, ?_⟩
    rw [nv_ints, inV_ints]
    have e1 : decide (es[i] ∈ (endsL ks ns most (begAt es i)).map fun n : Nat => (n : Int)) = inE ks ns most (begAt es i) (es.getD i 0) := by rw [hg]; rfl
    rw [e1]
    by_cases q : inE ks ns most (begAt es i) (es.getD i 0) = true
    · rw [q]
      refine iteF ?_
      obtain ⟨n, en, hnm⟩ := inE_nat q
      have ln := ends_mem hnm
      have e2 : begAt es (i + 1) = n := by show (es.getD i 0).toNat = n; omega
      refine ⟨_, rfl, ⟨some (.int es[i]), ?_⟩, by rw [allU_succ, hU, q]; rfl, by omega, fun c o e => s2 _ _ (s1 _ _ e)⟩
      show [some (V.ref x), some (V.ref a), some (V.int es[i]), some (V.int es[i])] = [some (V.ref x), some (V.ref a), some (nv (begAt es (i + 1))), some (V.int es[i])]
      rw [e2, ← hg, en]
      rfl
    · rw [Bool.not_eq_true] at q
      rw [q]
      refine iteT ?_
      have : allB ks ns most es = false := by
        unfold allB
        cases z : allU ks ns most es es.length with
        | false => rfl
        | true => rw [allU_get z il] at q; cases q
      rw [this] at k
      exact k H2 fun c o e => s2 _ _ (s1 _ _ e)
  · rintro σ' H' ⟨⟨o3, rfl⟩, hU, hb, s1⟩
    rw [List.length_map] at hU hb
    have hP1 := hP.same s1
    refine ⟨_, rfl, _, rfl, x, _, dx, _, _, rfl, hP1.ins, t.c_Pages, t.n_Pages_total, lk_total _ _ _ _, rfl, ?_⟩
    have e : decide (nv (begAt es es.length) = V.int ((ns.sum : Nat) : Int)) = allB ks ns most es := by
      unfold allB
      rw [hU, Bool.true_and]
      exact nv_eq _ _
    show Q (.bl (decide (nv (begAt es (es.map V.int).length) = V.int ((ns.sum : Nat) : Int)))) H'
    rw [List.length_map, e]
    exact k H' s1
abbrev nsAreLow : List Str := ["pages", "prices", "begin", "end"]
theorem scAreLow : FnScope nsAreLow ["pages", "prices"] (defScope sAreLow) := ⟨rfl, rfl, rfl, by decide +kernel, rfl, by decide +kernel, by decide +kernel⟩
theorem ok_are_low (t : T K mg) : Ok P w K mg base 2 "are_low" ["pages", "prices"] (spAreLow K) := by
  refine mkOk t.d_are_low t.g_are_low scAreLow (fun vs H Q E h => ?_) (fun _ _ _ _ _ _ us hl => match us, hl with | [_, _], _ => rfl) fun cdv A outer s H vs Q E hr h => ?_
  · obtain ⟨x, ks, ns, most, dx, pl, d, kvs, a, ps, rfl, _⟩ := h; rfl
  obtain ⟨x, ks, ns, most, dx, pl, d, kvs, a, ps, rfl, hP, hn, hm, ha, hl, k⟩ := h
  have hr1 : Room 1 _ := hr.mono (by decide)
  refine ⟨_, pss_cons (ps_for PassesOwn.never rfl (pi_range1 rfl t.f_range (pa_cons (pe_fld (pv 0) rfl) pa_nil)) (pg_name (i := 2) scAreLow.nd rfl (Or.inl rfl))
      (pss_one (ps_for PassesOwn.never rfl (pi_list (pe_met (met_Pages_ends_from t) t.c_Pages t.k_Pages_ends_from hr1 (pv 0) (pa_cons (pv 2) pa_nil))) (pg_name (i := 3) scAreLow.nd rfl (Or.inl rfl))
      (pss_one (ps_if (pt_cmpR op_gt (pe_ix ix_list (pv 1) (pv 2) (fun _ _ => rfl)) (pe_op op_add (pe_met (met_Pages_cost t) t.c_Pages t.k_Pages_cost hr1 (pv 0) (pa_cons (pv 2) (pa_cons (pv 3) pa_nil))) (pe_ix ix_list (pv 1) (pv 3) (fun _ _ => rfl))) (nomark _))
      (pss_one (ps_ret pe_bl))
      pss_nil)))))
    (pss_one (ps_ret pe_bl)), ?_⟩
  have pget : ∀ j : Nat, j ≤ ns.sum → atI (ps.map V.int) (j : Int) = some (.int (ps.getD j 0)) := fun j hj => by
    refine atI_nat ?_
    rw [List.getElem?_map, List.getElem?_eq_getElem (by omega), List.getD_eq_getElem?_getD, List.getElem?_eq_getElem (by omega)]
    rfl
  refine ⟨_, rfl, x, _, dx, _, _, rfl, hP.ins, t.c_Pages, t.n_Pages_total, lk_total _ _ _ _, _, rfl, by omega, by omega, ?_⟩
  refine for_range (lo := 0) (n := ((ns.sum : Nat) : Int).toNat) (fun i σ' H' => (∃ o2 o3 : Option V, σ' = [some (.ref x), some (.ref a), o2, o3]) ∧ (∀ b, b < i → (endsL ks ns most b).all (okP ks ns most ps b) = true) ∧ Same H H') ⟨⟨_, _, rfl⟩, fun b h => absurd h (Nat.not_lt_zero _), Same.refl _⟩ ?_ ?_
  · rintro i σ' H' hi ⟨⟨o2, o3, rfl⟩, hA, s1⟩
    have il : i < ns.sum := by omega
    have e0 : (0 : Int) + (i : Int) = (i : Int) := by omega
    rw [e0]
    refine ⟨_, rfl, x, _, _, rfl, (hP.same s1).ins, rfl, _, rfl, x, ks, ns, most, dx, pl, d, kvs, i, rfl, hP.same s1, hn, hm, by omega, fun p H2 hp s2 hL => ?_⟩
    refine ⟨p, rfl, ⟨_, SqL.of hL⟩, ?_⟩
    have s12 : Same H H2 := fun c o e => s2 _ _ (s1 _ _ e)
    refine for_list (K := K) (a := p) (xs := (endsL ks ns most i).map nv) (fun j σ3 H3 => (∃ o3 : Option V, σ3 = [some (.ref x), some (.ref a), some (nv i), o3]) ∧ ((endsL ks ns most i).take j).all (okP ks ns most ps i) = true ∧ H3 = H2) ⟨⟨_, rfl⟩, rfl, rfl⟩ (fun j σ3 H3 _ p => by rw [p.2.2]; exact SqL.of hL) ?_ ?_
    · rintro j v σ3 H3 hv ⟨⟨o3, rfl⟩, hT, rfl⟩
      have jl : j < (endsL ks ns most i).length := by
        have := (List.getElem?_eq_some_iff.mp hv).1
        rw [List.length_map] at this
        exact this
      have he : (endsL ks ns most i)[j]? = some (endsL ks ns most i)[j] := List.getElem?_eq_getElem jl
      have hmem : (endsL ks ns most i)[j] ∈ endsL ks ns most i := List.getElem_mem jl
      obtain rfl : v = nv (endsL ks ns most i)[j] := by
        rw [List.getElem?_map, he] at hv
        exact (Option.some.inj hv).symm
      have tk : (endsL ks ns most i).take (j + 1) = (endsL ks ns most i).take j ++ [(endsL ks ns most i)[j]] := by rw [List.take_add_one, he]; rfl
      generalize (endsL ks ns most i)[j] = e at hmem tk
      have le := ends_mem hmem
      have hP2 := hP.same s12
      refine ⟨_, rfl, _, rfl, a, _, _, _, rfl, rfl, SqL.of (s12 _ _ ha), pget i (by omega), ?_⟩
      refine ⟨_, rfl, x, _, _, rfl, hP2.ins, rfl, _, rfl, _, rfl, x, ks, ns, most, dx, pl, d, kvs, i, e, rfl, hP2, hm, by omega, by omega, ?_⟩
      refine ⟨_, rfl, _, rfl, a, _, _, _, rfl, rfl, SqL.of (s12 _ _ ha), pget e (by omega), _, _, rfl, rfl, _, _, rfl, rfl, _, rfl, ?_⟩
      have eo : okP ks ns most ps i e = !decide (ps.getD i 0 > ((costN ks ns most i e : Nat) : Int) + ps.getD e 0) := by
        unfold okP
        rw [← decide_not, decide_eq_decide]
        omega
      refine ite2 (fun h1 => ?_) (fun h1 => ?_)
      · have : lowB ks ns most ps = false := by
          have q : okP ks ns most ps i e = false := by rw [eo, h1]; rfl
          cases z : lowB ks ns most ps with
          | false => rfl
          | true =>
            unfold lowB at z
            have z1 := List.all_eq_true.mp (List.all_eq_true.mp z i (List.mem_range.mpr il)) e hmem
            rw [q] at z1
            cases z1
        rw [this] at k
        exact k _ s12
      · have q : okP ks ns most ps i e = true := by
          rw [Bool.not_eq_true] at h1
          rw [eo, h1]
          rfl
        refine ⟨⟨_, rfl⟩, ?_, rfl⟩
        rw [tk, List.all_append, hT]
        simp [q]
    · rintro σ3 H3 ⟨⟨o3, rfl⟩, hT, rfl⟩
      rw [List.length_map, List.take_length] at hT
      refine ⟨⟨_, _, rfl⟩, fun b hb => ?_, s12⟩
      by_cases q : b = i
      · rw [q]; exact hT
      · exact hA b (by omega)
  · rintro σ' H' ⟨⟨o2, o3, rfl⟩, hA, s1⟩
    have : lowB ks ns most ps = true := by
      unfold lowB
      refine List.all_eq_true.mpr fun b hb => hA b ?_
      have := List.mem_range.mp hb
      omega
    rw [this] at k
    exact k H' s1
end
end Sx

set_option Elab.async false
set_option linter.all false
set_option maxRecDepth 100000
set_option maxHeartbeats 1000000
namespace Sx
open PySem PySem.Spec PyProof.Rows L2 SxA
def spReached (K : PySem.W.Frag) : Sp := fun vs H Q _ => ∃ (x : Addr) (ks : List Str) (ns : List Nat) (most : Nat) (dx pl d : Addr) (kvs : List (L2.Key × V)) (a p : Addr) (es ps : List Int), vs = [.ref x, .ref a, .ref p] ∧ PgAt K H x ks ns most dx pl d kvs ∧ ns.sum ≤ 6000 ∧ most ≤ 1000 ∧ H a = some (.lst (es.map V.int)) ∧ H p = some (.lst (ps.map V.int)) ∧ ps.length = ns.sum + 1 ∧
  allU ks ns most es es.length = true ∧ 0 < es.length ∧ ∀ H', Same H H' → Q (.bl (rchB ks ns most es ps)) H'
def spAccepts (K : PySem.W.Frag) : Sp := fun vs H Q _ => ∃ (b l a p : Addr) (bs : List V) (ks : List Str) (ns : List Nat) (most : Nat) (es ps : List Int), vs = [.int ((most : Int) + 1), .ref b, .ref l, .ref a, .ref p] ∧ BkAt H b l bs ks ns ∧ most ≤ 1000 ∧ 0 < ns.length ∧ H a = some (.lst (es.map V.int)) ∧ H p = some (.lst (ps.map V.int)) ∧
  ∀ H', Same H H' → Q (.bl (accB ks ns most es ps)) H'
theorem allU_len {ks : List Str} {ns : List Nat} {most : Nat} {es : List Int} (h : allU ks ns most es es.length = true) : ∀ i, i < es.length → ∃ n : Nat, es[i]? = some (n : Int) ∧ n ∈ endsL ks ns most (begAt es i) ∧ begAt es (i + 1) = n := fun i hi => by
  obtain ⟨n, e, hn⟩ := inE_nat (allU_get h hi)
  have e2 : es[i]? = some (es.getD i 0) := by rw [List.getD_eq_getElem?_getD, List.getElem?_eq_getElem hi]; rfl
  refine ⟨n, by rw [e2, e], hn, ?_⟩
  show (es.getD i 0).toNat = n
  omega
theorem begins_eq {ks : List Str} {ns : List Nat} {most : Nat} {es : List Int} (h : allU ks ns most es es.length = true) (h0 : 0 < es.length) : [V.int 0] ++ cutV (es.map V.int) none (some (-1)) = (List.range es.length).map fun i => nv (begAt es i) := by
  have e1 : cutV (es.map V.int) none (some (-1)) = (es.map V.int).take (es.length - 1) := by
    unfold cutV
    rw [HT.sIx_none]
    show ((es.map V.int).drop 0).take ((-1 + ((es.map V.int).length : Int)).toNat - 0) = _
    rw [List.drop_zero, List.length_map]
    congr 1
    omega
  rw [e1]
  refine List.ext_getElem? fun i => ?_
  cases i with
  | zero => 
    rw [List.getElem?_map, List.getElem?_range h0]
    rfl
  | succ i =>
    show ((es.map V.int).take (es.length - 1))[i]? = _
    by_cases hi : i + 1 < es.length
    · obtain ⟨n, e, _, e3⟩ := allU_len h i (by omega)
      rw [List.getElem?_take_of_lt (by omega), List.getElem?_map, e, List.getElem?_map, List.getElem?_range hi]
      show some (V.int (n : Int)) = some (nv (begAt es (i + 1)))
      rw [e3]
      rfl
    · rw [List.getElem?_eq_none (by rw [List.length_take, List.length_map]; omega), List.getElem?_eq_none (by rw [List.length_map, List.length_range]; omega)]
section
variable {P : Program} {w : World} {K : PySem.W.Frag} {mg : Str → Option Value} {base : Heap}
abbrev nsAreReached : List Str := ["pages", "ends", "prices", "begins", "begin", "end"]
theorem scAreReached : FnScope nsAreReached ["pages", "ends", "prices"] (defScope sAreReached) := ⟨rfl, rfl, rfl, by decide +kernel, rfl, by decide +kernel, by decide +kernel⟩
theorem ok_are_reached (t : T K mg) : Ok P w K mg base 2 "are_reached" ["pages", "ends", "prices"] (spReached K) := by
  refine mkOk t.d_are_reached t.g_are_reached scAreReached (fun vs H Q E h => ?_) (fun _ _ _ _ _ _ us hl => match us, hl with | [_, _, _], _ => rfl) fun cdv A outer s H vs Q E hr h => ?_
  · obtain ⟨x, ks, ns, most, dx, pl, d, kvs, a, p, es, ps, rfl, _⟩ := h; rfl
  obtain ⟨x, ks, ns, most, dx, pl, d, kvs, a, p, es, ps, rfl, hP, hn, hm, ha, hp, hl, hU, h0, k⟩ := h
  have hr1 : Room 1 _ := hr.mono (by decide)
  refine ⟨_, pss_cons (ps_set (i := 3) scAreReached.nd rfl (Or.inl rfl) (pe_op op_cat (pe_lst (pa_cons pe_int pa_nil)) (pe_slice sl_list (pv 1) po_none (po_some (pe_un un_neg pe_int)))))
    (pss_one (ps_ret (pe_callB (cr_all rfl) rfl t.f_all (by decide +kernel) (pa_cons (pe_lc (own := [("begin", 4), ("end", 5)]) (g := gTup K 2 (gCons (gName 4) (gCons (gName 5) gNil))) (tt := tYes) rfl scAreReached.nd (pi_zip (by rfl) t.f_zip (pa_cons (pv 3) (pa_cons (pv 1) pa_nil))) (blkOk_by (own := [("begin", 4), ("end", 5)]) (N := nsAreReached) (sc := defScope sAreReached) (by decide +kernel)) (fun _ _ _ _ _ => (pg_tup rfl (pgs_cons (pg_name (i := 4) scAreReached.nd rfl (Or.inl rfl)) (pgs_cons (pg_name (i := 5) scAreReached.nd rfl (Or.inl rfl)) pgs_nil)))) (fun _ _ _ _ _ => pts_nil) (fun _ _ _ _ _ => (pe_cmpR op_eq (pe_ix (ix_listK (K := K) rfl) (pv 2) (pv 4) (fun _ _ => rfl)) (pe_op op_add (pe_metK (K := K) rfl (met_Pages_cost t) t.c_Pages t.k_Pages_cost hr1 (pv 0) (pa_cons (pv 4) (pa_cons (pv 5) pa_nil))) (pe_ix (ix_listK (K := K) rfl) (pv 2) (pv 5) (fun _ _ => rfl))) (nomark _)))) pa_nil)))), ?_⟩
  have eB := begins_eq hU h0
  have pget : ∀ (H' : Hp) (_ : Same H H') (j : Nat), j ≤ ns.sum → atI (ps.map V.int) (j : Int) = some (.int (ps.getD j 0)) := fun _ _ j hj => by
    refine atI_nat ?_
    rw [List.getElem?_map, List.getElem?_eq_getElem (by omega), List.getD_eq_getElem?_getD, List.getElem?_eq_getElem (by omega)]
    rfl
  have esz : es.length ≤ ns.sum := by
    have : ∀ i, i ≤ es.length → i ≤ begAt es i ∧ begAt es i ≤ ns.sum := fun i => by
      induction i with
      | zero => intro _; exact ⟨Nat.le_refl _, Nat.zero_le _⟩
      | succ i ih =>
        intro hi
        obtain ⟨n, _, hn2, e3⟩ := allU_len hU i (by omega)
        have := ends_mem hn2
        have := ih (by omega)
        omega
    have := this es.length (Nat.le_refl _)
    omega
  refine ⟨(by show 1 ≤ sizeLine; decide), fun L1 hL1 => ?_⟩
  refine ⟨_, rfl, _, rfl, _, rfl, a, _, rfl, SqL.of (Same.new hL1 _ _ ha), fun L2 hL2 => ?_⟩
  have n12 : L1 ≠ L2 := ne_of_none upd_same hL2
  refine ⟨L1, L2, _, _, rfl, rfl, by rw [upd_ne n12]; exact upd_same, upd_same, ?_, fun L3 hL3 => ?_⟩
  · have := cutV_length (es.map V.int) none (some (-1))
    rw [List.length_map] at this
    show 1 + (cutV (es.map V.int) none (some (-1))).length ≤ sizeLine
    exact Nat.le_trans (show _ ≤ 100000 by omega) (by decide)
  have s3 : ∀ c o, H c = some o → upd (upd (upd H L1 (.lst [V.int 0])) L2 (.lst (cutV (es.map V.int) none (some (-1))))) L3 (.lst ([V.int 0] ++ cutV (es.map V.int) none (some (-1)))) c = some o := fun c o e => by
    have a1 : upd H L1 (.lst [V.int 0]) c = some o := Same.new hL1 _ _ e
    have a2 : upd (upd H L1 (.lst [V.int 0])) L2 (.lst (cutV (es.map V.int) none (some (-1)))) c = some o := Same.new hL2 _ _ a1
    exact Same.new hL3 _ _ a2
  refine ⟨_, rfl, _, rfl, L3, a, _, _, rfl, SqL.of upd_same, SqL.of (s3 _ _ ha), fun D hD => ?_⟩
  refine lc_zip (K := K) (a := L3) (b := a) (i0 := 4) (j0 := 5) (xs := [V.int 0] ++ cutV (es.map V.int) none (some (-1))) (ys := es.map V.int) (zs := (List.range es.length).map fun i => V.bl (decide (ps.getD (begAt es i) 0 = (costN ks ns most (begAt es i) (es.getD i 0).toNat : Int) + ps.getD (es.getD i 0).toNat 0))) hD (SqL.of upd_same) (SqL.of (s3 _ _ ha)) ?_ ?_ ?_ (fun _ _ => rfl) (fun i x y z H4 Q4 hx hy hz sm q4 => ?_) (fun H4 sm hD4 => ?_)
  · rw [eB, List.length_map, List.length_map, List.length_range]
  · rw [eB, List.length_map, List.length_map]
  · rw [List.length_map, List.length_range]
    exact Nat.le_trans (show _ ≤ 100000 by omega) (by decide)
  · have il : i < es.length := by
      have := (List.getElem?_eq_some_iff.mp hy).1
      rw [List.length_map] at this
      exact this
    obtain ⟨n, e1, hn2, e3⟩ := allU_len hU i il
    have ln := ends_mem hn2
    rw [eB, List.getElem?_map, List.getElem?_range il] at hx
    rw [List.getElem?_map, e1] at hy
    rw [List.getElem?_map, List.getElem?_range il] at hz
    cases Option.some.inj hx
    cases Option.some.inj hy
    have ez := (Option.some.inj hz).symm
    have s4 : ∀ c o, H c = some o → H4 c = some o := fun c o e => sm _ _ (s3 _ _ e)
    have hP4 : PgAt K H4 _ ks ns most dx pl d kvs := hP.same s4
    refine ⟨_, rfl, _, rfl, p, _, _, _, rfl, rfl, SqL.of (s4 _ _ hp), pget H4 s4 (begAt es i) (by omega), ?_⟩
    refine ⟨_, rfl, _, _, _, rfl, hP4.ins, rfl, _, rfl, _, rfl, _, ks, ns, most, dx, pl, d, kvs, begAt es i, n, rfl, hP4, hm, by omega, by omega, ?_⟩
    refine ⟨_, rfl, _, rfl, p, _, _, _, rfl, rfl, SqL.of (s4 _ _ hp), pget H4 s4 n (by omega), _, _, rfl, rfl, rfl, ?_⟩
    have e5 : es.getD i 0 = (n : Int) := getD_of e1
    have q := q4 H4 (Same.refl _)
    rw [ez] at q
    dsimp only at q
    rw [e5, Int.toNat_natCast] at q
    have e6 : decide (V.int (ps.getD (begAt es i) 0) = V.int ((costN ks ns most (begAt es i) n : Int) + ps.getD n 0)) = decide (ps.getD (begAt es i) 0 = (costN ks ns most (begAt es i) n : Int) + ps.getD n 0) := by
      rw [decide_eq_decide]
      exact ⟨V.int.inj, fun z => by rw [z]⟩
    show Q4 (.bl (decide (V.int (ps.getD (begAt es i) 0) = V.int ((costN ks ns most (begAt es i) n : Int) + ps.getD n 0)))) H4
    rw [e6]
    exact q
  · refine ⟨D, (List.range es.length).map fun i => decide (ps.getD (begAt es i) 0 = (costN ks ns most (begAt es i) (es.getD i 0).toNat : Int) + ps.getD (es.getD i 0).toNat 0), rfl, SqL.of (by rw [hD4, List.map_map]; rfl), ?_⟩
    have e7 : ((List.range es.length).map fun i => decide (ps.getD (begAt es i) 0 = (costN ks ns most (begAt es i) (es.getD i 0).toNat : Int) + ps.getD (es.getD i 0).toNat 0)).all id = rchB ks ns most es ps := by
      unfold rchB
      rw [List.all_map]
      rfl
    rw [e7]
    exact k H4 fun c o e => sm _ _ (s3 _ _ e)
abbrev nsAcceptsPrices : List Str := ["height", "blocks", "lines", "ends", "prices", "pages"]
theorem scAcceptsPrices : FnScope nsAcceptsPrices ["height", "blocks", "lines", "ends", "prices"] (defScope sAcceptsPrices) := ⟨rfl, rfl, rfl, by decide +kernel, rfl, by decide +kernel, by decide +kernel⟩
theorem ok_accepts_prices (t : T K mg) : Ok P w K mg base 5 "accepts_prices" ["height", "blocks", "lines", "ends", "prices"] (spAccepts K) := by
  refine mkOk t.d_accepts_prices t.g_accepts_prices scAcceptsPrices (fun vs H Q E h => ?_) (fun _ _ _ _ _ _ us hl => match us, hl with | [_, _, _, _, _], _ => rfl) fun cdv A outer s H vs Q E hr h => ?_
  · obtain ⟨b, l, a, p, bs, ks, ns, most, es, ps, rfl, _⟩ := h; rfl
  obtain ⟨b, l, a, p, bs, ks, ns, most, es, ps, rfl, hB, hm, h0, ha, hp, k⟩ := h
  have hr2 : Room 2 _ := hr.mono (by decide)
  have hr4 : Room 4 _ := hr.mono (by decide)
  refine ⟨_, pss_cons (ps_set (i := 5) scAcceptsPrices.nd rfl (Or.inl rfl) (pe_mk (met_Pages_init t) t.m_Pages t.g_Pages hr4 rfl (pa_cons (pv 0) (pa_cons (pv 1) (pa_cons (pv 2) pa_nil)))))
    (pss_one (ps_ret (pe_and (pe_cmpR op_eq (pe_callB call_len_seq rfl t.f_len boot_len (pa_cons (pv 4) pa_nil)) (pe_op op_add (pe_fld (pv 5) rfl) pe_int) (nomark _)) (pe_and (pe_cmpR op_eq (pe_ix ix_list (pv 4) (pe_un un_neg pe_int) (fun _ _ => rfl)) pe_int (nomark _)) (pe_and (pe_met (met_Pages_are_all t) t.c_Pages t.k_Pages_are_all hr2 (pv 5) (pa_cons (pv 3) pa_nil)) (pe_and (pe_ok (ok_are_low t) hr2 rfl (pa_cons (pv 5) (pa_cons (pv 4) pa_nil))) (pe_one (pe_ok (ok_are_reached t) hr2 rfl (pa_cons (pv 5) (pa_cons (pv 3) (pa_cons (pv 4) pa_nil))))))))))), ?_⟩
  have nz : 0 < ns.sum := by
    have e : ∃ n, ns[0]? = some n := ⟨_, List.getElem?_eq_getElem h0⟩
    obtain ⟨n, e⟩ := e
    cases ns with
    | nil => cases e
    | cons y r =>
      have := (hB.2.2.1.pos y List.mem_cons_self).1
      rw [List.sum_cons]
      omega
  have nb : ns.sum ≤ 6000 := by
    have := sum_le ns hB.2.2.1.pos
    have := hB.2.2.1.len
    have := hB.2.2.2
    omega
  unfold accB at k
  refine ⟨_, rfl, _, rfl, _, rfl, fun x dx nx ndx nex => ?_⟩
  have s0 : Same H (upd (upd H dx (.own x)) x (.ins (He.ga K "Pages") dx [])) := Same.put (Same.new ndx) nx
  refine ⟨x, dx, b, l, bs, ks, ns, most, rfl, upd_same, hB.same s0, fun H1 pl d kvs hP B1 => ⟨rfl, ?_⟩⟩
  have s1 : Same H H1 := fun c o e => B1 _ _ (s0 _ _ e) (ne_of_none e nx)
  have hp1 := s1 _ _ hp
  refine ⟨_, rfl, p, _, rfl, .inl (SqL.of hp1), _, rfl, x, _, dx, _, _, rfl, hP.ins, t.c_Pages, t.n_Pages_total, lk_total _ _ _ _, _, _, rfl, rfl, rfl, _, rfl, ?_⟩
  have e1 : decide (V.int ((ps.map V.int).length : Nat) = V.int (((ns.sum : Nat) : Int) + 1)) = decide (ps.length = ns.sum + 1) := by
    rw [List.length_map, decide_eq_decide]
    constructor
    · intro z
      have := V.int.inj z
      omega
    · intro z
      rw [z]
      rfl
  refine ite2 (fun h1 => ?_) (fun h1 => ?_)
  · have c1 := of_decide_eq_true (e1.symm.trans h1)
    rw [decide_eq_true c1, Bool.true_and] at k
    have hlast : (ps.map V.int)[(ps.map V.int).length - 1]? = some (.int (ps.getD (ps.length - 1) 0)) := by
      rw [List.length_map, List.getElem?_map, List.getElem?_eq_getElem (by omega), List.getD_eq_getElem?_getD, List.getElem?_eq_getElem (by omega)]
      rfl
    refine ⟨_, rfl, _, rfl, p, _, _, _, rfl, rfl, SqL.of hp1, atI_m1 hlast, rfl, _, rfl, ?_⟩
    have e2 : decide (V.int (ps.getD (ps.length - 1) 0) = V.int 0) = decide (ps.getD (ps.length - 1) 0 = 0) := by
      rw [decide_eq_decide]
      exact ⟨V.int.inj, fun z => by rw [z]⟩
    refine ite2 (fun h2 => ?_) (fun h2 => ?_)
    · rw [e2.symm.trans h2, Bool.true_and] at k
      refine ⟨_, rfl, x, dx, _, rfl, hP.ins, rfl, _, rfl, x, ks, ns, most, dx, pl, d, kvs, a, es, rfl, hP, nb, hm, s1 _ _ ha, fun H2 s2 => ⟨_, rfl, ?_⟩⟩
      have s12 : Same H H2 := fun c o e => s2 _ _ (s1 _ _ e)
      have hP2 := hP.same s2
      refine ite2 (fun h3 => ?_) (fun h3 => ?_)
      · rw [h3, Bool.true_and] at k
        have hU : allU ks ns most es es.length = true := by
          unfold allB at h3
          cases q : allU ks ns most es es.length with
          | true => rfl
          | false => rw [q] at h3; cases h3
        have hE : begAt es es.length = ns.sum := by
          unfold allB at h3
          rw [hU, Bool.true_and] at h3
          exact of_decide_eq_true h3
        have e0 : 0 < es.length := by
          cases es with
          | nil => exact absurd hE (by show ¬ (0 = ns.sum); omega)
          | cons y r => exact Nat.succ_pos _
        refine ⟨_, rfl, _, rfl, x, ks, ns, most, dx, pl, d, kvs, p, ps, rfl, hP2, nb, hm, s12 _ _ hp, c1, fun H3 s3 => ⟨_, rfl, ?_⟩⟩
        have s13 : Same H H3 := fun c o e => s3 _ _ (s12 _ _ e)
        refine ite2 (fun h4 => ?_) (fun h4 => ?_)
        · rw [h4, Bool.true_and] at k
          exact ⟨_, rfl, _, rfl, _, rfl, x, ks, ns, most, dx, pl, d, kvs, a, p, es, ps, rfl, hP2.same s3, nb, hm, s13 _ _ ha, s13 _ _ hp, c1, hU, e0, fun H4 s4 => k H4 fun c o e => s4 _ _ (s13 _ _ e)⟩
        · rw [Bool.eq_false_iff.mpr h4, Bool.false_and] at k
          exact k H3 s13
      · rw [Bool.eq_false_iff.mpr h3, Bool.false_and] at k
        exact k H2 s12
    · rw [Bool.eq_false_iff.mpr fun q => h2 (e2.trans q), Bool.false_and] at k
      exact k H1 s1
  · rw [Bool.eq_false_iff.mpr fun q => h1 (e1.trans q), Bool.false_and] at k
    exact k H1 s1
end
end Sx

set_option Elab.async false
set_option linter.all false
set_option maxRecDepth 100000
set_option maxHeartbeats 1000000
namespace Sx
open PySem PySem.Spec PyProof.Rows L2 SxA
/-! ### the least costs, from the end on -/
section
variable (ks : List Str) (ns : List Nat) (most : Nat)
def stepL (f : Nat → Option Nat) (b : Nat) (acc : Option Nat) (e : Nat) : Option Nat := match f e with
  | none => acc
  | some c => match acc with
    | none => some (costN ks ns most b e + c)
    | some a => if costN ks ns most b e + c < a then some (costN ks ns most b e + c) else some a
def best1 (f : Nat → Option Nat) (b : Nat) : Option Nat := (endsL ks ns most b).foldl (stepL ks ns most f b) none
def tab : Nat → Nat → Option Nat
  | 0 => fun s => if s = ns.sum then some 0 else none
  | d + 1 => fun s => if s + (d + 1) = ns.sum then best1 ks ns most (tab d) s else tab d s
def LO (s : Nat) : Option Nat := tab ks ns most ns.sum s
variable {ks ns most}
theorem stepL_congr {f g : Nat → Option Nat} {b : Nat} : ∀ {l : List Nat} {acc : Option Nat}, (∀ e ∈ l, f e = g e) → l.foldl (stepL ks ns most f b) acc = l.foldl (stepL ks ns most g b) acc
  | [], _, _ => rfl
  | e :: r, acc, h => by
    rw [List.foldl_cons, List.foldl_cons]
    have e1 : stepL ks ns most f b acc e = stepL ks ns most g b acc e := by
      unfold stepL
      rw [h e List.mem_cons_self]
    rw [e1]
    exact stepL_congr fun x hx => h x (List.mem_cons_of_mem _ hx)
theorem tab_stable : ∀ (d k s : Nat), ns.sum ≤ s + d → tab ks ns most (d + k) s = tab ks ns most d s
  | d, 0, s, _ => rfl
  | d, k + 1, s, h => by
    show (if s + (d + k + 1) = ns.sum then _ else tab ks ns most (d + k) s) = _
    rw [if_neg (by omega)]
    exact tab_stable d k s h
theorem LO_tab {d s : Nat} (h : ns.sum ≤ s + d) (hd : d ≤ ns.sum) : LO ks ns most s = tab ks ns most d s := by
  have := tab_stable (ks := ks) (ns := ns) (most := most) d (ns.sum - d) s h
  rw [show d + (ns.sum - d) = ns.sum by omega] at this
  exact this
theorem LO_end : LO ks ns most ns.sum = some 0 := by
  rw [LO_tab (d := 0) (by omega) (Nat.zero_le _)]
  unfold tab
  rw [if_pos rfl]
theorem LO_step {b : Nat} (h : b < ns.sum) : LO ks ns most b = best1 ks ns most (LO ks ns most) b := by
  obtain ⟨d, hd⟩ : ∃ d, ns.sum = b + (d + 1) := ⟨ns.sum - b - 1, by omega⟩
  rw [LO_tab (d := d + 1) (by omega) (by omega)]
  show (if b + (d + 1) = ns.sum then best1 ks ns most (tab ks ns most d) b else _) = _
  rw [if_pos hd.symm]
  unfold best1
  refine stepL_congr fun e he => ?_
  have := ends_mem he
  exact (LO_tab (by omega) (by omega)).symm
theorem fold_some {f : Nat → Option Nat} {b : Nat} : ∀ {l : List Nat} {a : Nat}, ∃ a', l.foldl (stepL ks ns most f b) (some a) = some a' ∧ a' ≤ a
  | [], a => ⟨a, rfl, Nat.le_refl _⟩
  | e :: r, a => by
    rw [List.foldl_cons]
    have : ∃ a1, stepL ks ns most f b (some a) e = some a1 ∧ a1 ≤ a := by
      unfold stepL
      cases f e with
      | none => exact ⟨a, rfl, Nat.le_refl _⟩
      | some c =>
        show ∃ a1, (if costN ks ns most b e + c < a then some (costN ks ns most b e + c) else some a) = some a1 ∧ a1 ≤ a
        by_cases q : costN ks ns most b e + c < a
        · rw [if_pos q]; exact ⟨_, rfl, by omega⟩
        · rw [if_neg q]; exact ⟨_, rfl, Nat.le_refl _⟩
    obtain ⟨a1, e1, l1⟩ := this
    rw [e1]
    obtain ⟨a', e2, l2⟩ := fold_some (l := r) (a := a1)
    exact ⟨a', e2, by omega⟩
theorem fold_le {f : Nat → Option Nat} {b : Nat} : ∀ {l : List Nat} {acc : Option Nat} {e c : Nat}, e ∈ l → f e = some c → ∃ a, l.foldl (stepL ks ns most f b) acc = some a ∧ a ≤ costN ks ns most b e + c
  | x :: r, acc, e, c, h, hc => by
    rw [List.foldl_cons]
    by_cases q : e = x
    · subst q
      have : ∃ a1, stepL ks ns most f b acc e = some a1 ∧ a1 ≤ costN ks ns most b e + c := by
        unfold stepL
        rw [hc]
        cases acc with
        | none => exact ⟨_, rfl, Nat.le_refl _⟩
        | some a =>
          show ∃ a1, (if costN ks ns most b e + c < a then some (costN ks ns most b e + c) else some a) = some a1 ∧ a1 ≤ costN ks ns most b e + c
          by_cases q : costN ks ns most b e + c < a
          · rw [if_pos q]; exact ⟨_, rfl, Nat.le_refl _⟩
          · rw [if_neg q]; exact ⟨_, rfl, by omega⟩
      obtain ⟨a1, e1, l1⟩ := this
      rw [e1]
      obtain ⟨a', e2, l2⟩ := fold_some (ks := ks) (ns := ns) (most := most) (f := f) (b := b) (l := r) (a := a1)
      exact ⟨a', e2, by omega⟩
    · have : e ∈ r := by
        rcases List.mem_cons.mp h with h | h
        · exact absurd h q
        · exact h
      exact fold_le this hc
theorem fold_in {f : Nat → Option Nat} {b : Nat} : ∀ {l : List Nat} {acc : Option Nat} {a : Nat}, l.foldl (stepL ks ns most f b) acc = some a → acc = some a ∨ ∃ e ∈ l, ∃ c, f e = some c ∧ a = costN ks ns most b e + c
  | [], acc, a, h => .inl h
  | x :: r, acc, a, h => by
    rw [List.foldl_cons] at h
    rcases fold_in h with h1 | ⟨e, he, c, hc, ha⟩
    · unfold stepL at h1
      cases q : f x with
      | none => rw [q] at h1; exact .inl h1
      | some c =>
        rw [q] at h1
        cases acc with
        | none => exact .inr ⟨x, List.mem_cons_self, c, q, (Option.some.inj h1).symm⟩
        | some a0 =>
          change (if costN ks ns most b x + c < a0 then some (costN ks ns most b x + c) else some a0) = some a at h1
          by_cases z : costN ks ns most b x + c < a0
          · rw [if_pos z] at h1
            exact .inr ⟨x, List.mem_cons_self, c, q, (Option.some.inj h1).symm⟩
          · rw [if_neg z] at h1
            exact .inl h1
    · exact .inr ⟨e, List.mem_cons_of_mem _ he, c, hc, ha⟩
theorem LO_le {b e c : Nat} (hb : b < ns.sum) (he : e ∈ endsL ks ns most b) (hc : LO ks ns most e = some c) : ∃ a, LO ks ns most b = some a ∧ a ≤ costN ks ns most b e + c := by
  rw [LO_step hb]
  exact fold_le he hc
theorem LO_in {b a : Nat} (hb : b < ns.sum) (h : LO ks ns most b = some a) : ∃ e ∈ endsL ks ns most b, ∃ c, LO ks ns most e = some c ∧ a = costN ks ns most b e + c := by
  rw [LO_step hb] at h
  rcases fold_in h with q | q
  · cases q
  · exact q
theorem cost_le {b e : Nat} : costN ks ns most b e ≤ most ^ 2 := by
  unfold costN
  split
  · exact Nat.zero_le _
  · exact Nat.pow_le_pow_left (by omega) 2
theorem LO_bound : ∀ (d b a : Nat), b + d = ns.sum → LO ks ns most b = some a → a ≤ most ^ 2 * d
  | 0, b, a, hb, h => by
    rw [show b = ns.sum by omega, LO_end] at h
    cases h
    exact Nat.zero_le _
  | d + 1, b, a, hb, h => by
    obtain ⟨e, he, c, hc, ha⟩ := LO_in (by omega) h
    have le := ends_mem he
    have := LO_bound (ns.sum - e) e c (by omega) hc
    have c1 := cost_le (ks := ks) (ns := ns) (most := most) (b := b) (e := e)
    have h2 : most ^ 2 * (ns.sum - e) ≤ most ^ 2 * d := Nat.mul_le_mul_left _ (by omega)
    rw [Nat.mul_succ]
    omega
  termination_by d => d
  decreasing_by omega
/-! ### paths and their costs -/
def wc (ks : List Str) (ns : List Nat) (most : Nat) (es : List Int) : Nat → Nat
  | 0 => 0
  | m + 1 => wc ks ns most es m + costN ks ns most (begAt es m) (es.getD m 0).toNat
structure Pth (ks : List Str) (ns : List Nat) (most : Nat) (es : List Int) : Prop where
  all : allU ks ns most es es.length = true
  last : begAt es es.length = ns.sum
theorem Pth.lo {es : List Int} (h : Pth ks ns most es) : ∀ (d i : Nat), i + d = es.length → ∃ a, LO ks ns most (begAt es i) = some a
  | 0, i, hi => by
    rw [show i = es.length by omega, h.last]
    exact ⟨0, LO_end⟩
  | d + 1, i, hi => by
    obtain ⟨n, e1, hn, e2⟩ := allU_len h.all i (by omega)
    obtain ⟨c, hc⟩ := h.lo d (i + 1) (by omega)
    rw [e2] at hc
    have := ends_mem hn
    obtain ⟨a, ha, _⟩ := LO_le (by omega) hn hc
    exact ⟨a, ha⟩
def loD (ks : List Str) (ns : List Nat) (most s : Nat) : Nat := (LO ks ns most s).getD 0
theorem Pth.step {es : List Int} (h : Pth ks ns most es) {i : Nat} (hi : i < es.length) : loD ks ns most (begAt es i) ≤ costN ks ns most (begAt es i) (es.getD i 0).toNat + loD ks ns most (begAt es (i + 1)) := by
  obtain ⟨n, e1, hn, e2⟩ := allU_len h.all i hi
  obtain ⟨c, hc⟩ := h.lo (es.length - (i + 1)) (i + 1) (by omega)
  rw [e2] at hc
  have := ends_mem hn
  obtain ⟨a, ha, l⟩ := LO_le (by omega) hn hc
  have e3 := getD_of e1
  unfold loD
  rw [ha, e2, hc, e3, Int.toNat_natCast]
  exact l
theorem Pth.mono {es : List Int} (h : Pth ks ns most es) : ∀ (d i : Nat), i + d ≤ es.length → wc ks ns most es i + loD ks ns most (begAt es i) ≤ wc ks ns most es (i + d) + loD ks ns most (begAt es (i + d))
  | 0, i, _ => Nat.le_refl _
  | d + 1, i, hi => by
    have h1 := h.mono d i (by omega)
    have h2 := h.step (i := i + d) (by omega)
    show _ ≤ wc ks ns most es (i + d) + costN ks ns most (begAt es (i + d)) (es.getD (i + d) 0).toNat + loD ks ns most (begAt es (i + d + 1))
    omega
theorem Pth.least {es : List Int} (h : Pth ks ns most es) : loD ks ns most 0 ≤ wc ks ns most es es.length := by
  have q := h.mono es.length 0 (by omega)
  rw [Nat.zero_add, h.last] at q
  have : loD ks ns most ns.sum = 0 := by unfold loD; rw [LO_end]; rfl
  rw [this] at q
  show loD ks ns most 0 ≤ _
  have e0 : begAt es 0 = 0 := rfl
  rw [e0] at q
  show _ ≤ _
  have w0 : wc ks ns most es 0 = 0 := rfl
  omega
theorem Pth.tight {es : List Int} (h : Pth ks ns most es) (ht : wc ks ns most es es.length = loD ks ns most 0) {i : Nat} (hi : i < es.length) : loD ks ns most (begAt es i) = costN ks ns most (begAt es i) (es.getD i 0).toNat + loD ks ns most (begAt es (i + 1)) := by
  have a1 := h.mono i 0 (by omega)
  have a2 := h.mono (es.length - (i + 1)) (i + 1) (by omega)
  rw [Nat.zero_add] at a1
  rw [show i + 1 + (es.length - (i + 1)) = es.length by omega, h.last] at a2
  have e0 : loD ks ns most ns.sum = 0 := by unfold loD; rw [LO_end]; rfl
  have w0 : wc ks ns most es 0 = 0 := rfl
  have b0 : begAt es 0 = 0 := rfl
  rw [b0] at a1
  have a3 := h.step hi
  have w1 : wc ks ns most es (i + 1) = wc ks ns most es i + costN ks ns most (begAt es i) (es.getD i 0).toNat := rfl
  omega
/-- low prices are below the least costs -/
theorem low_lo {ps : List Int} (hl : lowB ks ns most ps = true) (h0 : ps.getD ns.sum 0 = 0) : ∀ (d b a : Nat), b + d = ns.sum → LO ks ns most b = some a → ps.getD b 0 ≤ (a : Int)
  | 0, b, a, hb, h => by
    rw [show b = ns.sum by omega, LO_end] at h
    cases h
    rw [show b = ns.sum by omega, h0]
    exact Int.le_refl _
  | d + 1, b, a, hb, h => by
    obtain ⟨e, he, c, hc, ha⟩ := LO_in (by omega) h
    have le := ends_mem he
    have q := low_lo hl h0 (ns.sum - e) e c (by omega) hc
    unfold lowB at hl
    have z := List.all_eq_true.mp (List.all_eq_true.mp hl b (List.mem_range.mpr (by omega))) e he
    have z2 := of_decide_eq_true z
    omega
  termination_by d => d
  decreasing_by omega
theorem rch_sum {es ps : List Int} (hr : rchB ks ns most es ps = true) (hp : allU ks ns most es es.length = true) : ∀ m, m ≤ es.length → ps.getD 0 0 = (wc ks ns most es m : Int) + ps.getD (begAt es m) 0
  | 0, _ => by
    show ps.getD 0 0 = ((0 : Nat) : Int) + ps.getD 0 0
    omega
  | m + 1, hm => by
    have ih := rch_sum hr hp m (by omega)
    unfold rchB at hr
    have z := of_decide_eq_true (List.all_eq_true.mp hr m (List.mem_range.mpr (by omega)))
    show ps.getD 0 0 = ((wc ks ns most es m + costN ks ns most (begAt es m) (es.getD m 0).toNat : Nat) : Int) + ps.getD (es.getD m 0).toNat 0
    omega
theorem acc_parts {es ps : List Int} (h : accB ks ns most es ps = true) : ps.length = ns.sum + 1 ∧ ps.getD ns.sum 0 = 0 ∧ allB ks ns most es = true ∧ lowB ks ns most ps = true ∧ rchB ks ns most es ps = true := by
  unfold accB at h
  rw [Bool.and_eq_true, Bool.and_eq_true, Bool.and_eq_true, Bool.and_eq_true] at h
  obtain ⟨h1, h2, h3, h4, h5⟩ := h
  have l := of_decide_eq_true h1
  have z := of_decide_eq_true h2
  rw [l, Nat.add_sub_cancel] at z
  exact ⟨l, z, h3, h4, h5⟩
theorem acc_least {es ps : List Int} (hp : Pth ks ns most es) (h : accB ks ns most es ps = true) : wc ks ns most es es.length = loD ks ns most 0 ∧ ps.getD 0 0 = (wc ks ns most es es.length : Int) := by
  obtain ⟨l, z, h3, h4, h5⟩ := acc_parts h
  have r := rch_sum h5 hp.all es.length (Nat.le_refl _)
  rw [hp.last, z] at r
  obtain ⟨a, ha⟩ := hp.lo es.length 0 (by omega)
  have ha0 : LO ks ns most 0 = some a := ha
  have q := low_lo h4 z ns.sum 0 a (by omega) ha0
  have m := hp.least
  have e : loD ks ns most 0 = a := by unfold loD; rw [ha0]; rfl
  rw [e] at m ⊢
  constructor
  · omega
  · omega
def plain (ks : List Str) (ns : List Nat) (most : Nat) : List Int := (List.range (ns.sum + 1)).map fun s => (((LO ks ns most s).getD 1000000 : Nat) : Int)
theorem plain_get {s : Nat} (h : s ≤ ns.sum) : (plain ks ns most).getD s 0 = (((LO ks ns most s).getD 1000000 : Nat) : Int) := by
  unfold plain
  rw [List.getD_eq_getElem?_getD, List.getElem?_map, List.getElem?_range (by omega)]
  rfl
theorem acc_plain {es : List Int} (hp : Pth ks ns most es) (hb : most ^ 2 * ns.sum ≤ 1000000) : accB ks ns most es (plain ks ns most) = decide (wc ks ns most es es.length = loD ks ns most 0) := by
  by_cases t : wc ks ns most es es.length = loD ks ns most 0
  · rw [decide_eq_true t]
    unfold accB
    have l : (plain ks ns most).length = ns.sum + 1 := by unfold plain; rw [List.length_map, List.length_range]
    have z : (plain ks ns most).getD ((plain ks ns most).length - 1) 0 = 0 := by
      rw [l, Nat.add_sub_cancel, plain_get (Nat.le_refl _), LO_end]
      rfl
    have h3 : allB ks ns most es = true := by
      unfold allB
      rw [hp.all, decide_eq_true hp.last]
      rfl
    have h4 : lowB ks ns most (plain ks ns most) = true := by
      unfold lowB
      refine List.all_eq_true.mpr fun b hbm => List.all_eq_true.mpr fun e he => ?_
      have bl := List.mem_range.mp hbm
      have le := ends_mem he
      unfold okP
      refine decide_eq_true ?_
      rw [plain_get (by omega), plain_get (by omega)]
      cases hc : LO ks ns most e with
      | some c =>
        obtain ⟨a, ha, l2⟩ := LO_le bl he hc
        rw [ha]
        show ((a : Nat) : Int) ≤ _ + ((c : Nat) : Int)
        omega
      | none =>
        show _ ≤ _ + ((1000000 : Nat) : Int)
        cases ha : LO ks ns most b with
        | none =>
          show ((1000000 : Nat) : Int) ≤ _
          omega
        | some a =>
          have := LO_bound (ns.sum - b) b a (by omega) ha
          have h2 : most ^ 2 * (ns.sum - b) ≤ most ^ 2 * ns.sum := Nat.mul_le_mul_left _ (by omega)
          show ((a : Nat) : Int) ≤ _
          omega
    have h5 : rchB ks ns most es (plain ks ns most) = true := by
      unfold rchB
      refine List.all_eq_true.mpr fun i him => ?_
      have il := List.mem_range.mp him
      refine decide_eq_true ?_
      have q := hp.tight t il
      obtain ⟨n, e1, hn, e2⟩ := allU_len hp.all i il
      have le := ends_mem hn
      have e3 := getD_of e1
      obtain ⟨a, ha⟩ := hp.lo (es.length - i) i (by omega)
      obtain ⟨c, hc⟩ := hp.lo (es.length - (i + 1)) (i + 1) (by omega)
      have e4 : loD ks ns most (begAt es i) = a := by unfold loD; rw [ha]; rfl
      have e5 : loD ks ns most (begAt es (i + 1)) = c := by unfold loD; rw [hc]; rfl
      rw [e4, e5] at q
      rw [e2] at hc
      rw [e3, Int.toNat_natCast] at q ⊢
      rw [plain_get (by omega), plain_get (by omega), ha, hc]
      show ((a : Nat) : Int) = _ + ((c : Nat) : Int)
      omega
    rw [decide_eq_true l, decide_eq_true z, h3, h4, h5]
    rfl
  · rw [decide_eq_false t]
    cases q : accB ks ns most es (plain ks ns most) with
    | false => rfl
    | true => exact absurd (acc_least hp q).1 t
end
end Sx

set_option Elab.async false
set_option linter.all false
set_option maxRecDepth 100000
set_option maxHeartbeats 1000000
namespace Sx
open PySem PySem.Spec PyProof.Rows L2 SxA
theorem stop_own {ks : List Str} {ns : List Nat} {e k j : Nat} (hC : Counts ks ns) (h : (own (nN ns) ns.length)[e]? = some (k, j)) : stopB ks ns (e + 1) = decide (ks.getD k "" = "break") := by
  obtain ⟨h1, h2, h3⟩ := own_inv _ _ _ _ _ h
  have one : ∀ k, k < ns.length → ks.getD k "" = "break" → nN ns k = 1 := fun k hk hb => by
    have hkk : k < ks.length := by rw [← hC.len]; exact hk
    refine hC.brk k (ks.getD k "") (nN ns k) ?_ ?_ hb
    · rw [List.getD_eq_getElem?_getD, List.getElem?_eq_getElem hkk]; rfl
    · unfold nN
      rw [List.getD_eq_getElem?_getD, List.getElem?_eq_getElem hk]; rfl
  by_cases b : ks.getD k "" = "break"
  · rw [decide_eq_true b]
    unfold stopB stopU
    refine List.any_eq_true.mpr ⟨k, List.mem_range.mpr h1, ?_⟩
    have n1 := one k h1 b
    rw [decide_eq_true b, Bool.true_and]
    refine decide_eq_true ?_
    unfold offN
    rw [own_mono]
    omega
  · rw [decide_eq_false b]
    refine Bool.eq_false_iff.mpr fun q => ?_
    unfold stopB stopU at q
    obtain ⟨k', hk', q⟩ := List.any_eq_true.mp q
    rw [Bool.and_eq_true] at q
    have b' := of_decide_eq_true q.1
    have e' := of_decide_eq_true q.2
    have l' := List.mem_range.mp hk'
    have n1 := one k' l' b'
    unfold offN at e'
    rw [own_mono] at e'
    have g := own_get (nN ns) ns.length k' 0 l' (by omega)
    rw [show (own (nN ns) k').length + 0 = e by omega, h] at g
    cases g
    exact b b'
def spLawEnds : Sp := fun vs H Q _ => ∃ (b l : Addr) (bs : List V) (ks : List Str) (ns : List Nat) (most st : Nat), vs = [.int ((most : Int) + 1), .ref b, .ref l, nv st] ∧ BkAt H b l bs ks ns ∧ most ≤ 1000 ∧ st ≤ 6000 ∧
  ∀ p H', H p = none → Same H H' → H' p = some (.lst ((endsL ks ns most st).map nv)) → Q (.ref p) H'
def spLawCost : Sp := fun vs H Q _ => ∃ (b l : Addr) (bs : List V) (ks : List Str) (ns : List Nat) (most st e : Nat), vs = [.int ((most : Int) + 1), .ref b, .ref l, nv st, nv e] ∧ BkAt H b l bs ks ns ∧ most ≤ 1000 ∧ st < e ∧ e ≤ st + most ∧ e ≤ ns.sum ∧
  ∀ H', Same H H' → Q (nv (costN ks ns most st e)) H'
theorem BkAt.nb {H : Hp} {b l : Addr} {bs : List V} {ks : List Str} {ns : List Nat} (h : BkAt H b l bs ks ns) : ns.sum ≤ 6000 ∧ ns.length ≤ 1000 := by
  have := sum_le ns h.2.2.1.pos
  have := h.2.2.1.len
  have := h.2.2.2
  omega
section
variable {P : Program} {w : World} {K : PySem.W.Frag} {mg : Str → Option Value} {base : Heap}
/-- blocks[owners[e - 1][0]][0] -/
theorem kind_of_line {H : Hp} {b l po : Addr} {bs ov : List V} {ks : List Str} {ns : List Nat} {e : Nat} (hB : BkAt H b l bs ks ns) (hO : OwnAt H po ov (own (nN ns) ns.length)) (h1 : 1 ≤ e) (h2 : e ≤ ns.sum) :
    ∃ (r q : Addr) (k : Nat) (x : V) (kd : Str) (rest : List V), atI ov ((e : Int) - 1) = some (.ref r) ∧ H r = some (.tup [nv k, x]) ∧ atI bs (k : Int) = some (.ref q) ∧ H q = some (.tup (.str kd :: rest)) ∧ decide (V.str kd = V.str "break") = stopB ks ns e := by
  have tot := own_total ns
  obtain ⟨⟨k, j⟩, e1⟩ : ∃ q, (own (nN ns) ns.length)[e - 1]? = some q := ⟨_, List.getElem?_eq_getElem (by omega)⟩
  obtain ⟨k1, j1, i1⟩ := own_inv _ _ _ _ _ e1
  obtain ⟨r, er, hr'⟩ := hO.get e1
  have st := stop_own hB.2.2.1 e1
  rw [show e - 1 + 1 = e by omega] at st
  have klt : k < ks.length := by rw [← hB.2.2.1.len]; exact k1
  have hk : ks[k]? = some ks[k] := List.getElem?_eq_getElem klt
  have hbv : bs[k]? = some (bs[k]'(by rw [hB.1.len]; exact klt)) := List.getElem?_eq_getElem _
  obtain ⟨q, rest, e2, hq⟩ := hB.1.el k _ _ hbv hk
  rw [e2] at hbv
  have ekd : ks.getD k "" = ks[k] := by
    rw [List.getD_eq_getElem?_getD, hk]
    rfl
  rw [ekd] at st
  refine ⟨r, q, k, _, ks[k], rest, ?_, hr', atI_nat hbv, hq, ?_⟩
  · rw [show (e : Int) - 1 = ((e - 1 : Nat) : Int) by omega]
    exact atI_nat er
  · rw [st, decide_eq_decide]
    exact ⟨V.str.inj, fun z => by rw [z]⟩
abbrev nsLawPageCost : List Str := ["height", "blocks", "counts", "start", "end", "owners"]
theorem scLawPageCost : FnScope nsLawPageCost ["height", "blocks", "counts", "start", "end"] (defScope sLawPageCost) := ⟨rfl, rfl, rfl, by decide +kernel, rfl, by decide +kernel, by decide +kernel⟩
theorem ok_law_page_cost (t : T K mg) : Ok P w K mg base 2 "_law_page_cost" ["height", "blocks", "counts", "start", "end"] spLawCost := by
  refine mkOk t.d_law_page_cost t.g_law_page_cost scLawPageCost (fun vs H Q E h => ?_) (fun _ _ _ _ _ _ us hl => match us, hl with | [_, _, _, _, _], _ => rfl) fun cdv A outer s H vs Q E hr h => ?_
  · obtain ⟨b, l, bs, ks, ns, most, st, e, rfl, _⟩ := h; rfl
  obtain ⟨b, l, bs, ks, ns, most, st, e, rfl, hB, hm, h1, h2, h3, k⟩ := h
  have hr1 : Room 1 _ := hr.mono (by decide)
  refine ⟨_, pss_cons (ps_set (i := 5) scLawPageCost.nd rfl (Or.inl rfl) (pe_ok (ok_law_owners t) hr1 rfl (pa_cons (pv 2) pa_nil)))
    (pss_cons (ps_if (PW.pt (pw_or (pt_cmpR op_eq (pv 4) (pe_callB call_len_seq rfl t.f_len boot_len (pa_cons (pv 5) pa_nil)) (nomark _)) (pw_or1 (pt_cmpR op_eq (pe_ix ix_tup (pe_ix ix_list (pv 1) (pe_ix ix_tup (pe_ix ix_list (pv 5) (pe_op op_sub (pv 4) pe_int) (fun _ _ => rfl)) pe_int (fun _ _ => rfl)) (fun _ _ => rfl)) pe_int (fun _ _ => rfl)) pe_str (nomark _)))))
      (pss_one (ps_ret pe_int))
      pss_nil)
    (pss_one (ps_ret (pe_op op_mul (pe_op op_add (pe_op op_sub (pe_op op_sub (pv 0) pe_int) (pv 4)) (pv 3)) (pe_op op_add (pe_op op_sub (pe_op op_sub (pv 0) pe_int) (pv 4)) (pv 3)))))), ?_⟩
  refine ⟨_, rfl, l, ns, rfl, hB.2.1, hB.nb.2, hB.2.2.1.pos, fun po ov H1 s1 hO => ?_⟩
  have hB1 := hB.same s1
  obtain ⟨r, q, kk, x, kd, rest, a1, hr', a2, hq, ek⟩ := kind_of_line hB1 hO (by omega) h3
  have zero : stopB ks ns e = true ∨ e = ns.sum → Q (.int 0) H1 := fun h => by
    have k1 := k H1 s1
    unfold costN at k1
    rw [if_pos h] at k1
    exact k1
  refine ⟨_, rfl, _, rfl, po, _, rfl, .inl (SqL.of hO.at_), rfl, _, rfl, ?_⟩
  have e1 : decide (nv e = V.int (ov.length : Nat)) = decide (e = ns.sum) := by
    rw [hO.len, own_total]
    exact nv_eq _ _
  refine ite2 (fun c1 => iteT (zero (.inr (of_decide_eq_true (e1.symm.trans c1))))) (fun c1 => ?_)
  have n1 : e ≠ ns.sum := fun z => c1 (e1.trans (decide_eq_true z))
  refine ⟨_, rfl, _, rfl, _, rfl, _, _, rfl, rfl, po, _, _, _, rfl, rfl, SqL.of hO.at_, a1, r, _, _, nv kk, rfl, rfl, SqT.of hr', atI_nat (j := 0) rfl, b, _, _, _, rfl, rfl, SqL.of hB1.1.at_, a2, q, _, _, .str kd, rfl, rfl, SqT.of hq, atI_nat (j := 0) rfl, rfl, _, rfl, ?_⟩
  refine ite2 (fun c2 => zero (.inl (ek.symm.trans c2))) (fun c2 => ?_)
  have n2 : ¬ (stopB ks ns e = true ∨ e = ns.sum) := fun z => z.elim (fun z => c2 (ek.trans z)) n1
  have k1 := k H1 s1
  unfold costN at k1
  rw [if_neg n2] at k1
  refine ⟨_, rfl, _, _, rfl, rfl, _, rfl, _, _, rfl, rfl, _, rfl, _, _, rfl, rfl, _, rfl, _, _, rfl, rfl, _, rfl, _, _, rfl, rfl, _, rfl, _, _, rfl, rfl, _, _, rfl, rfl, .inl ⟨?_, ?_⟩, ?_⟩
  · show -(2 ^ 64) < (most : Int) + 1 - 1 - (e : Int) + (st : Int); omega
  · show (most : Int) + 1 - 1 - (e : Int) + (st : Int) < 2 ^ 64; omega
  · have e3 : ((most : Int) + 1 - 1 - (e : Int) + (st : Int)) * ((most : Int) + 1 - 1 - (e : Int) + (st : Int)) = (((most - (e - st)) ^ 2 : Nat) : Int) := by
      rw [Nat.pow_two, Int.natCast_mul]
      have : (most : Int) + 1 - 1 - (e : Int) + (st : Int) = ((most - (e - st) : Nat) : Int) := by omega
      rw [this]
    show Q (.int (((most : Int) + 1 - 1 - (e : Int) + (st : Int)) * ((most : Int) + 1 - 1 - (e : Int) + (st : Int)))) H1
    rw [e3]
    exact k1
abbrev nsLawEnds : List Str := ["height", "blocks", "counts", "start", "owners", "found", "end"]
theorem scLawEnds : FnScope nsLawEnds ["height", "blocks", "counts", "start"] (defScope sLawEnds) := ⟨rfl, rfl, rfl, by decide +kernel, rfl, by decide +kernel, by decide +kernel⟩
theorem ok_law_ends (t : T K mg) : Ok P w K mg base 3 "_law_ends" ["height", "blocks", "counts", "start"] spLawEnds := by
  refine mkOk t.d_law_ends t.g_law_ends scLawEnds (fun vs H Q E h => ?_) (fun _ _ _ _ _ _ us hl => match us, hl with | [_, _, _, _], _ => rfl) fun cdv A outer s H vs Q E hr h => ?_
  · obtain ⟨b, l, bs, ks, ns, most, st, rfl, _⟩ := h; rfl
  obtain ⟨b, l, bs, ks, ns, most, st, rfl, hB, hm, hst, k⟩ := h
  have hr1 : Room 1 _ := hr.mono (by decide)
  have hr2 : Room 2 _ := hr.mono (by decide)
  refine ⟨_, pss_cons (ps_set (i := 4) scLawEnds.nd rfl (Or.inl rfl) (pe_ok (ok_law_owners t) hr1 rfl (pa_cons (pv 2) pa_nil)))
    (pss_cons (ps_set (i := 5) scLawEnds.nd rfl (Or.inl rfl) (pe_lst pa_nil))
    (pss_cons (ps_for PassesOwn.never rfl (pi_range2 rfl t.f_range (pa_cons (pe_op op_add (pv 3) pe_int) (pa_cons (pe_op op_add (pe_callB (call_min2 rfl) rfl t.f_min (by decide +kernel) (pa_cons (pe_callB call_len_seq rfl t.f_len boot_len (pa_cons (pv 4) pa_nil)) (pa_cons (pe_op op_sub (pe_op op_add (pv 3) (pv 0)) pe_int) pa_nil))) pe_int) pa_nil))) (pg_name (i := 6) scLawEnds.nd rfl (Or.inl rfl))
      (C8.pss_cut (ps_if (pt_val (pe_ok (ok_law_may t) hr2 rfl (pa_cons (pv 1) (pa_cons (pv 2) (pa_cons (pv 6) pa_nil)))))
      (pss_one (ps_expr (pe_bm PySem.F.plainAttrs_list PySem.F.slot_list_append PySem.F.type_list_append mt_append (pv 5) (pa_cons (pv 6) pa_nil))))
      pss_nil)
    (pss_one (ps_if (pt_cmpR op_eq (pe_ix ix_tup (pe_ix ix_list (pv 1) (pe_ix ix_tup (pe_ix ix_list (pv 4) (pe_op op_sub (pv 6) pe_int) (fun _ _ => rfl)) pe_int (fun _ _ => rfl)) (fun _ _ => rfl)) pe_int (fun _ _ => rfl)) pe_str (nomark _))
      (pss_one (ps_ret (pv 5)))
      pss_nil))))
    (pss_one (ps_ret (pv 5))))), ?_⟩
  have nb := hB.nb
  refine ⟨_, rfl, l, ns, rfl, hB.2.1, hB.nb.2, hB.2.2.1.pos, fun po ov H1 s1 hO => ?_⟩
  have hlen : ov.length = ns.sum := by rw [hO.len, own_total]
  refine ⟨(by show 0 ≤ sizeLine; decide), fun D hD => ?_⟩
  have hO1 : OwnAt (upd H1 D (.lst [])) po ov (own (nN ns) ns.length) := ⟨Same.new hD _ _ hO.at_, hO.len, fun i v q a c => by
    obtain ⟨r, e, hr'⟩ := hO.el i v q a c
    exact ⟨r, e, Same.new hD _ _ hr'⟩⟩
  have sD : Same H (upd H1 D (.lst [])) := fun c o e => Same.new hD _ _ (s1 _ _ e)
  have hDH : H D = none := Sx.Same.none s1 _ hD
  refine ⟨_, rfl, _, _, rfl, rfl, _, rfl, po, _, rfl, .inl (SqL.of hO1.at_), _, rfl, _, rfl, _, _, rfl, rfl, _, _, rfl, rfl, _, _, rfl, _, _, rfl, rfl, _, _, rfl, ⟨by omega, by omega, ?_, ?_⟩, ?_⟩
  · rw [hlen]; split <;> omega
  · rw [hlen]; split <;> omega
  rw [hlen]
  have eL : ((if ((st : Int) + ((most : Int) + 1) - 1) < ((ns.sum : Nat) : Int) then (st : Int) + ((most : Int) + 1) - 1 else ((ns.sum : Nat) : Int)) + 1 - ((st : Int) + 1)).toNat = min (st + most) ns.sum - st := by
    split <;> omega
  rw [eL]
  have own_same : ∀ H2, Same (upd H1 D (.lst [])) H2 → True := fun _ _ => trivial
  refine for_range (lo := (st : Int) + 1) (n := min (st + most) ns.sum - st) (fun i σ' H' => (∃ (acc : List Nat) (o3 : Option V), σ' = [some (.int ((most : Int) + 1)), some (.ref b), some (.ref l), some (nv st), some (.ref po), some (.ref D), o3] ∧ H' D = some (.lst (acc.map nv)) ∧ acc.length ≤ i ∧ acc ++ goE (parB ks ns) (stopB ks ns) ((cand ns.sum most st).drop i) = endsL ks ns most st) ∧ Same H1 H') ?_ ?_ ?_
  · exact ⟨⟨[], none, rfl, upd_same, Nat.le_refl _, rfl⟩, Same.new hD⟩
  · rintro i σ' H' hi ⟨⟨acc, o3, rfl, hA, al, hE⟩, s2⟩
    rw [cand_drop hi] at hE
    unfold goE at hE
    have ee : (st : Int) + 1 + (i : Int) = ((st + 1 + i : Nat) : Int) := by omega
    rw [ee]
    have sH : Same H H' := fun c o e => s2 _ _ (s1 _ _ e)
    refine ⟨fun σ2 H2 => (∃ (acc2 : List Nat), σ2 = [some (.int ((most : Int) + 1)), some (.ref b), some (.ref l), some (nv st), some (.ref po), some (.ref D), some (nv (st + 1 + i))] ∧ H2 D = some (.lst (acc2.map nv)) ∧ acc2.length ≤ i + 1 ∧ acc2 ++ (if stopB ks ns (st + 1 + i) = true then [] else goE (parB ks ns) (stopB ks ns) ((cand ns.sum most st).drop (i + 1))) = endsL ks ns most st) ∧ Same H1 H2, ?_, ?_⟩
    · refine ⟨_, rfl, _, rfl, _, rfl, b, l, bs, ks, ns, st + 1 + i, parB ks ns (st + 1 + i), rfl, (hB.same sH).1, (hB.same sH).2.1, hB.2.2.1, hB.2.2.2, by omega, by omega, parB_get (by omega), fun H3 s3 => ⟨_, rfl, ?_⟩⟩
      have hA3 := s3 _ _ hA
      have s13 : Same H1 H3 := fun c o e => s3 _ _ (s2 _ _ e)
      refine ite2 (fun h1 => ?_) (fun h1 => ?_)
      · rw [if_pos h1, ← List.append_assoc] at hE
        refine ⟨_, rfl, .inl ⟨rfl, _, SqL.of hA3⟩, _, rfl, D, _, _, rfl, rfl, hA3, (by rw [List.length_map]; exact small1 (by omega)), ⟨acc ++ [st + 1 + i], rfl, by rw [upd_same, List.map_append]; rfl, by rw [List.length_append]; exact Nat.succ_le_succ al, hE⟩, Same.put s13 hD⟩
      · rw [if_neg h1, List.nil_append] at hE
        exact ⟨⟨acc, rfl, hA3, by omega, hE⟩, s13⟩
    · rintro σ2 H2 ⟨⟨acc2, rfl, hA2, al2, hE2⟩, s3⟩
      have sH2 : Same H H2 := fun c o e => s3 _ _ (s1 _ _ e)
      have hB2 := hB.same sH2
      have hO2 : OwnAt H2 po ov (own (nN ns) ns.length) := ⟨s3 _ _ hO.at_, hO.len, fun i v q a c => by
        obtain ⟨r, e, hr'⟩ := hO.el i v q a c
        exact ⟨r, e, s3 _ _ hr'⟩⟩
      obtain ⟨r, q, kk, x, kd, rest, a1, hr', a2, hq, ek⟩ := kind_of_line hB2 hO2 (e := st + 1 + i) (by omega) (by omega)
      refine ⟨_, rfl, _, rfl, _, rfl, _, _, rfl, rfl, po, _, _, _, rfl, rfl, SqL.of hO2.at_, a1, r, _, _, nv kk, rfl, rfl, SqT.of hr', atI_nat (j := 0) rfl, b, _, _, _, rfl, rfl, SqL.of hB2.1.at_, a2, q, _, _, .str kd, rfl, rfl, SqT.of hq, atI_nat (j := 0) rfl, rfl, _, rfl, ?_⟩
      refine ite2 (fun h1 => ?_) (fun h1 => ?_)
      · rw [if_pos (ek.symm.trans h1), List.append_nil] at hE2
        exact ⟨_, rfl, k D H2 hDH sH2 (by rw [hA2, hE2])⟩
      · rw [if_neg (fun z => h1 (ek.trans z))] at hE2
        exact ⟨⟨acc2, _, rfl, hA2, al2, hE2⟩, s3⟩
  · rintro σ' H' ⟨⟨acc, o3, rfl, hA, al, hE⟩, s2⟩
    rw [List.drop_of_length_le (by rw [cand_len]; exact Nat.le_refl _)] at hE
    unfold goE at hE
    rw [List.append_nil] at hE
    exact ⟨_, rfl, k D H' hDH (fun c o e => s2 _ _ (s1 _ _ e)) (by rw [hA, hE])⟩
end
end Sx

set_option Elab.async false
set_option linter.all false
set_option maxRecDepth 100000
set_option maxHeartbeats 1000000
namespace Sx
open PySem PySem.Spec PyProof.Rows L2 SxA
def oN : Option Nat → V
  | none => .non
  | some c => nv c
def loL (ks : List Str) (ns : List Nat) (most : Nat) : List V := (List.range (ns.sum + 1)).map fun s => oN (LO ks ns most s)
def spLeast : Sp := fun vs H Q _ => ∃ (b l : Addr) (bs : List V) (ks : List Str) (ns : List Nat) (most : Nat), vs = [.int ((most : Int) + 1), .ref b, .ref l] ∧ BkAt H b l bs ks ns ∧ most ≤ 1000 ∧
  ∀ p H', H p = none → Same H H' → H' p = some (.lst (loL ks ns most)) → Q (.ref p) H'
theorem range_set {f g : Nat → V} {n s : Nat} {v : V} (hs : s < n) (hv : v = g s) (h : ∀ i, i ≠ s → f i = g i) : ((List.range n).map f).set s v = (List.range n).map g := by
  refine List.ext_getElem? fun i => ?_
  by_cases e : i = s
  · subst e
    rw [List.getElem?_set_self (by rw [List.length_map, List.length_range]; exact hs), List.getElem?_map, List.getElem?_range hs, hv]
    rfl
  · rw [List.getElem?_set_ne (fun z => e z.symm)]
    by_cases hi : i < n
    · rw [List.getElem?_map, List.getElem?_range hi, List.getElem?_map, List.getElem?_range hi]
      show some (f i) = some (g i)
      rw [h i e]
    · rw [List.getElem?_eq_none (by rw [List.length_map, List.length_range]; omega), List.getElem?_eq_none (by rw [List.length_map, List.length_range]; omega)]
theorem range_get {f : Nat → V} {n s : Nat} (hs : s < n) : atI ((List.range n).map f) (s : Int) = some (f s) := by
  refine atI_nat ?_
  rw [List.getElem?_map, List.getElem?_range hs]
  rfl
theorem ixN_nat {n k : Nat} (h : k < n) : ixN n (k : Int) = some k := by
  unfold ixN
  rw [if_pos (by omega), if_pos (by omega)]
  simp
theorem foldl_take {ks : List Str} {ns : List Nat} {most : Nat} {f : Nat → Option Nat} {b : Nat} {l : List Nat} {j e : Nat} (h : l[j]? = some e) : (l.take (j + 1)).foldl (stepL ks ns most f b) none = stepL ks ns most f b ((l.take j).foldl (stepL ks ns most f b) none) e := by
  rw [List.take_add_one, h]
  show (l.take j ++ [e]).foldl _ _ = _
  rw [List.foldl_append]
  rfl
section
variable {P : Program} {w : World} {K : PySem.W.Frag} {mg : Str → Option Value} {base : Heap}
abbrev nsLawLeast : List Str := ["height", "blocks", "counts", "total", "least", "k", "start", "end", "cost"]
theorem scLawLeast : FnScope nsLawLeast ["height", "blocks", "counts"] (defScope sLawLeast) := ⟨rfl, rfl, rfl, by decide +kernel, rfl, by decide +kernel, by decide +kernel⟩
theorem ok_law_least (t : T K mg) : Ok P w K mg base 4 "_law_least" ["height", "blocks", "counts"] spLeast := by
  refine mkOk t.d_law_least t.g_law_least scLawLeast (fun vs H Q E h => ?_) (fun _ _ _ _ _ _ us hl => match us, hl with | [_, _, _], _ => rfl) fun cdv A outer s H vs Q E hr h => ?_
  · obtain ⟨b, l, bs, ks, ns, most, rfl, _⟩ := h; rfl
  obtain ⟨b, l, bs, ks, ns, most, rfl, hB, hm, k⟩ := h
  have hr2 : Room 2 _ := hr.mono (by decide)
  have hr3 : Room 3 _ := hr.mono (by decide)
  refine ⟨_, pss_cons (ps_set (i := 3) scLawLeast.nd rfl (Or.inl rfl) (pe_callB (cr_sum rfl) rfl t.f_sum (by decide +kernel) (pa_cons (pv 2) pa_nil)))
    (pss_cons (ps_set (i := 4) scLawLeast.nd rfl (Or.inl rfl) (pe_op op_cat (pe_lc (own := [("k", 5)]) (g := gName 5) (tt := tYes) rfl scLawLeast.nd (pi_range1 rfl t.f_range (pa_cons (pv 3) pa_nil)) (blkOk_by (own := [("k", 5)]) (N := nsLawLeast) (sc := defScope sLawLeast) (by decide +kernel)) (fun _ _ _ _ _ => pg_name (i := 5) scLawLeast.nd rfl (Or.inl rfl)) (fun _ _ _ _ _ => pts_nil) (fun _ _ _ _ _ => pe_non)) (pe_lst (pa_cons pe_int pa_nil))))
    (pss_cons (ps_for PassesOwn.never rfl (pi_revR (by rfl) t.f_reversed (prg_1 rfl t.f_range (pv 3))) (pg_name (i := 6) scLawLeast.nd rfl (Or.inl rfl))
      (pss_one (ps_for PassesOwn.never rfl (pi_list (pe_ok (ok_law_ends t) hr3 rfl (pa_cons (pv 0) (pa_cons (pv 1) (pa_cons (pv 2) (pa_cons (pv 6) pa_nil)))))) (pg_name (i := 7) scLawLeast.nd rfl (Or.inl rfl))
      (pss_one (ps_if (pt_cmpR op_notN (pe_ix ix_list (pv 4) (pv 7) (fun _ _ => rfl)) pe_non (nomark _))
      (pss_cons (ps_set (i := 8) scLawLeast.nd rfl (Or.inl rfl) (pe_op op_add (pe_ok (ok_law_page_cost t) hr2 rfl (pa_cons (pv 0) (pa_cons (pv 1) (pa_cons (pv 2) (pa_cons (pv 6) (pa_cons (pv 7) pa_nil)))))) (pe_ix ix_list (pv 4) (pv 7) (fun _ _ => rfl))))
    (pss_one (ps_if (PW.pt (pw_or (pt_cmpR op_isN (pe_ix ix_list (pv 4) (pv 6) (fun _ _ => rfl)) pe_non (nomark _)) (pw_or1 (pt_cmpR op_lt (pv 8) (pe_ix ix_list (pv 4) (pv 6) (fun _ _ => rfl)) (nomark _)))))
      (pss_one (ps_asg (pv 8) (pg_sub (pv 4) (pv 6) set_list)))
      pss_nil)))
      pss_nil)))))
    (pss_one (ps_ret (pv 4))))), ?_⟩
  have nb := hB.nb
  have eL : (ns.map nv) = (ns.map fun n : Nat => (n : Int)).map V.int := by rw [List.map_map]; rfl
  refine ⟨_, rfl, l, _, rfl, SqL.of (hB.2.1.trans (by rw [eL])), ?_⟩
  rw [sum_nv]
  refine ⟨_, rfl, _, rfl, by omega, by omega, fun D hD => ?_⟩
  refine lc_rangeF (lo := 0) (n := ((ns.sum : Nat) : Int).toNat) (i0 := 5) (f := fun _ => true) (F := fun _ => .non) hD (Nat.le_trans (show ((ns.sum : Nat) : Int).toNat ≤ 100000 by omega) (by decide)) (fun _ => rfl) (fun j H1 Q1 hj sm q1 => q1) (fun j H1 Q1 hj sm q1 => q1) (fun H1 s1 hD1 => ?_)
  refine ⟨(by show 1 ≤ sizeLine; decide), fun D2 hD2 => ?_⟩
  have n12 : D ≠ D2 := ne_of_none hD1 hD2
  refine ⟨D, D2, _, _, rfl, rfl, by rw [upd_ne n12]; exact hD1, upd_same, ?_, fun p hp => ?_⟩
  · rw [List.length_map, ft, List.length_range]
    exact Nat.le_trans (show ((ns.sum : Nat) : Int).toNat + 1 ≤ 100000 by omega) (by decide)
  have s2 : ∀ c o, H c = some o → ∀ o2, upd (upd H1 D2 (.lst [V.int 0])) p o2 c = some o := fun c o e o2 => by
    have a1 : upd H1 D2 (.lst [V.int 0]) c = some o := Same.new hD2 _ _ (s1 _ _ e)
    exact Same.new hp _ _ a1
  have hpH : H p = none := by
    have h1 : upd H1 D2 (.lst [V.int 0]) p = none := hp
    cases q : H p with
    | none => rfl
    | some o =>
      have := Same.new (o := .lst [V.int 0]) hD2 _ _ (s1 _ _ q)
      rw [this] at h1
      cases h1
  have e0 : ((List.range ((ns.sum : Nat) : Int).toNat).filter fun _ => true).map (fun _ => V.non) ++ [V.int 0] = (List.range (ns.sum + 1)).map fun s => oN (tab ks ns most 0 s) := by
    rw [ft, List.range_succ, List.map_append, Int.toNat_natCast]
    congr 1
    · refine List.map_congr_left fun s hs => ?_
      have := List.mem_range.mp hs
      unfold tab
      rw [if_neg (by omega)]
      rfl
    · show [V.int 0] = [oN (if ns.sum = ns.sum then some 0 else none)]
      rw [if_pos rfl]
      rfl
  refine ⟨_, rfl, _, rfl, by omega, by omega, by omega, by omega, ?_⟩
  have eN : (((ns.sum : Nat) : Int) - 0).toNat = ns.sum := by omega
  rw [eN, Int.zero_add]
  refine for_rangeC (lo := ((ns.sum : Nat) : Int) - 1) (c := -1) (n := ns.sum) (fun i σ' H' => (∃ o6 o7 o8 : Option V, σ' = [some (.int ((most : Int) + 1)), some (.ref b), some (.ref l), some (.int ((ns.sum : Nat) : Int)), some (.ref p), none, o6, o7, o8]) ∧ H' p = some (.lst ((List.range (ns.sum + 1)).map fun s => oN (tab ks ns most i s))) ∧ Same H H') ?_ ?_ ?_
  · exact ⟨⟨_, _, _, rfl⟩, by rw [upd_same, e0], fun c o e => s2 c o e _⟩
  · rintro i σ' H' hi ⟨⟨o6, o7, o8, rfl⟩, hL, s3⟩
    obtain ⟨st, hst⟩ : ∃ st, ns.sum = st + (i + 1) := ⟨ns.sum - (i + 1), by omega⟩
    have es : ((ns.sum : Nat) : Int) - 1 + (i : Int) * -1 = (st : Int) := by omega
    rw [es]
    refine ⟨_, rfl, _, rfl, _, rfl, _, rfl, b, l, bs, ks, ns, most, st, rfl, hB.same s3, hm, by omega, fun q H2 hq s4 hE => ?_⟩
    have s34 : Same H H2 := fun c o e => s4 _ _ (s3 _ _ e)
    have npq : p ≠ q := ne_of_none hL hq
    refine ⟨q, rfl, ⟨_, SqL.of hE⟩, ?_⟩
    refine for_list (K := K) (a := q) (xs := (endsL ks ns most st).map nv) (fun j σ3 H3 => (∃ o7 o8 : Option V, σ3 = [some (.int ((most : Int) + 1)), some (.ref b), some (.ref l), some (.int ((ns.sum : Nat) : Int)), some (.ref p), none, some (nv st), o7, o8]) ∧
      H3 p = some (.lst ((List.range (ns.sum + 1)).map fun s => oN (if s = st then ((endsL ks ns most st).take j).foldl (stepL ks ns most (tab ks ns most i) st) none else tab ks ns most i s))) ∧ H3 q = some (.lst ((endsL ks ns most st).map nv)) ∧ Same H H3) ?_ (fun j σ3 H3 _ p => SqL.of p.2.2.1) ?_ ?_
    · refine ⟨⟨_, _, rfl⟩, ?_, hE, s34⟩
      rw [s4 _ _ hL]
      congr 2
      refine List.map_congr_left fun s hs => ?_
      by_cases e : s = st
      · subst e
        rw [if_pos rfl]
        have : ∀ d s, s + d < ns.sum → tab ks ns most d s = none := fun d => by
          induction d with
          | zero => intro s h; unfold tab; rw [if_neg (by omega)]
          | succ d ih => intro s h; unfold tab; rw [if_neg (by omega)]; exact ih s (by omega)
        rw [this i s (by omega)]
        rfl
      · rw [if_neg e]
    · rintro j v σ3 H3 hv ⟨⟨o7, o8, rfl⟩, hL3, hE3, s5⟩
      have jl : j < (endsL ks ns most st).length := by
        have := (List.getElem?_eq_some_iff.mp hv).1
        rw [List.length_map] at this
        exact this
      have he : (endsL ks ns most st)[j]? = some (endsL ks ns most st)[j] := List.getElem?_eq_getElem jl
      have hmem : (endsL ks ns most st)[j] ∈ endsL ks ns most st := List.getElem_mem jl
      obtain rfl : v = nv (endsL ks ns most st)[j] := by
        rw [List.getElem?_map, he] at hv
        exact (Option.some.inj hv).symm
      have tk := foldl_take (ks := ks) (ns := ns) (most := most) (f := tab ks ns most i) (b := st) he
      generalize (endsL ks ns most st)[j] = e at hmem tk
      have le := ends_mem hmem
      have ne : e ≠ st := by omega
      have ge := range_get (f := fun s => oN (if s = st then ((endsL ks ns most st).take j).foldl (stepL ks ns most (tab ks ns most i) st) none else tab ks ns most i s)) (show e < ns.sum + 1 by omega)
      have gs := range_get (f := fun s => oN (if s = st then ((endsL ks ns most st).take j).foldl (stepL ks ns most (tab ks ns most i) st) none else tab ks ns most i s)) (show st < ns.sum + 1 by omega)
      rw [if_neg ne] at ge
      rw [if_pos rfl] at gs
      obtain ⟨acc, hacc⟩ : ∃ acc, ((endsL ks ns most st).take j).foldl (stepL ks ns most (tab ks ns most i) st) none = acc := ⟨_, rfl⟩
      replace gs := gs.trans (congrArg (fun z => some (oN z)) hacc)
      rw [hacc] at tk
      refine ⟨_, rfl, _, rfl, p, _, _, _, rfl, rfl, SqL.of hL3, ge, rfl, _, rfl, ?_⟩
      cases hc : tab ks ns most i e with
      | none =>
        refine iteF ⟨⟨_, _, rfl⟩, ?_, hE3, s5⟩
        have e1 : stepL ks ns most (tab ks ns most i) st acc e = acc := by unfold stepL; rw [hc]
        rw [e1] at tk
        rw [tk, hL3, hacc]
      | some c =>
        rw [hc] at ge
        refine iteT ?_
        refine ⟨_, rfl, _, rfl, _, rfl, _, rfl, _, rfl, b, l, bs, ks, ns, most, st, e, rfl, hB.same s5, hm, by omega, by omega, by omega, fun H4 s6 => ?_⟩
        have hL4 := s6 _ _ hL3
        have hE4 := s6 _ _ hE3
        have s56 : Same H H4 := fun c o e => s6 _ _ (s5 _ _ e)
        refine ⟨_, rfl, _, rfl, p, _, _, _, rfl, rfl, SqL.of hL4, ge, _, _, rfl, rfl, ?_⟩
        have store : ∀ z : Nat, stepL ks ns most (tab ks ns most i) st acc e = some z → ((List.range (ns.sum + 1)).map fun s => oN (if s = st then ((endsL ks ns most st).take j).foldl (stepL ks ns most (tab ks ns most i) st) none else tab ks ns most i s)).set st (nv z) = (List.range (ns.sum + 1)).map fun s => oN (if s = st then ((endsL ks ns most st).take (j + 1)).foldl (stepL ks ns most (tab ks ns most i) st) none else tab ks ns most i s) := fun z hz => by
          refine range_set (by omega) ?_ fun s hs => ?_
          · rw [if_pos rfl, tk, hz]
            rfl
          · rw [if_neg hs, if_neg hs]
        have ix : ixN ((List.range (ns.sum + 1)).map fun s => oN (if s = st then ((endsL ks ns most st).take j).foldl (stepL ks ns most (tab ks ns most i) st) none else tab ks ns most i s)).length (st : Int) = some st := ixN_nat (by rw [List.length_map, List.length_range]; omega)
        refine ⟨_, rfl, _, rfl, p, _, _, _, rfl, rfl, SqL.of hL4, gs, rfl, _, rfl, ?_⟩
        have done : ∀ z : Nat, z = costN ks ns most st e + c → stepL ks ns most (tab ks ns most i) st acc e = some z → (∃ o7 o8 : Option V, [some (V.int ((most : Int) + 1)), some (.ref b), some (.ref l), some (.int ((ns.sum : Nat) : Int)), some (.ref p), none, some (nv st), some (nv e), some (nv z)] = [some (V.int ((most : Int) + 1)), some (.ref b), some (.ref l), some (.int ((ns.sum : Nat) : Int)), some (.ref p), none, some (nv st), o7, o8]) ∧
            upd H4 p (.lst (((List.range (ns.sum + 1)).map fun s => oN (if s = st then ((endsL ks ns most st).take j).foldl (stepL ks ns most (tab ks ns most i) st) none else tab ks ns most i s)).set st (nv z))) p = some (.lst ((List.range (ns.sum + 1)).map fun s => oN (if s = st then ((endsL ks ns most st).take (j + 1)).foldl (stepL ks ns most (tab ks ns most i) st) none else tab ks ns most i s))) ∧
            upd H4 p (.lst (((List.range (ns.sum + 1)).map fun s => oN (if s = st then ((endsL ks ns most st).take j).foldl (stepL ks ns most (tab ks ns most i) st) none else tab ks ns most i s)).set st (nv z))) q = some (.lst ((endsL ks ns most st).map nv)) ∧ Same H (upd H4 p (.lst (((List.range (ns.sum + 1)).map fun s => oN (if s = st then ((endsL ks ns most st).take j).foldl (stepL ks ns most (tab ks ns most i) st) none else tab ks ns most i s)).set st (nv z)))) := fun z _ hz =>
          ⟨⟨_, _, rfl⟩, by rw [upd_same, store z hz], by rw [upd_ne npq.symm]; exact hE4, Same.put s56 hpH⟩
        cases acc with
        | none =>
          refine iteT ?_
          refine ⟨_, rfl, _, rfl, _, rfl, p, _, _, _, rfl, rfl, hL4, ix, ?_⟩
          exact done (costN ks ns most st e + c) rfl (by unfold stepL; rw [hc])
        | some a0 =>
          refine iteF ?_
          refine ⟨_, rfl, _, rfl, _, rfl, p, _, _, _, rfl, rfl, SqL.of hL4, gs, _, _, rfl, rfl, _, rfl, ?_⟩
          have e9 : decide (((costN ks ns most st e : Nat) : Int) + ((c : Nat) : Int) < ((a0 : Nat) : Int)) = decide (costN ks ns most st e + c < a0) := by
            rw [decide_eq_decide]; omega
          refine ite2 (fun h1 => ?_) (fun h1 => ?_)
          · have h1' := of_decide_eq_true (e9.symm.trans h1)
            refine ⟨_, rfl, _, rfl, _, rfl, p, _, _, _, rfl, rfl, hL4, ix, ?_⟩
            exact done (costN ks ns most st e + c) rfl (by unfold stepL; rw [hc]; exact if_pos h1')
          · have h1' : ¬ costN ks ns most st e + c < a0 := fun z => h1 (e9.trans (decide_eq_true z))
            refine ⟨⟨_, _, rfl⟩, ?_, hE4, s56⟩
            have e1 : stepL ks ns most (tab ks ns most i) st (some a0) e = some a0 := by unfold stepL; rw [hc]; exact if_neg h1'
            rw [e1] at tk
            rw [tk, hL4, hacc]
    · rintro σ3 H3 ⟨⟨o7, o8, rfl⟩, hL3, hE3, s5⟩
      rw [List.length_map, List.take_length] at hL3
      refine ⟨⟨_, _, _, rfl⟩, ?_, s5⟩
      rw [hL3]
      congr 2
      refine List.map_congr_left fun s hs => ?_
      show oN (if s = st then _ else _) = oN (if s + (i + 1) = ns.sum then _ else _)
      by_cases e : s = st
      · subst e
        rw [if_pos rfl, if_pos hst.symm]
        rfl
      · rw [if_neg e, if_neg (by omega)]
  · rintro σ' H' ⟨⟨o6, o7, o8, rfl⟩, hL, s3⟩
    exact ⟨_, rfl, k p H' hpH s3 hL⟩
end
end Sx

set_option Elab.async false
set_option linter.all false
set_option maxRecDepth 100000
set_option maxHeartbeats 1000000
namespace Sx
open PySem PySem.Spec PyProof.Rows L2 SxA
theorem BkAt.but {H H' : Hp} {a b l : Addr} {bs : List V} {ks : List Str} {ns : List Nat} (h : BkAt H b l bs ks ns) (s : But a H H') (nb : b ≠ a) (nl : l ≠ a) (D : Dr H a) : BkAt H' b l bs ks ns := ⟨h.1.but s nb D, s _ _ h.2.1 nl, h.2.2.1, h.2.2.2⟩
/-- what the law holds: draws, a book's lines, the least costs -/
structure LwAt (H : Hp) (a b l q : Addr) (bs : List V) (ks : List Str) (ns : List Nat) (most : Nat) : Prop where
  dr : Dr H a
  bk : BkAt H b l bs ks ns
  lo : H q = some (.lst (loL ks ns most))
  nb : b ≠ a
  nl : l ≠ a
  nq : q ≠ a
theorem LwAt.but {H H' : Hp} {a b l q : Addr} {bs : List V} {ks : List Str} {ns : List Nat} {most : Nat} (h : LwAt H a b l q bs ks ns most) (s : But a H H') (D : Dr H' a) : LwAt H' a b l q bs ks ns most := ⟨D, h.bk.but s h.nb h.nl h.dr, s _ _ h.lo h.nq, h.nb, h.nl, h.nq⟩
theorem LwAt.same {H H' : Hp} {a b l q : Addr} {bs : List V} {ks : List Str} {ns : List Nat} {most : Nat} (h : LwAt H a b l q bs ks ns most) (s : Same H H') : LwAt H' a b l q bs ks ns most := ⟨h.dr.same s, h.bk.same s, s _ _ h.lo, h.nb, h.nl, h.nq⟩
theorem LwAt.sl {H : Hp} {a b l q : Addr} {bs : List V} {ks : List Str} {ns : List Nat} {most : Nat} (h : LwAt H a b l q bs ks ns most) : H l = some (.lst ((ns.map fun n : Nat => (n : Int)).map V.int)) := by
  rw [h.bk.2.1, List.map_map]
  rfl
theorem allU_snoc {ks : List Str} {ns : List Nat} {most : Nat} {es : List Int} {e : Int} (h : allU ks ns most es es.length = true) (he : inE ks ns most (begAt es es.length) e = true) : allU ks ns most (es ++ [e]) (es ++ [e]).length = true ∧ begAt (es ++ [e]) (es ++ [e]).length = e.toNat := by
  have g : ∀ i, i < es.length → (es ++ [e]).getD i 0 = es.getD i 0 := fun i hi => by
    rw [List.getD_eq_getElem?_getD, List.getD_eq_getElem?_getD, List.getElem?_append_left hi]
  have gl : (es ++ [e]).getD es.length 0 = e := by
    rw [List.getD_eq_getElem?_getD, List.getElem?_append_right (Nat.le_refl _), Nat.sub_self]
    rfl
  have bg : ∀ i, i ≤ es.length → begAt (es ++ [e]) i = begAt es i := fun i hi => by
    cases i with
    | zero => rfl
    | succ i => show ((es ++ [e]).getD i 0).toNat = (es.getD i 0).toNat; rw [g i (by omega)]
  rw [List.length_append, List.length_singleton]
  constructor
  · rw [allU_succ, bg _ (Nat.le_refl _), gl, he, Bool.and_true]
    unfold allU at h ⊢
    rw [List.all_eq_true] at h ⊢
    intro i hi
    have il := List.mem_range.mp hi
    have := h i hi
    rw [bg i (by omega), g i il]
    exact this
  · show ((es ++ [e]).getD es.length 0).toNat = e.toNat
    rw [gl]
def spDrawn : Sp := fun vs H Q _ => ∃ (a b l q : Addr) (bs : List V) (ks : List Str) (ns : List Nat) (most : Nat), vs = [.ref a, .int ((most : Int) + 1), .ref b, .ref l, .ref q] ∧ LwAt H a b l q bs ks ns most ∧ most ≤ 1000 ∧ (LO ks ns most 0).isSome = true ∧
  ∀ p (es : List Int) H', H p = none → H' p = some (.lst (es.map V.int)) → Pth ks ns most es → Dr H' a → But a H H' → Q (.ref p) H'
def spWhole : Sp := fun vs H Q _ => ∃ (b l p : Addr) (bs : List V) (ks : List Str) (ns : List Nat) (most : Nat) (es : List Int), vs = [.int ((most : Int) + 1), .ref b, .ref l, .ref p] ∧ BkAt H b l bs ks ns ∧ most ≤ 1000 ∧ H p = some (.lst (es.map V.int)) ∧ allU ks ns most es es.length = true ∧
  ∀ H', Same H H' → Q (nv (wc ks ns most es es.length)) H'
section
variable {P : Program} {w : World} {K : PySem.W.Frag} {mg : Str → Option Value} {base : Heap}
abbrev nsLawWholeCost : List Str := ["height", "blocks", "counts", "ends", "cost", "start", "end"]
theorem scLawWholeCost : FnScope nsLawWholeCost ["height", "blocks", "counts", "ends"] (defScope sLawWholeCost) := ⟨rfl, rfl, rfl, by decide +kernel, rfl, by decide +kernel, by decide +kernel⟩
theorem ok_law_whole_cost (t : T K mg) : Ok P w K mg base 3 "_law_whole_cost" ["height", "blocks", "counts", "ends"] spWhole := by
  refine mkOk t.d_law_whole_cost t.g_law_whole_cost scLawWholeCost (fun vs H Q E h => ?_) (fun _ _ _ _ _ _ us hl => match us, hl with | [_, _, _, _], _ => rfl) fun cdv A outer s H vs Q E hr h => ?_
  · obtain ⟨b, l, p, bs, ks, ns, most, es, rfl, _⟩ := h; rfl
  obtain ⟨b, l, p, bs, ks, ns, most, es, rfl, hB, hm, hp, hU, k⟩ := h
  have hr2 : Room 2 _ := hr.mono (by decide)
  refine ⟨_, pss_cons (ps_set (i := 4) scLawWholeCost.nd rfl (Or.inl rfl) pe_int)
    (pss_cons (ps_set (i := 5) scLawWholeCost.nd rfl (Or.inl rfl) pe_int)
    (pss_cons (ps_for PassesOwn.never rfl (pi_list (pv 3)) (pg_name (i := 6) scLawWholeCost.nd rfl (Or.inl rfl))
      (pss_cons (ps_set (i := 4) scLawWholeCost.nd rfl (Or.inl rfl) (pe_op op_add (pv 4) (pe_ok (ok_law_page_cost t) hr2 rfl (pa_cons (pv 0) (pa_cons (pv 1) (pa_cons (pv 2) (pa_cons (pv 5) (pa_cons (pv 6) pa_nil))))))))
    (pss_one (ps_set (i := 5) scLawWholeCost.nd rfl (Or.inl rfl) (pv 6)))))
    (pss_one (ps_ret (pv 4))))), ?_⟩
  refine ⟨_, rfl, p, rfl, ⟨_, SqL.of hp⟩, ?_⟩
  refine for_list (K := K) (a := p) (xs := es.map V.int) (fun i σ' H' => (∃ o6 : Option V, σ' = [some (.int ((most : Int) + 1)), some (.ref b), some (.ref l), some (.ref p), some (nv (wc ks ns most es i)), some (nv (begAt es i)), o6]) ∧ Same H H') ⟨⟨none, rfl⟩, Same.refl _⟩ (fun i σ' H' _ q => SqL.of (q.2 _ _ hp)) ?_ ?_
  · rintro i v σ' H' hv ⟨⟨o6, rfl⟩, s1⟩
    have il : i < es.length := by
      have := (List.getElem?_eq_some_iff.mp hv).1
      rw [List.length_map] at this
      exact this
    obtain ⟨n, e1, hn, e2⟩ := allU_len hU i il
    obtain rfl : v = nv n := by
      rw [List.getElem?_map, e1] at hv
      exact (Option.some.inj hv).symm
    have le := ends_mem hn
    refine ⟨_, rfl, _, rfl, _, rfl, _, rfl, _, rfl, _, rfl, b, l, bs, ks, ns, most, begAt es i, n, rfl, hB.same s1, hm, by omega, by omega, by omega, fun H2 s2 => ?_⟩
    refine ⟨_, _, rfl, rfl, _, rfl, ⟨some (nv n), ?_⟩, fun c o e => s2 _ _ (s1 _ _ e)⟩
    have e3 := getD_of e1
    have e4 : wc ks ns most es (i + 1) = wc ks ns most es i + costN ks ns most (begAt es i) n := by
      show wc ks ns most es i + costN ks ns most (begAt es i) (es.getD i 0).toNat = _
      rw [e3, Int.toNat_natCast]
    rw [e2, e4]
    rfl
  · rintro σ' H' ⟨⟨o6, rfl⟩, s1⟩
    rw [List.length_map]
    exact ⟨_, rfl, k H' s1⟩
abbrev nsLawDrawnEnds : List Str := ["draws", "height", "blocks", "counts", "least", "ends", "start", "turn", "rows", "end"]
theorem scLawDrawnEnds : FnScope nsLawDrawnEnds ["draws", "height", "blocks", "counts", "least"] (defScope sLawDrawnEnds) := ⟨rfl, rfl, rfl, by decide +kernel, rfl, by decide +kernel, by decide +kernel⟩
theorem ok_law_drawn_ends (t : T K mg) : Ok P w K mg base 4 "_law_drawn_ends" ["draws", "height", "blocks", "counts", "least"] spDrawn := by
  refine mkOk t.d_law_drawn_ends t.g_law_drawn_ends scLawDrawnEnds (fun vs H Q E h => ?_) (fun _ _ _ _ _ _ us hl => match us, hl with | [_, _, _, _, _], _ => rfl) fun cdv A outer s H vs Q E hr h => ?_
  · obtain ⟨a, b, l, q, bs, ks, ns, most, rfl, _⟩ := h; rfl
  obtain ⟨a, b, l, q, bs, ks, ns, most, rfl, hW, hm, hlo, k⟩ := h
  have hr1 : Room 1 _ := hr.mono (by decide)
  have hr3 : Room 3 _ := hr.mono (by decide)
  refine ⟨_, pss_cons (ps_set (i := 5) scLawDrawnEnds.nd rfl (Or.inl rfl) (pe_lst pa_nil))
    (pss_cons (ps_set (i := 6) scLawDrawnEnds.nd rfl (Or.inl rfl) pe_int)
    (pss_cons (ps_for PassesOwn.never rfl (pi_range1 rfl t.f_range (pa_cons (pe_callB (cr_sum rfl) rfl t.f_sum (by decide +kernel) (pa_cons (pv 3) pa_nil)) pa_nil)) (pg_name (i := 7) scLawDrawnEnds.nd rfl (Or.inl rfl))
      (pss_one (ps_if (pt_cmpR op_lt (pv 6) (pe_callB (cr_sum rfl) rfl t.f_sum (by decide +kernel) (pa_cons (pv 3) pa_nil)) (nomark _))
      (pss_cons (ps_setLc (i := 8) (own := [("end", 9)]) (g := gName 9) (by rfl) scLawDrawnEnds.nd rfl rfl (sw_true rfl rfl rfl (by decide +kernel)) (pi_list (pe_ok (ok_law_ends t) hr3 rfl (pa_cons (pv 1) (pa_cons (pv 2) (pa_cons (pv 3) (pa_cons (pv 6) pa_nil)))))) (blkOk_by (own := [("end", 9)]) (N := nsLawDrawnEnds) (sc := defScope sLawDrawnEnds) (by decide +kernel)) (fun _ _ _ _ _ => pg_name (i := 9) scLawDrawnEnds.nd rfl (Or.inl rfl)) (fun _ _ _ _ _ => pts_one (pt_cmpR op_notN (pe_ix (ix_listK (K := K) rfl) (pv 4) (pv 9) (fun _ _ => rfl)) pe_non (nomark _))) (fun _ _ _ _ _ => (pv 9)))
    (pss_cons (ps_set (i := 6) scLawDrawnEnds.nd rfl (Or.inl rfl) (pe_ix ix_list (pv 8) (pe_ok (ok_law_take t) hr1 rfl (pa_cons (pv 0) (pa_cons (pe_callB call_len_seq rfl t.f_len boot_len (pa_cons (pv 8) pa_nil)) pa_nil))) (fun _ _ => rfl)))
    (pss_one (ps_expr (pe_bm PySem.F.plainAttrs_list PySem.F.slot_list_append PySem.F.type_list_append mt_append (pv 5) (pa_cons (pv 6) pa_nil))))))
      pss_nil)))
    (pss_one (ps_ret (pv 5))))), ?_⟩
  have nb := hW.bk.nb
  refine ⟨(by show 0 ≤ sizeLine; decide), fun D hD => ?_⟩
  have naD : D ≠ a := fun e => hW.dr.ne hD e.symm
  have hW0 := hW.same (Same.new (o := .lst []) hD)
  refine ⟨_, rfl, l, _, rfl, SqL.of hW0.sl, _, rfl, by rw [sum_nv]; omega, by rw [sum_nv]; omega, ?_⟩
  rw [sum_nv]
  refine for_range (lo := 0) (n := ((ns.sum : Nat) : Int).toNat) (fun i σ' H' => (∃ (es : List Int) (st : Nat) (o7 o8 : Option V), σ' = [some (.ref a), some (.int ((most : Int) + 1)), some (.ref b), some (.ref l), some (.ref q), some (.ref D), some (nv st), o7, o8, none] ∧
    H' D = some (.lst (es.map V.int)) ∧ es.length ≤ i ∧ allU ks ns most es es.length = true ∧ begAt es es.length = st ∧ (LO ks ns most st).isSome = true ∧ st ≤ ns.sum ∧ (i ≤ st ∨ st = ns.sum)) ∧ LwAt H' a b l q bs ks ns most ∧ But a H H') ?_ ?_ ?_
  · exact ⟨⟨[], 0, none, none, rfl, upd_same, Nat.le_refl _, rfl, rfl, hlo, Nat.zero_le _, .inl (Nat.le_refl _)⟩, hW0, But.new (But.refl _ _) hD⟩
  · rintro i σ' H' hi ⟨⟨es, st, o7, o8, rfl, hE, el, hU, hb, hs, sn, hp⟩, hW1, B1⟩
    refine ⟨_, rfl, _, rfl, l, _, rfl, SqL.of hW1.sl, _, _, rfl, rfl, _, rfl, ?_⟩
    have e1 : decide ((st : Int) < (ns.map fun n : Nat => (n : Int)).sum) = decide (st < ns.sum) := by
      rw [sum_nv, decide_eq_decide]; omega
    refine ite2 (fun h1 => ?_) (fun h1 => ?_)
    · have lt := of_decide_eq_true (e1.symm.trans h1)
      refine ⟨_, rfl, _, rfl, _, rfl, _, rfl, b, l, bs, ks, ns, most, st, rfl, hW1.bk, hm, by omega, fun r H2 hr2 s2 hL => ?_⟩
      have hW2 := hW1.same s2
      refine ⟨r, rfl, ⟨_, SqL.of hL⟩, fun D2 hD2 => ?_⟩
      have nlD : ∀ (c : Addr) (o : HO), H2 c = some o → c ≠ D2 := fun c o e => ne_of_none e hD2
      have small : (endsL ks ns most st).length ≤ 1000 := Nat.le_trans (ends_len _ _ _ _) hm
      refine lc_list (K := K) (a := r) (xs := (endsL ks ns most st).map nv) (g := gName 9) (fun j H3 => Same H2 H3 ∧ H3 D2 = some (.lst ((((endsL ks ns most st).take j).filter fun e => (LO ks ns most e).isSome).map nv))) ⟨Same.new hD2, upd_same⟩ (fun j H3 _ q => SqL.of (q.1 _ _ hL)) ?_ ?_
      · rintro j v H3 hv ⟨s3, hF⟩
        have jl : j < (endsL ks ns most st).length := by
          have := (List.getElem?_eq_some_iff.mp hv).1
          rw [List.length_map] at this
          exact this
        have he : (endsL ks ns most st)[j]? = some (endsL ks ns most st)[j] := List.getElem?_eq_getElem jl
        have hmem : (endsL ks ns most st)[j] ∈ endsL ks ns most st := List.getElem_mem jl
        obtain rfl : v = nv (endsL ks ns most st)[j] := by
          rw [List.getElem?_map, he] at hv
          exact (Option.some.inj hv).symm
        have tk : (endsL ks ns most st).take (j + 1) = (endsL ks ns most st).take j ++ [(endsL ks ns most st)[j]] := by rw [List.take_add_one, he]; rfl
        generalize (endsL ks ns most st)[j] = e at hmem tk
        have le := ends_mem hmem
        refine ⟨rfl, ?_⟩
        refine ⟨_, rfl, _, rfl, q, _, _, _, rfl, rfl, SqL.of (s3 _ _ hW2.lo), range_get (f := fun s => oN (LO ks ns most s)) (show e < ns.sum + 1 by omega), rfl, _, rfl, ?_⟩
        rw [tk, List.filter_append, List.map_append]
        cases hc : LO ks ns most e with
        | none =>
          refine iteF ⟨s3, ?_⟩
          rw [hF]
          simp [hc]
        | some c =>
          refine iteT ⟨_, rfl, _, hF, ?_, Same.put s3 hD2, ?_⟩
          · rw [List.length_map]
            have := List.length_filter_le (fun e => (LO ks ns most e).isSome) ((endsL ks ns most st).take j)
            rw [List.length_take] at this
            exact small1 (by omega)
          · rw [upd_same]
            simp [hc]
      · rintro H3 ⟨s3, hF⟩
        rw [List.length_map, List.take_length] at hF
        have hW3 := hW2.same s3
        have s13 : Same H' H3 := fun c o e => s3 _ _ (s2 _ _ e)
        obtain ⟨a0, ha0⟩ : ∃ a0, LO ks ns most st = some a0 := by
          cases z : LO ks ns most st with
          | none => rw [z] at hs; cases hs
          | some a0 => exact ⟨a0, rfl⟩
        obtain ⟨e, he, c, hc, _⟩ := LO_in lt ha0
        have hin : e ∈ (endsL ks ns most st).filter fun e => (LO ks ns most e).isSome := List.mem_filter.mpr ⟨he, by rw [hc]; rfl⟩
        have pos : 0 < ((endsL ks ns most st).filter fun e => (LO ks ns most e).isSome).length := List.length_pos_of_mem hin
        refine ⟨_, rfl, _, rfl, _, rfl, D2, _, rfl, .inl (SqL.of hF), a, _, rfl, hW3.dr, by rw [List.length_map]; omega, fun v H4 v0 v1 D4 B4 => ?_⟩
        rw [List.length_map] at v1
        have hF4 := B4 _ _ hF (fun z => by
          have q1 := hW2.dr.ne hD2
          exact q1 z.symm)
        have vl : v.toNat < ((endsL ks ns most st).filter fun e => (LO ks ns most e).isSome).length := by omega
        have hx : (((endsL ks ns most st).filter fun e => (LO ks ns most e).isSome).map nv)[v.toNat]? = some (nv ((endsL ks ns most st).filter fun e => (LO ks ns most e).isSome)[v.toNat]) := by
          rw [List.getElem?_map, List.getElem?_eq_getElem vl]
          rfl
        have hxm := List.getElem_mem vl
        generalize ((endsL ks ns most st).filter fun e => (LO ks ns most e).isSome)[v.toNat] = x at hx hxm
        obtain ⟨xm, xs⟩ := List.mem_filter.mp hxm
        have lx := ends_mem xm
        have av := atI_nat hx
        rw [show ((v.toNat : Nat) : Int) = v by omega] at av
        have hE4 := B4 _ _ (s13 _ _ hE) naD
        refine ⟨_, _, _, _, rfl, rfl, SqL.of hF4, av, ?_⟩
        have hin2 : inE ks ns most (begAt es es.length) (x : Int) = true := by
          rw [hb]
          exact decide_eq_true (List.mem_map.mpr ⟨x, xm, rfl⟩)
        obtain ⟨u1, u2⟩ := allU_snoc hU hin2
        refine ⟨_, rfl, .inl ⟨rfl, _, SqL.of hE4⟩, _, rfl, D, _, _, rfl, rfl, hE4, (by rw [List.length_map]; exact small1 (by omega)), ⟨es ++ [(x : Int)], x, _, _, rfl, by rw [upd_same, List.map_append]; rfl, by rw [List.length_append]; exact Nat.succ_le_succ el, u1, by rw [u2]; omega, xs, by omega, by omega⟩, ?_, ?_⟩
        · have w4 := hW3.but B4 D4
          refine ⟨w4.dr.put naD.symm, ⟨⟨?_, w4.bk.1.len, fun i v kd g1 g2 => ?_⟩, ?_, w4.bk.2.2.1, w4.bk.2.2.2⟩, ?_, w4.nb, w4.nl, w4.nq⟩
          · have : b ≠ D := ne_of_none hW.bk.1.at_ hD
            rw [upd_ne this]; exact w4.bk.1.at_
          · obtain ⟨rr, rest, e, hq⟩ := w4.bk.1.el i v kd g1 g2
            exact ⟨rr, rest, e, by rw [upd_ne (ne_of hq hE4 (by intro z; cases z))]; exact hq⟩
          · have : l ≠ D := ne_of_none hW.bk.2.1 hD
            rw [upd_ne this]; exact w4.bk.2.1
          · have : q ≠ D := ne_of_none hW.lo hD
            rw [upd_ne this]; exact w4.lo
        · exact ((B1.same s13).trans B4).new hD
    · have ge : st = ns.sum := by
        have : ¬ st < ns.sum := fun z => h1 (e1.trans (decide_eq_true z))
        omega
      exact ⟨⟨es, st, _, _, rfl, hE, by omega, hU, hb, hs, sn, .inr ge⟩, hW1, B1⟩
  · rintro σ' H' ⟨⟨es, st, o7, o8, rfl, hE, el, hU, hb, hs, sn, hp⟩, hW1, B1⟩
    refine ⟨_, rfl, k D es H' hD hE ⟨hU, ?_⟩ hW1.dr B1⟩
    rw [hb]
    omega
end
end Sx

set_option Elab.async false
set_option linter.all false
set_option maxRecDepth 100000
set_option maxHeartbeats 1000000
namespace Sx
open PySem PySem.Spec PyProof.Rows L2 SxA
def spPrices : Sp := fun vs H Q _ => ∃ (a b l q : Addr) (bs : List V) (ks : List Str) (ns : List Nat) (most : Nat), vs = [.ref a, .int ((most : Int) + 1), .ref b, .ref l, .ref q] ∧ LwAt H a b l q bs ks ns most ∧ most ≤ 1000 ∧ 0 < ns.sum ∧
  ∀ p (ps : List Int) H', H p = none → H' p = some (.lst (ps.map V.int)) → ps.length = ns.sum + 1 → Dr H' a → But a H H' → Q (.ref p) H'
def spForged : Sp := fun vs H Q _ => ∃ (b l q p : Addr) (bs : List V) (ks : List Str) (ns : List Nat) (most : Nat) (es : List Int), vs = [.int ((most : Int) + 1), .ref b, .ref l, .ref q, .ref p] ∧ BkAt H b l bs ks ns ∧ H q = some (.lst (loL ks ns most)) ∧ most ≤ 1000 ∧ H p = some (.lst (es.map V.int)) ∧ Pth ks ns most es ∧
  ∀ p (ps : List Int) H', H p = none → Same H H' → H' p = some (.lst (ps.map V.int)) → ps.length = ns.sum + 1 → Q (.ref p) H'
theorem plain_len (ks : List Str) (ns : List Nat) (most : Nat) : (plain ks ns most).length = ns.sum + 1 := by unfold plain; rw [List.length_map, List.length_range]
theorem loL_len (ks : List Str) (ns : List Nat) (most : Nat) : (loL ks ns most).length = ns.sum + 1 := by unfold loL; rw [List.length_map, List.length_range]
theorem plain_at {ks : List Str} {ns : List Nat} {most i : Nat} {x y : V} (hx : (loL ks ns most)[i]? = some x) (hy : ((plain ks ns most).map V.int)[i]? = some y) : ∃ o : Option Nat, x = oN o ∧ y = nv (o.getD 1000000) := by
  have il : i < ns.sum + 1 := by
    have := (List.getElem?_eq_some_iff.mp hx).1
    rw [loL_len] at this
    exact this
  unfold loL at hx
  unfold plain at hy
  rw [List.getElem?_map, List.getElem?_range il] at hx
  rw [List.getElem?_map, List.getElem?_map, List.getElem?_range il] at hy
  exact ⟨LO ks ns most i, (Option.some.inj hx).symm, (Option.some.inj hy).symm⟩
theorem ints_get {ps : List Int} {j : Nat} (h : j < ps.length) : atI (ps.map V.int) (j : Int) = some (.int (ps.getD j 0)) := by
  refine atI_nat ?_
  rw [List.getElem?_map, List.getElem?_eq_getElem h, List.getD_eq_getElem?_getD, List.getElem?_eq_getElem h]
  rfl
theorem ints_set (ps : List Int) (j : Nat) (z : Int) : (ps.map V.int).set j (.int z) = (ps.set j z).map V.int := by
  rw [List.map_set]
section
variable {P : Program} {w : World} {K : PySem.W.Frag} {mg : Str → Option Value} {base : Heap}
abbrev nsLawForged : List Str := ["height", "blocks", "counts", "least", "ends", "prices", "row", "starts", "k"]
theorem scLawForged : FnScope nsLawForged ["height", "blocks", "counts", "least", "ends"] (defScope sLawForged) := ⟨rfl, rfl, rfl, by decide +kernel, rfl, by decide +kernel, by decide +kernel⟩
theorem ok_law_forged (t : T K mg) : Ok P w K mg base 3 "_law_forged" ["height", "blocks", "counts", "least", "ends"] spForged := by
  refine mkOk t.d_law_forged t.g_law_forged scLawForged (fun vs H Q E h => ?_) (fun _ _ _ _ _ _ us hl => match us, hl with | [_, _, _, _, _], _ => rfl) fun cdv A outer s H vs Q E hr h => ?_
  · obtain ⟨b, l, q, p, bs, ks, ns, most, es, rfl, _⟩ := h; rfl
  obtain ⟨b, l, q, p, bs, ks, ns, most, es, rfl, hB, hq, hm, hp, hP, k⟩ := h
  have hr2 : Room 2 _ := hr.mono (by decide)
  refine ⟨_, pss_cons (ps_setLc (i := 5) (own := [("row", 6)]) (g := gName 6) (tt := tYes) (by rfl) scLawForged.nd rfl rfl (sw_true rfl rfl rfl (by decide +kernel)) (pi_list (pv 3)) (blkOk_by (own := [("row", 6)]) (N := nsLawForged) (sc := defScope sLawForged) (by decide +kernel)) (fun _ _ _ _ _ => pg_name (i := 6) scLawForged.nd rfl (Or.inl rfl)) (fun _ _ _ _ _ => pts_nil) (fun _ _ _ _ _ => (pe_ifExp (pt_cmpR op_isN (pv 6) pe_non (nomark _)) (pe_op op_pow pe_int pe_int) (pv 6))))
    (pss_cons (ps_set (i := 7) scLawForged.nd rfl (Or.inl rfl) (pe_op op_cat (pe_lst (pa_cons pe_int pa_nil)) (pv 4)))
    (pss_cons (ps_for PassesOwn.never rfl (pi_revR (by rfl) t.f_reversed (prg_1 rfl t.f_range (pe_callB call_len_seq rfl t.f_len boot_len (pa_cons (pv 4) pa_nil)))) (pg_name (i := 8) scLawForged.nd rfl (Or.inl rfl))
      (pss_one (ps_asg (pe_op op_add (pe_ok (ok_law_page_cost t) hr2 rfl (pa_cons (pv 0) (pa_cons (pv 1) (pa_cons (pv 2) (pa_cons (pe_ix ix_list (pv 7) (pv 8) (fun _ _ => rfl)) (pa_cons (pe_ix ix_list (pv 4) (pv 8) (fun _ _ => rfl)) pa_nil)))))) (pe_ix ix_list (pv 5) (pe_ix ix_list (pv 4) (pv 8) (fun _ _ => rfl)) (fun _ _ => rfl))) (pg_sub (pv 5) (pe_ix ix_list (pv 7) (pv 8) (fun _ _ => rfl)) set_list))))
    (pss_one (ps_ret (pv 5))))), ?_⟩
  have nb := hB.nb
  have esz : es.length ≤ ns.sum := by
    have : ∀ i, i ≤ es.length → i ≤ begAt es i ∧ begAt es i ≤ ns.sum := fun i => by
      induction i with
      | zero => intro _; exact ⟨Nat.le_refl _, Nat.zero_le _⟩
      | succ i ih =>
        intro hi
        obtain ⟨n, _, hn2, e3⟩ := allU_len hP.all i (by omega)
        have := ends_mem hn2
        have := ih (by omega)
        omega
    have := this es.length (Nat.le_refl _)
    omega
  refine ⟨_, rfl, q, rfl, ⟨_, SqL.of hq⟩, fun D hD => ?_⟩
  refine lc_known (K := K) (xs := loL ks ns most) (ys := (plain ks ns most).map V.int) hD (SqL.of hq) (by rw [List.length_map, plain_len, loL_len]) (by rw [List.length_map, plain_len]; exact Nat.le_trans (show _ ≤ 100000 by omega) (by decide)) (fun _ => rfl) (fun i x y H1 Q1 hx hy s1 q1 => ?_) (fun H1 s1 hD1 => ?_)
  · obtain ⟨o, rfl, rfl⟩ := plain_at hx hy
    refine ⟨_, rfl, rfl, _, rfl, ?_⟩
    cases o with
    | none => exact iteT ⟨_, _, rfl, rfl, ⟨by decide, by decide, by decide⟩, q1 H1 (Same.refl _)⟩
    | some c => exact iteF ⟨_, rfl, q1 H1 (Same.refl _)⟩
  refine ⟨(by show 1 ≤ sizeLine; decide), fun L1 hL1 => ?_⟩
  have nD1 : D ≠ L1 := ne_of_none hD1 hL1
  have np1 : p ≠ L1 := ne_of_none (s1 _ _ hp) hL1
  refine ⟨_, rfl, L1, p, _, _, rfl, rfl, upd_same, by rw [upd_ne np1]; exact s1 _ _ hp, ?_, fun L2 hL2 => ?_⟩
  · rw [List.length_map]
    show 1 + es.length ≤ sizeLine
    exact Nat.le_trans (show _ ≤ 100000 by omega) (by decide)
  have sx : ∀ c o, H1 c = some o → upd (upd H1 L1 (.lst [V.int 0])) L2 (.lst ([V.int 0] ++ es.map V.int)) c = some o := fun c o e => by
    have a1 : upd H1 L1 (.lst [V.int 0]) c = some o := Same.new hL1 _ _ e
    exact Same.new hL2 _ _ a1
  have nD2 : L2 ≠ D := fun z => by
    have := Same.new (o := .lst [V.int 0]) hL1 _ _ hD1
    rw [← z, hL2] at this
    cases this
  refine ⟨_, rfl, p, _, rfl, .inl (SqL.of (sx _ _ (s1 _ _ hp))), _, rfl, by omega, by omega, by rw [List.length_map]; omega, by rw [List.length_map]; omega, ?_⟩
  rw [List.length_map]
  have eN : (((es.length : Nat) : Int) - 0).toNat = es.length := by omega
  rw [eN, Int.zero_add]
  refine for_rangeC (lo := ((es.length : Nat) : Int) - 1) (c := -1) (n := es.length) (fun i σ' H' => (∃ o8 : Option V, σ' = [some (.int ((most : Int) + 1)), some (.ref b), some (.ref l), some (.ref q), some (.ref p), some (.ref D), none, some (.ref L2), o8]) ∧ (∃ ps : List Int, H' D = some (.lst (ps.map V.int)) ∧ ps.length = ns.sum + 1) ∧ H' L2 = some (.lst ([V.int 0] ++ es.map V.int)) ∧ Same H H') ?_ ?_ ?_
  · exact ⟨⟨_, rfl⟩, ⟨plain ks ns most, sx _ _ hD1, plain_len _ _ _⟩, upd_same, fun c o e => sx _ _ (s1 _ _ e)⟩
  · rintro i σ' H' hi ⟨⟨o8, rfl⟩, ⟨ps, hps, pl⟩, hL, s2⟩
    obtain ⟨j, hj⟩ : ∃ j, es.length = j + (i + 1) := ⟨es.length - (i + 1), by omega⟩
    have ej : ((es.length : Nat) : Int) - 1 + (i : Int) * -1 = (j : Int) := by omega
    rw [ej]
    obtain ⟨n, e1, hn, e2⟩ := allU_len hP.all j (by omega)
    have le := ends_mem hn
    have gs : atI ([V.int 0] ++ es.map V.int) (j : Int) = some (nv (begAt es j)) := by
      refine atI_nat ?_
      cases j with
      | zero => rfl
      | succ j =>
        obtain ⟨n', e1', _, e2'⟩ := allU_len hP.all j (by omega)
        show (es.map V.int)[j]? = _
        rw [List.getElem?_map, e1', e2']
        rfl
    have ge : atI (es.map V.int) (j : Int) = some (nv n) := by
      refine atI_nat ?_
      rw [List.getElem?_map, e1]
      rfl
    have hp2 := s2 _ _ hp
    refine ⟨_, rfl, _, rfl, _, rfl, _, rfl, _, rfl, L2, _, _, _, rfl, rfl, SqL.of hL, gs, _, rfl, _, rfl, p, _, _, _, rfl, rfl, SqL.of hp2, ge, ?_⟩
    refine ⟨b, l, bs, ks, ns, most, begAt es j, n, rfl, hB.same s2, hm, by omega, by omega, by omega, fun H3 s3 => ?_⟩
    have hps3 := s3 _ _ hps
    have hL3 := s3 _ _ hL
    have hp3 := s3 _ _ hp2
    refine ⟨_, rfl, _, rfl, _, rfl, p, _, _, _, rfl, rfl, SqL.of hp3, ge, D, _, _, _, rfl, rfl, SqL.of hps3, ints_get (by omega), _, _, rfl, rfl, ?_⟩
    refine ⟨_, rfl, _, rfl, _, rfl, L2, _, _, _, rfl, rfl, SqL.of hL3, gs, D, _, _, begAt es j, rfl, rfl, hps3, ixN_nat (by rw [List.length_map]; omega), ?_⟩
    refine ⟨⟨_, rfl⟩, ⟨ps.set (begAt es j) _, by rw [upd_same]; exact congrArg (fun z => some (HO.lst z)) (ints_set _ _ _), by rw [List.length_set]; exact pl⟩, by rw [upd_ne nD2]; exact hL3, Same.put (fun c o e => s3 _ _ (s2 _ _ e)) hD⟩
  · rintro σ' H' ⟨⟨o8, rfl⟩, ⟨ps, hps, pl⟩, hL, s2⟩
    exact ⟨_, rfl, k D ps H' hD s2 hps pl⟩
end
end Sx

set_option Elab.async false
set_option linter.all false
set_option maxRecDepth 100000
set_option maxHeartbeats 1000000
namespace Sx
open PySem PySem.Spec PyProof.Rows L2 SxA
theorem LwAt.putL {H : Hp} {a b l q D : Addr} {bs : List V} {ks : List Str} {ns : List Nat} {most : Nat} {o : HO} {xs : List V} (h : LwAt H a b l q bs ks ns most) (hD : H D = some (.lst xs)) (na : D ≠ a) (nb : D ≠ b) (nl : D ≠ l) (nq : D ≠ q) : LwAt (upd H D o) a b l q bs ks ns most :=
  ⟨h.dr.put na.symm, ⟨⟨by rw [upd_ne nb.symm]; exact h.bk.1.at_, h.bk.1.len, fun i v kd g1 g2 => by
      obtain ⟨rr, rest, e, hq⟩ := h.bk.1.el i v kd g1 g2
      exact ⟨rr, rest, e, by rw [upd_ne (ne_of hq hD (by intro z; cases z))]; exact hq⟩⟩, by rw [upd_ne nl.symm]; exact h.bk.2.1, h.bk.2.2.1, h.bk.2.2.2⟩, by rw [upd_ne nq.symm]; exact h.lo, h.nb, h.nl, h.nq⟩
section
variable {P : Program} {w : World} {K : PySem.W.Frag} {mg : Str → Option Value} {base : Heap}
abbrev nsLawPrices : List Str := ["draws", "height", "blocks", "counts", "least", "total", "prices", "row", "start", "rows", "end", "at"]
theorem scLawPrices : FnScope nsLawPrices ["draws", "height", "blocks", "counts", "least"] (defScope sLawPrices) := ⟨rfl, rfl, rfl, by decide +kernel, rfl, by decide +kernel, by decide +kernel⟩
theorem ok_law_prices (t : T K mg) : Ok P w K mg base 4 "_law_prices" ["draws", "height", "blocks", "counts", "least"] spPrices := by
  refine mkOk t.d_law_prices t.g_law_prices scLawPrices (fun vs H Q E h => ?_) (fun _ _ _ _ _ _ us hl => match us, hl with | [_, _, _, _, _], _ => rfl) fun cdv A outer s H vs Q E hr h => ?_
  · obtain ⟨a, b, l, q, bs, ks, ns, most, rfl, _⟩ := h; rfl
  obtain ⟨a, b, l, q, bs, ks, ns, most, rfl, hW, hm, hz, k⟩ := h
  have hr1 : Room 1 _ := hr.mono (by decide)
  have hr2 : Room 2 _ := hr.mono (by decide)
  have hr3 : Room 3 _ := hr.mono (by decide)
  refine ⟨_, pss_cons (ps_set (i := 5) scLawPrices.nd rfl (Or.inl rfl) (pe_callB (cr_sum rfl) rfl t.f_sum (by decide +kernel) (pa_cons (pv 3) pa_nil)))
    (pss_cons (ps_setLc (i := 6) (own := [("row", 7)]) (g := gName 7) (tt := tYes) (by rfl) scLawPrices.nd rfl rfl (sw_true rfl rfl rfl (by decide +kernel)) (pi_list (pv 4)) (blkOk_by (own := [("row", 7)]) (N := nsLawPrices) (sc := defScope sLawPrices) (by decide +kernel)) (fun _ _ _ _ _ => pg_name (i := 7) scLawPrices.nd rfl (Or.inl rfl)) (fun _ _ _ _ _ => pts_nil) (fun _ _ _ _ _ => (pe_ifExp (pt_cmpR op_isN (pv 7) pe_non (nomark _)) (pe_op op_pow pe_int pe_int) (pv 7))))
    (C8.pss_cut (ps_if (pt_cmpR op_eq (pe_ok (ok_law_take t) hr1 rfl (pa_cons (pv 0) (pa_cons pe_int pa_nil))) pe_int (nomark _))
      (pss_one (ps_for PassesOwn.never rfl (pi_revR (by rfl) t.f_reversed (prg_1 rfl t.f_range (pv 5))) (pg_name (i := 8) scLawPrices.nd rfl (Or.inl rfl))
      (pss_cons (ps_set (i := 9) scLawPrices.nd rfl (Or.inl rfl) (pe_lst (pa_cons (pe_op op_pow pe_int pe_int) pa_nil)))
    (pss_cons (ps_for PassesOwn.never rfl (pi_list (pe_ok (ok_law_ends t) hr3 rfl (pa_cons (pv 1) (pa_cons (pv 2) (pa_cons (pv 3) (pa_cons (pv 8) pa_nil)))))) (pg_name (i := 10) scLawPrices.nd rfl (Or.inl rfl))
      (pss_one (ps_expr (pe_bm PySem.F.plainAttrs_list PySem.F.slot_list_append PySem.F.type_list_append mt_append (pv 9) (pa_cons (pe_op op_add (pe_ix ix_list (pv 6) (pv 10) (fun _ _ => rfl)) (pe_ok (ok_law_page_cost t) hr2 rfl (pa_cons (pv 1) (pa_cons (pv 2) (pa_cons (pv 3) (pa_cons (pv 8) (pa_cons (pv 10) pa_nil))))))) pa_nil)))))
    (pss_one (ps_asg (pe_op op_sub (pe_callB (cr_min rfl) rfl t.f_min (by decide +kernel) (pa_cons (pv 9) pa_nil)) (pe_ix ix_list (pe_lst (pa_cons pe_int (pa_cons (pe_ok (ok_law_take t) hr1 rfl (pa_cons (pv 0) (pa_cons pe_int pa_nil))) pa_nil))) (pe_ok (ok_law_take t) hr1 rfl (pa_cons (pv 0) (pa_cons pe_int pa_nil))) (fun _ _ => rfl))) (pg_sub (pv 6) (pv 8) set_list)))))))
      pss_nil)
    (C8.pss_cut (ps_if (pt_cmpR op_eq (pe_ok (ok_law_take t) hr1 rfl (pa_cons (pv 0) (pa_cons pe_int pa_nil))) pe_int (nomark _))
      (pss_cons (ps_set (i := 11) scLawPrices.nd rfl (Or.inl rfl) (pe_ok (ok_law_take t) hr1 rfl (pa_cons (pv 0) (pa_cons (pv 5) pa_nil))))
    (pss_one (ps_asg (pe_op op_sub (pe_op op_add (pe_ix ix_list (pv 6) (pv 11) (fun _ _ => rfl)) (pe_ok (ok_law_take t) hr1 rfl (pa_cons (pv 0) (pa_cons pe_int pa_nil)))) pe_int) (pg_sub (pv 6) (pv 11) set_list))))
      pss_nil)
    (pss_one (ps_ret (pv 6)))))), ?_⟩
  have nb := hW.bk.nb
  refine ⟨_, rfl, l, _, rfl, SqL.of hW.sl, ?_⟩
  rw [sum_nv]
  refine ⟨_, rfl, q, rfl, ⟨_, SqL.of hW.lo⟩, fun D hD => ?_⟩
  have nDa : D ≠ a := fun e => hW.dr.ne hD e.symm
  have nDb : D ≠ b := (ne_of_none hW.bk.1.at_ hD).symm
  have nDl : D ≠ l := (ne_of_none hW.bk.2.1 hD).symm
  have nDq : D ≠ q := (ne_of_none hW.lo hD).symm
  refine lc_known (K := K) (xs := loL ks ns most) (ys := (plain ks ns most).map V.int) hD (SqL.of hW.lo) (by rw [List.length_map, plain_len, loL_len]) (by rw [List.length_map, plain_len]; exact Nat.le_trans (show _ ≤ 100000 by omega) (by decide)) (fun _ => rfl) (fun i x y H1 Q1 hx hy s1 q1 => ?_) (fun H1 s1 hD1 => ?_)
  · obtain ⟨o, rfl, rfl⟩ := plain_at hx hy
    refine ⟨_, rfl, rfl, _, rfl, ?_⟩
    cases o with
    | none => exact iteT ⟨_, _, rfl, rfl, ⟨by decide, by decide, by decide⟩, q1 H1 (Same.refl _)⟩
    | some c => exact iteF ⟨_, rfl, q1 H1 (Same.refl _)⟩
  have hW1 := hW.same s1
  refine ⟨fun σ' H' => (∃ o8 o9 o10 : Option V, σ' = [some (.ref a), some (.int ((most : Int) + 1)), some (.ref b), some (.ref l), some (.ref q), some (.int ((ns.sum : Nat) : Int)), some (.ref D), none, o8, o9, o10, none]) ∧ (∃ ps : List Int, H' D = some (.lst (ps.map V.int)) ∧ ps.length = ns.sum + 1) ∧ LwAt H' a b l q bs ks ns most ∧ But a H H', ?_, ?_⟩
  · refine ⟨_, rfl, a, 3, rfl, hW1.dr, by decide, fun v H2 v0 v1 D2 B2 => ⟨rfl, _, rfl, ?_⟩⟩
    have hW2 := hW1.but B2 D2
    have hD2 := B2 _ _ hD1 nDa
    have B02 : But a H H2 := (But.of s1).trans B2
    refine ite2 (fun h1 => ?_) (fun h1 => ⟨⟨_, _, _, rfl⟩, ⟨_, hD2, plain_len _ _ _⟩, hW2, B02⟩)
    refine ⟨_, rfl, _, rfl, by omega, by omega, by omega, by omega, ?_⟩
    have eN : (((ns.sum : Nat) : Int) - 0).toNat = ns.sum := by omega
    rw [eN, Int.zero_add]
    refine for_rangeC (lo := ((ns.sum : Nat) : Int) - 1) (c := -1) (n := ns.sum) (fun i σ' H' => (∃ o8 o9 o10 : Option V, σ' = [some (.ref a), some (.int ((most : Int) + 1)), some (.ref b), some (.ref l), some (.ref q), some (.int ((ns.sum : Nat) : Int)), some (.ref D), none, o8, o9, o10, none]) ∧ (∃ ps : List Int, H' D = some (.lst (ps.map V.int)) ∧ ps.length = ns.sum + 1) ∧ LwAt H' a b l q bs ks ns most ∧ But a H H') ⟨⟨_, _, _, rfl⟩, ⟨_, hD2, plain_len _ _ _⟩, hW2, B02⟩ ?_ (fun σ' H' p => p)
    rintro i σ' H' hi ⟨⟨o8, o9, o10, rfl⟩, ⟨ps, hps, pl⟩, hW3, B3⟩
    obtain ⟨st, hst⟩ : ∃ st, ns.sum = st + (i + 1) := ⟨ns.sum - (i + 1), by omega⟩
    have es : ((ns.sum : Nat) : Int) - 1 + (i : Int) * -1 = (st : Int) := by omega
    rw [es]
    refine ⟨_, _, rfl, rfl, ⟨by decide, by decide, by decide⟩, (by show 1 ≤ sizeLine; decide), fun R hR => ?_⟩
    have nRa : R ≠ a := fun e => hW3.dr.ne hR e.symm
    have nRD : R ≠ D := (ne_of_none hps hR).symm
    have nRH : H R = none := B3.free hW3.dr hR
    have hW4 := hW3.same (Same.new (o := .lst [.int (10 ^ 6)]) hR)
    refine ⟨_, rfl, _, rfl, _, rfl, _, rfl, b, l, bs, ks, ns, most, st, rfl, hW4.bk, hm, by omega, fun r H5 hr5 s5 hE => ?_⟩
    have hW5 := hW4.same s5
    have hR5 := s5 _ _ upd_same
    have nrR : r ≠ R := (ne_of_none upd_same hr5).symm
    have hps5 := s5 _ _ (Same.new (o := .lst [.int (10 ^ 6)]) hR _ _ hps)
    have B5 : But a H H5 := (B3.new nRH).same s5
    refine ⟨r, rfl, ⟨_, SqL.of hE⟩, ?_⟩
    refine for_list (K := K) (a := r) (xs := (endsL ks ns most st).map nv) (fun j σ3 H3 => (∃ o10 : Option V, σ3 = [some (.ref a), some (.int ((most : Int) + 1)), some (.ref b), some (.ref l), some (.ref q), some (.int ((ns.sum : Nat) : Int)), some (.ref D), none, some (nv st), some (.ref R), o10, none]) ∧ (∃ rs : List Int, H3 R = some (.lst (rs.map V.int)) ∧ rs.length = j + 1) ∧ H3 r = some (.lst ((endsL ks ns most st).map nv)) ∧ H3 D = some (.lst (ps.map V.int)) ∧ LwAt H3 a b l q bs ks ns most ∧ But a H H3) ?_ (fun j σ3 H3 _ p => SqL.of p.2.2.1) ?_ ?_
    · exact ⟨⟨_, rfl⟩, ⟨[10 ^ 6], hR5, rfl⟩, hE, hps5, hW5, B5⟩
    · rintro j v σ3 H3 hv ⟨⟨o10, rfl⟩, ⟨rs, hrs, rl⟩, hE3, hps3, hW6, B6⟩
      have jl : j < (endsL ks ns most st).length := by
        have := (List.getElem?_eq_some_iff.mp hv).1
        rw [List.length_map] at this
        exact this
      have he : (endsL ks ns most st)[j]? = some (endsL ks ns most st)[j] := List.getElem?_eq_getElem jl
      have hmem : (endsL ks ns most st)[j] ∈ endsL ks ns most st := List.getElem_mem jl
      have small := ends_len ks ns most st
      obtain rfl : v = nv (endsL ks ns most st)[j] := by
        rw [List.getElem?_map, he] at hv
        exact (Option.some.inj hv).symm
      generalize (endsL ks ns most st)[j] = e at hmem
      have le := ends_mem hmem
      refine ⟨_, rfl, .inl ⟨rfl, _, SqL.of hrs⟩, _, rfl, _, rfl, D, _, _, _, rfl, rfl, SqL.of hps3, ints_get (by omega), _, rfl, _, rfl, _, rfl, _, rfl, _, rfl, b, l, bs, ks, ns, most, st, e, rfl, hW6.bk, hm, by omega, by omega, by omega, fun H7 s7 => ?_⟩
      have hrs7 := s7 _ _ hrs
      refine ⟨_, _, rfl, rfl, R, _, _, rfl, rfl, hrs7, (by rw [List.length_map]; exact small1 (by omega)), ⟨_, rfl⟩, ⟨rs ++ [_], by rw [upd_same, List.map_append]; rfl, by rw [List.length_append, rl]; rfl⟩, ?_, ?_, (hW6.same s7).putL hrs7 nRa ?_ ?_ ?_, (B6.same s7).new nRH⟩
      · rw [upd_ne nrR]; exact s7 _ _ hE3
      · rw [upd_ne nRD.symm]; exact s7 _ _ hps3
      · exact (ne_of_none hW3.bk.1.at_ hR).symm
      · exact (ne_of_none hW3.bk.2.1 hR).symm
      · exact (ne_of_none hW3.lo hR).symm
    · rintro σ3 H3 ⟨⟨o10, rfl⟩, ⟨rs, hrs, rl⟩, hE3, hps3, hW6, B6⟩
      refine ⟨_, rfl, R, rs, rfl, SqL.of hrs, by omega, fun m _ _ => ?_⟩
      refine ⟨_, rfl, a, 3, rfl, hW6.dr, by decide, fun u H7 u0 u1 D7 B7 => ?_⟩
      refine ⟨(by show 2 ≤ sizeLine; decide), fun L hL => ?_⟩
      refine ⟨_, rfl, a, 2, rfl, D7.new hL, by decide, fun y H8 y0 y1 D8 B8 => ?_⟩
      have hL8 := B8 _ _ upd_same (fun z => D7.ne hL z.symm)
      have hy : y = 0 ∨ y = 1 := by omega
      obtain ⟨z, hz1⟩ : ∃ z : Int, atI [V.int 0, V.int u] y = some (.int z) := by
        rcases hy with rfl | rfl
        · exact ⟨_, rfl⟩
        · exact ⟨_, rfl⟩
      have B38 : But a H3 H8 := B7.trans fun c o e n => B8 c o (Same.new hL _ _ e) n
      have hps8 := B38 _ _ hps3 nDa
      have hW8 := hW6.but B38 D8
      refine ⟨_, _, _, _, rfl, rfl, SqL.of hL8, hz1, _, _, rfl, rfl, ?_⟩
      refine ⟨_, rfl, _, rfl, D, _, _, st, rfl, rfl, hps8, ixN_nat (by rw [List.length_map]; omega), ?_⟩
      exact ⟨⟨_, _, _, rfl⟩, ⟨ps.set st _, by rw [upd_same]; exact congrArg (fun z => some (HO.lst z)) (ints_set _ _ _), by rw [List.length_set]; exact pl⟩, hW8.putL hps8 nDa nDb nDl nDq, (B6.trans B38).new hD⟩
  rintro σ' H' ⟨⟨o8, o9, o10, rfl⟩, ⟨ps, hps, pl⟩, hW3, B3⟩
  refine ⟨fun σ' H' => (∃ o11 : Option V, σ' = [some (.ref a), some (.int ((most : Int) + 1)), some (.ref b), some (.ref l), some (.ref q), some (.int ((ns.sum : Nat) : Int)), some (.ref D), none, o8, o9, o10, o11]) ∧ (∃ ps : List Int, H' D = some (.lst (ps.map V.int)) ∧ ps.length = ns.sum + 1) ∧ Dr H' a ∧ But a H H', ?_, ?_⟩
  · refine ⟨_, rfl, a, 2, rfl, hW3.dr, by decide, fun v H2 v0 v1 D2 B2 => ⟨rfl, _, rfl, ?_⟩⟩
    have hps2 := B2 _ _ hps nDa
    refine ite2 (fun h1 => ?_) (fun h1 => ⟨⟨_, rfl⟩, ⟨ps, hps2, pl⟩, D2, B3.trans B2⟩)
    refine ⟨_, rfl, _, rfl, a, _, rfl, D2, by omega, fun x H4 x0 x1 D4 B4 => ?_⟩
    have hps4 := B4 _ _ hps2 nDa
    obtain ⟨j, rfl⟩ : ∃ j : Nat, x = j := ⟨x.toNat, by omega⟩
    refine ⟨_, rfl, _, rfl, D, _, _, _, rfl, rfl, SqL.of hps4, ints_get (by omega), _, rfl, a, 5, rfl, D4, by decide, fun u H5 u0 u1 D5 B5 => ?_⟩
    have hps5 := B5 _ _ hps4 nDa
    refine ⟨_, _, rfl, rfl, _, _, rfl, rfl, _, rfl, _, rfl, D, _, _, j, rfl, rfl, hps5, ixN_nat (by rw [List.length_map]; omega), ?_⟩
    exact ⟨⟨_, rfl⟩, ⟨ps.set j _, by rw [upd_same]; exact congrArg (fun z => some (HO.lst z)) (ints_set _ _ _), by rw [List.length_set]; exact pl⟩, D5.put nDa.symm, (((B3.trans B2).trans B4).trans B5).new hD⟩
  rintro σ' H' ⟨⟨o11, rfl⟩, ⟨ps, hps, pl⟩, D3, B3⟩
  exact ⟨_, rfl, k D ps H' hD hps pl D3 B3⟩
end
end Sx

set_option Elab.async false
set_option linter.all false
set_option maxRecDepth 100000
set_option maxHeartbeats 1000000
namespace Sx
open PySem PySem.Spec PyProof.Rows L2 SxA
section
variable {P : Program} {w : World} {K : PySem.W.Frag} {mg : Str → Option Value} {base : Heap}
def spLaw (K : PySem.W.Frag) : Sp := fun vs H Q _ => ∃ (a : Addr) (ns : List Int), vs = [.ref a] ∧ SqL K H a (ns.map V.int) ∧ ns.length ≤ 63 ∧ ∀ H', Q (.bl true) H'
abbrev nsLaw : List Str := ["script", "draws", "blocks", "counts", "height", "least", "turn", "ends", "cost", "many", "prices", "first", "plain", "row"]
theorem scLaw : FnScope nsLaw ["script"] (defScope sLaw) := ⟨rfl, rfl, rfl, by decide +kernel, rfl, by decide +kernel, by decide +kernel⟩
theorem at3 (x y z : Int) {v : Int} (h0 : 0 ≤ v) (h1 : v < 3) : ∃ u : Int, atI [V.int x, V.int y, V.int z] v = some (.int u) ∧ (u = x ∨ u = y ∨ u = z) := by
  have : v = 0 ∨ v = 1 ∨ v = 2 := by omega
  rcases this with rfl | rfl | rfl
  · exact ⟨x, rfl, .inl rfl⟩
  · exact ⟨y, rfl, .inr (.inl rfl)⟩
  · exact ⟨z, rfl, .inr (.inr rfl)⟩
theorem ok_law (t : T K mg) {fd : FuncData} (F : FunD K "law" "law" (defArgs sLaw) (defBody sLaw) (defScope sLaw) [] [] (He.ga K "law") fd) : FnOk P w K mg base CX0 6 (He.ga K "law") fd ["script"] (spLaw K) := by
  refine mkFn F scLaw (fun vs H Q E h => ?_) fun cdv A outer s H vs Q E hr h => ?_
  · obtain ⟨a, ns, rfl, _⟩ := h; rfl
  obtain ⟨sc, zs, rfl, hS, hlen, k⟩ := h
  have hr1 : Room 1 _ := hr.mono (by decide)
  have hr2 : Room 2 _ := hr.mono (by decide)
  have hr3 : Room 3 _ := hr.mono (by decide)
  have hr4 : Room 4 _ := hr.mono (by decide)
  have hr5 : Room 5 _ := hr.mono (by decide)
  refine ⟨_, pss_cons (ps_set (i := 1) scLaw.nd rfl (Or.inl rfl) (pe_ok (ok_law_draws t) hr1 rfl (pa_cons (pv 0) pa_nil)))
    (pss_cons (ps_set (i := 2) scLaw.nd rfl (Or.inl rfl) (pe_ok (ok_law_blocks t) hr4 rfl (pa_cons (pv 1) (pa_cons pe_int (pa_cons (pe_ix ix_list (pe_lst (pa_cons pe_int (pa_cons pe_int (pa_cons pe_int pa_nil)))) (pe_ok (ok_law_take t) hr1 rfl (pa_cons (pv 1) (pa_cons pe_int pa_nil))) (fun _ _ => rfl)) (pa_cons pe_int pa_nil))))))
    (pss_cons (ps_set (i := 3) scLaw.nd rfl (Or.inl rfl) (pe_ok (ok_law_counts t) hr2 rfl (pa_cons (pv 1) (pa_cons (pv 2) pa_nil))))
    (pss_cons (ps_set (i := 4) scLaw.nd rfl (Or.inl rfl) (pe_op op_add pe_int (pe_ok (ok_law_take t) hr1 rfl (pa_cons (pv 1) (pa_cons (pe_ix ix_list (pe_lst (pa_cons pe_int (pa_cons pe_int (pa_cons pe_int pa_nil)))) (pe_ok (ok_law_take t) hr1 rfl (pa_cons (pv 1) (pa_cons pe_int pa_nil))) (fun _ _ => rfl)) pa_nil)))))
    (pss_cons (ps_set (i := 5) scLaw.nd rfl (Or.inl rfl) (pe_ok (ok_law_least t) hr4 rfl (pa_cons (pv 4) (pa_cons (pv 2) (pa_cons (pv 3) pa_nil)))))
    (pss_cons (ps_if (pt_cmpR op_isN (pe_ix ix_list (pv 5) pe_int (fun _ _ => rfl)) pe_non (nomark _))
      (pss_one (ps_ret pe_bl))
      pss_nil)
    (pss_cons (ps_for PassesOwn.never rfl (pi_range1 rfl t.f_range (pa_cons pe_int pa_nil)) (pg_name (i := 6) scLaw.nd rfl (Or.inl rfl))
      (pss_cons (ps_set (i := 7) scLaw.nd rfl (Or.inl rfl) (pe_ok (ok_law_drawn_ends t) hr4 rfl (pa_cons (pv 1) (pa_cons (pv 4) (pa_cons (pv 2) (pa_cons (pv 3) (pa_cons (pv 5) pa_nil)))))))
    (pss_cons (ps_set (i := 8) scLaw.nd rfl (Or.inl rfl) (pe_ok (ok_law_whole_cost t) hr3 rfl (pa_cons (pv 4) (pa_cons (pv 2) (pa_cons (pv 3) (pa_cons (pv 7) pa_nil))))))
    (pss_cons (ps_set (i := 9) scLaw.nd rfl (Or.inl rfl) (pe_lst (pa_cons (pe_ok (ok_law_prices t) hr4 rfl (pa_cons (pv 1) (pa_cons (pv 4) (pa_cons (pv 2) (pa_cons (pv 3) (pa_cons (pv 5) pa_nil)))))) (pa_cons (pe_ok (ok_law_forged t) hr3 rfl (pa_cons (pv 4) (pa_cons (pv 2) (pa_cons (pv 3) (pa_cons (pv 5) (pa_cons (pv 7) pa_nil)))))) pa_nil))))
    (pss_cons (ps_for PassesOwn.never rfl (pi_list (pv 9)) (pg_name (i := 10) scLaw.nd rfl (Or.inl rfl))
      (pss_cons (ps_set (i := 11) scLaw.nd rfl (Or.inl rfl) (pe_ix ix_list (pv 10) pe_int (fun _ _ => rfl)))
    (pss_one (ps_if (pt_val (pe_ok (ok_accepts_prices t) hr5 rfl (pa_cons (pv 4) (pa_cons (pv 2) (pa_cons (pv 3) (pa_cons (pv 7) (pa_cons (pv 10) pa_nil)))))))
      (pss_one (ps_if (PW.pt (pw_or (pt_cmpR op_ne (pv 8) (pe_ix ix_list (pv 5) pe_int (fun _ _ => rfl)) (nomark _)) (pw_or1 (pt_cmpR op_ne (pv 11) (pv 8) (nomark _)))))
      (pss_one (ps_ret pe_bl))
      pss_nil))
      pss_nil))))
    (pss_cons (ps_setLc (i := 12) (own := [("row", 13)]) (g := gName 13) (tt := tYes) (by rfl) scLaw.nd rfl rfl (sw_true rfl rfl rfl (by decide +kernel)) (pi_list (pv 5)) (blkOk_by (own := [("row", 13)]) (N := nsLaw) (sc := defScope sLaw) (by decide +kernel)) (fun _ _ _ _ _ => pg_name (i := 13) scLaw.nd rfl (Or.inl rfl)) (fun _ _ _ _ _ => pts_nil) (fun _ _ _ _ _ => (pe_ifExp (pt_cmpR op_isN (pv 13) pe_non (nomark _)) (pe_op op_pow pe_int pe_int) (pv 13))))
    (pss_one (ps_if (pt_not (pt_val (pe_ok (ok_law_same t) hr1 rfl (pa_cons (pe_ok (ok_accepts_prices t) hr5 rfl (pa_cons (pv 4) (pa_cons (pv 2) (pa_cons (pv 3) (pa_cons (pv 7) (pa_cons (pv 12) pa_nil)))))) (pa_cons (pe_cmpR op_eq (pv 8) (pe_ix ix_list (pv 5) pe_int (fun _ _ => rfl)) (nomark _)) pa_nil)))))
      (pss_one (ps_ret pe_bl))
      pss_nil))))))))
    (pss_one (ps_ret pe_bl)))))))), ?_⟩
  refine ⟨_, rfl, sc, zs, rfl, hS, hlen, fun a H1 ha s1 D1 => ?_⟩
  -- blocks
  refine ⟨_, rfl, (by show 3 ≤ sizeLine; decide), fun L0 hL0 => ?_⟩
  refine ⟨_, rfl, a, 3, rfl, D1.new hL0, by decide, fun v H2 v0 v1 D2 B2 => ?_⟩
  have hL2 := B2 _ _ upd_same (fun z => D1.ne hL0 z.symm)
  obtain ⟨hi, e1, c1⟩ := at3 5 5 9 v0 v1
  refine ⟨_, _, _, _, rfl, rfl, SqL.of hL2, e1, ?_⟩
  refine ⟨a, 1, hi, 3, rfl, D2, by decide, by omega, by omega, by decide, by decide, fun b bs ks H3 hb hB3 kl1 kl2 D3 B3 => ?_⟩
  have nba : b ≠ a := fun e => D2.ne hb e.symm
  refine ⟨_, rfl, _, rfl, a, b, bs, ks, rfl, D3, hB3, nba, by omega, fun l ns H4 hl0 hl hC D4 B4 => ?_⟩
  have nla : l ≠ a := fun e => D3.ne hl0 e.symm
  have hB4 : BkAt H4 b l bs ks ns := ⟨hB3.but B4 nba D3, hl, hC, by omega⟩
  have cl := hC.len
  have sle := sum_le ns hC.pos
  -- the height
  refine ⟨_, rfl, (by show 3 ≤ sizeLine; decide), fun L1 hL1 => ?_⟩
  refine ⟨_, rfl, a, 3, rfl, D4.new hL1, by decide, fun v2 H5 v20 v21 D5 B5 => ?_⟩
  have hL5 := B5 _ _ upd_same (fun z => D4.ne hL1 z.symm)
  obtain ⟨hh, e2, c2⟩ := at3 4 4 9 v20 v21
  have B45 : But a H4 H5 := fun c o e n => B5 c o (Same.new hL1 _ _ e) n
  have hB5 := hB4.but B45 nba nla D4
  refine ⟨_, _, _, _, rfl, rfl, SqL.of hL5, e2, a, hh, rfl, D5, by omega, fun v3 H6 v30 v31 D6 B6 => ?_⟩
  have hB6 := hB5.but B6 nba nla D5
  obtain ⟨most, hmost⟩ : ∃ most : Nat, (3 : Int) + v3 = (most : Int) + 1 := ⟨(2 + v3).toNat, by omega⟩
  have m10 : most ≤ 10 := by omega
  refine ⟨_, _, rfl, rfl, ?_⟩
  dsimp only
  rw [hmost]
  refine ⟨_, rfl, _, rfl, _, rfl, b, l, bs, ks, ns, most, rfl, hB6, by omega, fun q H7 hq s7 hlo => ?_⟩
  have nqa : q ≠ a := fun e => D6.ne hq e.symm
  have hW : LwAt H7 a b l q bs ks ns most := ⟨D6.same s7, hB6.same s7, hlo, nba, nla, nqa⟩
  have nz : 0 < ns.sum := by
    cases ns with
    | nil => rw [← cl] at kl1; exact absurd kl1 (by decide)
    | cons y r =>
      have := (hC.pos y List.mem_cons_self).1
      rw [List.sum_cons]
      omega
  have nlen : 0 < ns.length := by omega
  have bound : most ^ 2 * ns.sum ≤ 1000000 := by
    have h1 : most ^ 2 ≤ 10 ^ 2 := Nat.pow_le_pow_left m10 2
    have h2 : ns.sum ≤ 54 := by omega
    exact Nat.le_trans (Nat.mul_le_mul h1 h2) (by decide)
  have lo0 : atI (loL ks ns most) 0 = some (oN (LO ks ns most 0)) := range_get (f := fun s => oN (LO ks ns most s)) (s := 0) (by omega)
  refine ⟨_, rfl, q, _, _, _, rfl, rfl, SqL.of hlo, lo0, rfl, _, rfl, ?_⟩
  cases h0 : LO ks ns most 0 with
  | none => exact iteT (k _)
  | some a0 =>
    refine iteF ?_
    have lo1 : atI (loL ks ns most) 0 = some (nv a0) := by rw [lo0, h0]; rfl
    have l0 : loD ks ns most 0 = a0 := by unfold loD; rw [h0]; rfl
    refine ⟨4, rfl, by decide, by decide, ?_⟩
    refine for_range (lo := 0) (n := 4) (fun i σ' H' => (∃ o6 o7 o8 o9 o10 o11 o12 : Option V, σ' = [some (.ref sc), some (.ref a), some (.ref b), some (.ref l), some (.int ((most : Int) + 1)), some (.ref q), o6, o7, o8, o9, o10, o11, o12, none]) ∧ LwAt H' a b l q bs ks ns most) ⟨⟨_, _, _, _, _, _, _, rfl⟩, hW⟩ ?_ (fun σ' H' _ => k H')
    rintro i σ' H' hi ⟨⟨o6, o7, o8, o9, o10, o11, o12, rfl⟩, W0⟩
    refine ⟨_, rfl, _, rfl, _, rfl, _, rfl, _, rfl, a, b, l, q, bs, ks, ns, most, rfl, W0, by omega, by rw [h0]; rfl, fun p es K1 hp he hP E1 C1 => ?_⟩
    have W1 := W0.but C1 E1
    have npa : p ≠ a := fun e => W0.dr.ne hp e.symm
    refine ⟨_, rfl, _, rfl, _, rfl, _, rfl, b, l, p, bs, ks, ns, most, es, rfl, W1.bk, by omega, he, hP.all, fun K2 t2 => ?_⟩
    have W2 := W1.same t2
    refine ⟨_, rfl, _, rfl, _, rfl, _, rfl, _, rfl, a, b, l, q, bs, ks, ns, most, rfl, W2, by omega, nz, fun r1 ps1 K3 hr1' hps1 len1 E3 C3 => ?_⟩
    have W3 := W2.but C3 E3
    have he3 := C3 _ _ (t2 _ _ he) npa
    have nr1a : r1 ≠ a := fun e => W2.dr.ne hr1' e.symm
    refine ⟨_, rfl, _, rfl, _, rfl, _, rfl, _, rfl, b, l, q, p, bs, ks, ns, most, es, rfl, W3.bk, W3.lo, by omega, he3, hP, fun r2 ps2 K4 hr2' t4 hps2 len2 => ?_⟩
    have W4 := W3.same t4
    refine ⟨(by show 2 ≤ sizeLine; decide), fun M hM => ?_⟩
    have tM : Same K4 (upd K4 M (.lst [.ref r1, .ref r2])) := Same.new hM
    refine ⟨_, rfl, M, rfl, ⟨_, SqL.of upd_same⟩, ?_⟩
    have hps14 := t4 _ _ hps1
    have he4 := t4 _ _ he3
    refine for_list (K := K) (a := M) (xs := [V.ref r1, V.ref r2]) (fun j σ3 H3 => (∃ o10 o11 : Option V, σ3 = [some (.ref sc), some (.ref a), some (.ref b), some (.ref l), some (.int ((most : Int) + 1)), some (.ref q), some (.int (0 + (i : Int))), some (.ref p), some (nv (wc ks ns most es es.length)), some (.ref M), o10, o11, o12, none]) ∧ Same (upd K4 M (.lst [.ref r1, .ref r2])) H3) ⟨⟨_, _, rfl⟩, Same.refl _⟩ (fun j σ3 H3 _ p => SqL.of (p.2 _ _ upd_same)) ?_ ?_
    · rintro j v σ3 H3 hv ⟨⟨o10, o11, rfl⟩, t3⟩
      have t43 : Same K4 H3 := fun c o e => t3 _ _ (tM _ _ e)
      have W5 := W4.same t43
      obtain ⟨r, ps, rfl, hps, len⟩ : ∃ (r : Addr) (ps : List Int), v = .ref r ∧ H3 r = some (.lst (ps.map V.int)) ∧ ps.length = ns.sum + 1 := by
        match j, hv with
        | 0, hv => cases hv; exact ⟨r1, ps1, rfl, t43 _ _ hps14, len1⟩
        | 1, hv => cases hv; exact ⟨r2, ps2, rfl, t43 _ _ hps2, len2⟩
        | j + 2, hv => cases hv
      refine ⟨_, rfl, r, _, _, _, rfl, rfl, SqL.of hps, ints_get (j := 0) (by omega), ?_⟩
      refine ⟨_, rfl, _, rfl, _, rfl, _, rfl, _, rfl, b, l, p, r, bs, ks, ns, most, es, ps, rfl, W5.bk, by omega, nlen, t43 _ _ he4, hps, fun H6 t6 => ⟨_, rfl, ?_⟩⟩
      have t36 : Same (upd K4 M (.lst [.ref r1, .ref r2])) H6 := fun c o e => t6 _ _ (t3 _ _ e)
      refine ite2 (fun h1 => ?_) (fun h1 => ⟨⟨_, _, rfl⟩, t36⟩)
      obtain ⟨g1, g2⟩ := acc_least hP h1
      have W6 := W5.same t6
      refine ⟨_, rfl, _, rfl, q, _, _, _, rfl, rfl, SqL.of W6.lo, lo1, rfl, _, rfl, ?_⟩
      have e5 : decide (nv (wc ks ns most es es.length) = nv a0) = true := decide_eq_true (by rw [g1, l0])
      rw [e5]
      refine iteF ⟨_, rfl, _, rfl, rfl, _, rfl, ?_⟩
      have e6 : decide (V.int (ps.getD 0 0) = nv (wc ks ns most es es.length)) = true := decide_eq_true (by rw [g2]; rfl)
      rw [e6]
      exact iteF ⟨⟨_, _, rfl⟩, t36⟩
    · rintro σ3 H3 ⟨⟨o10, o11, rfl⟩, t3⟩
      have t43 : Same K4 H3 := fun c o e => t3 _ _ (tM _ _ e)
      have W5 := W4.same t43
      refine ⟨_, rfl, q, rfl, ⟨_, SqL.of W5.lo⟩, fun X hX => ?_⟩
      refine lc_known (K := K) (xs := loL ks ns most) (ys := (plain ks ns most).map V.int) hX (SqL.of W5.lo) (by rw [List.length_map, plain_len, loL_len]) (by rw [List.length_map, plain_len]; exact Nat.le_trans (show _ ≤ 100000 by omega) (by decide)) (fun _ => rfl) (fun i x y G1 Q1 hx hy g1 q1 => ?_) (fun G1 g1 hX1 => ?_)
      · obtain ⟨o, rfl, rfl⟩ := plain_at hx hy
        refine ⟨_, rfl, rfl, _, rfl, ?_⟩
        cases o with
        | none => exact iteT ⟨_, _, rfl, rfl, ⟨by decide, by decide, by decide⟩, q1 G1 (Same.refl _)⟩
        | some c => exact iteF ⟨_, rfl, q1 G1 (Same.refl _)⟩
      have W6 := W5.same g1
      refine ⟨_, rfl, _, rfl, _, rfl, _, rfl, _, rfl, b, l, p, X, bs, ks, ns, most, es, plain ks ns most, rfl, W6.bk, by omega, nlen, g1 _ _ (t43 _ _ he4), hX1, fun G2 g2 => ?_⟩
      have W7 := W6.same g2
      refine ⟨_, rfl, _, rfl, q, _, _, _, rfl, rfl, SqL.of W7.lo, lo1, rfl, ?_⟩
      have e7 : accB ks ns most es (plain ks ns most) = decide (nv (wc ks ns most es es.length) = nv a0) := by
        rw [acc_plain hP bound, l0, nv_eq]
      refine ⟨_, _, rfl, _, rfl, ?_⟩
      rw [e7, decide_eq_true rfl]
      exact iteF ⟨⟨_, _, _, _, _, _, _, rfl⟩, W7⟩
end
end Sx

set_option Elab.async false
set_option linter.all false
set_option maxRecDepth 100000
set_option maxHeartbeats 0
namespace Sx
open PySem PySem.Spec PyProof.Rows L2 SxA
theorem facts {P : Program} {w : World} {K : PySem.W.Frag} {h : Heap} {mg : Str → Option Value} {f : Addr} (X : K.In h) (G : h.Ns mainGlobals mg) (hfa : mg ("law" : Str) = some (.ref f)) (c : He.SaysD fa fn K) :
    ∃ fd : FuncData, (∀ (s : Shared) (v : Value), BindsTo s fd ⟨[v], []⟩ [("script", v)]) ∧ ∀ base : Heap, K.In base → base.Ns mainGlobals mg → FnOk P w K mg base CX0 6 f fd ["script"] (spLaw K) := by
  have t : T K mg := ⟨c, h, X, G⟩
  obtain ⟨fd, F⟩ := t.d_law
  have e := hfa.symm.trans t.g_law
  cases e
  have b := FunD.bindsA (ps := ["script"]) F fun _ _ _ _ _ _ us hl => match us, hl with | [_], _ => rfl
  exact ⟨fd, fun s v => b s [v] rfl, fun base _ _ => ok_law t F⟩
end Sx
open PySem PySem.W PySem.Calls PyProof.Rows
set_option maxRecDepth 100000 in
set_option maxHeartbeats 0 in
theorem PySem.Challenge.cw_sixdot_k34_whole_accepted_prices_show_th_holds : PySem.Challenge.rw_sixdot_k34_whole_accepted_prices_show_th.Holds := by
  w_on; o_law
  refine HandSHeadRun.head_any (r := OpenLaw.row PySem.Challenge.rw_sixdot_k34_whole_accepted_prices_show_th) (q := view (OpenLaw.row PySem.Challenge.rw_sixdot_k34_whole_accepted_prices_show_th).prog [25]) (H := Sx.hk) (ob := Sx.ob) (M := 4000) (loose := Sx.loose) (d := HandSHeadRun.topDef (OpenLaw.row PySem.Challenge.rw_sixdot_k34_whole_accepted_prices_show_th).prog 25) (kwd := []) Sx.ob_eq
    (by kernel_rfl) (fun s => by kernel_rfl) Sx.run (by kernel_rfl) (by kernel_rfl) (by kernel_rfl) (by rfl) (by first | assumption | decide +kernel) (by decide +kernel) ⟨rfl, rfl, rfl, rfl, rfl, by decide +kernel⟩ ?hw ?hc
  case hw => w_witness2
  case hc =>
    refine L2.walk_ofE (l := PySem.Challenge.rw_sixdot_k34_whole_accepted_prices_show_th) (n := 63) (k := 6) (x := "script") (CX := L2.CX0) rfl (by decide) (by kernel_rfl) ⟨rfl, by decide, by decide⟩ ?F (fun _ _ _ _ z => z)
    intro w mg fa h Y G hmg0
    obtain ⟨K, KX, c⟩ := Y
    have hmg : mg ("law" : PySem.Str) = some (.ref fa) := by
      have e : (HandSHeadRun.topDef (OpenLaw.row PySem.Challenge.rw_sixdot_k34_whole_accepted_prices_show_th).prog 25).name = ("law" : PySem.Str) := by kernel_rfl
      rw [← e]
      exact hmg0
    obtain ⟨fd, hb, hF⟩ := Sx.facts (P := (PySem.Challenge.rw_sixdot_k34_whole_accepted_prices_show_th).prog) (w := w) KX G hmg c
    exact ⟨K, fd, Sx.spLaw K, KX, hb, fun H a ns hl _ hS => ⟨a, ns, rfl, hS, hl, fun _ => rfl⟩, hF⟩
