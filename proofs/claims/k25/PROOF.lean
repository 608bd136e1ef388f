import PyProof.Rows.All
import Wide.All
import OpenK.AllK
import Wide.FinOn
import PyProof.Rows.SetFrom
import PyProof.StrWalks
import KE.KRevIter
import HandS.ForMost
import HandS.Rev
import HandS.RevTup
import HandS.Style
import HandS.Flow
import HandS.WideBits
import HandS.Codes
import HandS.IsInst
import HandS.Head0
import HandS.Head1
import HandS.Head2
import HandS.HeadEnd
import HandS.HeadHook1
import HandS.HeadHook2
import HandS.Defaults
import HandS.MakeKwOnly
import KE.KStateDown
import HandS.ForDict
import HandS.More
import HandS.Zip
import HandS.RevRange
import PyProof.Draws
import KE.KExcSuper
import HandS.Exc
import HandS.ExcInit
import HandS.ExcField
import HandS.ExcOwn
import HandS.FStr
import HandS.HeadHook3
import Wide.Once
import HandS.Text
import PyProof.JoinWalk
import HandS.StrMore
import HandS.Call
import HandS.TupAny
import HandS.Walk
import HandS.Conv
import HandS.TryOnly
import HandS.FStrTup
import HandS.WordsExc
import PySem.Challenge.RW_sixdot_k25_lines_put_together
set_option Elab.async false
set_option linter.all false
set_option maxRecDepth 100000
set_option maxHeartbeats 4000000
/-! rules that the layer lacks: len(set(text)), text * int, list(reversed(list)) -/
namespace SxA
open PySem PySem.Spec PyProof.Rows L2

/-! ### the different signs of a text, in the order in which they come -/
def stepD (acc : List Nat) (c : Nat) : List Nat := if c ∈ acc then acc else acc ++ [c]
def firsts (l : List Nat) : List Nat := l.foldl stepD []
theorem firsts_snoc (l : List Nat) (c : Nat) : firsts (l ++ [c]) = stepD (firsts l) c := by
  unfold firsts; rw [List.foldl_append]; rfl
theorem mem_step (acc : List Nat) (c k : Nat) : k ∈ stepD acc c ↔ k ∈ acc ∨ k = c := by
  unfold stepD
  by_cases h : c ∈ acc
  · rw [if_pos h]
    exact ⟨Or.inl, fun q => q.elim id fun e => by rw [e]; exact h⟩
  · rw [if_neg h, List.mem_append, List.mem_singleton]
theorem mem_fold : ∀ (l acc : List Nat) (k : Nat), k ∈ l.foldl stepD acc ↔ k ∈ acc ∨ k ∈ l
  | [], acc, k => by simp
  | c :: l, acc, k => by
    rw [List.foldl_cons, mem_fold l, mem_step, List.mem_cons]
    constructor
    · rintro ((h | h) | h)
      · exact .inl h
      · exact .inr (.inl h)
      · exact .inr (.inr h)
    · rintro (h | h | h)
      · exact .inl (.inl h)
      · exact .inl (.inr h)
      · exact .inr h
theorem mem_firsts (l : List Nat) (k : Nat) : k ∈ firsts l ↔ k ∈ l := by
  unfold firsts; rw [mem_fold]; simp
theorem firsts_take {l : List Nat} {i c : Nat} (h : l[i]? = some c) : firsts (l.take (i + 1)) = stepD (firsts (l.take i)) c := by
  rw [List.take_add_one, h]; exact firsts_snoc _ _
theorem firsts_count : ∀ (l : List Nat) (i : Nat), i ≤ l.length → (firsts (l.take i)).length ≤ i ∧ ((firsts (l.take i)).length = i ↔ (l.take i).Nodup)
  | l, 0, _ => by simp [firsts]
  | l, i + 1, hi => by
    have hc : l[i]? = some l[i] := List.getElem?_eq_getElem hi
    obtain ⟨a, b⟩ := firsts_count l i (by omega)
    rw [firsts_take hc]
    have et : l.take (i + 1) = l.take i ++ [l[i]] := by rw [List.take_add_one, hc]; rfl
    unfold stepD
    by_cases hm : l[i] ∈ firsts (l.take i)
    · rw [if_pos hm]
      refine ⟨by omega, fun q => by omega, fun nd => ?_⟩
      rw [et, List.nodup_append] at nd
      exact absurd rfl (nd.2.2 _ ((mem_firsts _ _).mp hm) _ (List.mem_singleton.mpr rfl))
    · rw [if_neg hm, List.length_append, List.length_singleton]
      refine ⟨by omega, ?_⟩
      rw [et, List.nodup_append]
      constructor
      · intro q
        refine ⟨b.mp (by omega), by simp, fun x hx y hy e => hm ?_⟩
        rw [List.mem_singleton] at hy
        rw [← hy, ← e]
        exact (mem_firsts _ _).mpr hx
      · intro q
        have := b.mpr q.1
        omega
/-- len(set(text)) -/
def kinds (z : Str) : Nat := (firsts z.cps.toList).length
theorem kinds_eq (z : Str) : kinds z = z.length ↔ z.cps.toList.Nodup := by
  have h := firsts_count z.cps.toList z.cps.toList.length (Nat.le_refl _)
  rw [List.take_length] at h
  have e : z.length = z.cps.toList.length := by simp [Str.length]
  unfold kinds
  rw [e]
  exact h.2
theorem kinds_le (z : Str) : kinds z ≤ z.length := by
  have h := firsts_count z.cps.toList z.cps.toList.length (Nat.le_refl _)
  rw [List.take_length] at h
  have e : z.length = z.cps.toList.length := by simp [Str.length]
  unfold kinds
  rw [e]
  exact h.1

/-! ### set(text) on the machine -/
abbrev sg (c : Nat) : Str := ⟨#[c]⟩
theorem sg_inj {a b : Nat} (h : sg a = sg b) : a = b := by
  have e : (#[a] : Array Nat) = #[b] := congrArg Str.cps h
  simpa using e
def hasD (l : List Nat) (k : Str) : Bool := l.any fun c => decide (k = sg c)
theorem hasD_sg (l : List Nat) (c : Nat) : hasD l (sg c) = decide (c ∈ l) := by
  unfold hasD
  by_cases h : c ∈ l
  · rw [decide_eq_true h]
    exact List.any_eq_true.mpr ⟨c, h, decide_eq_true rfl⟩
  · rw [decide_eq_false h]
    refine Bool.eq_false_iff.mpr fun q => ?_
    obtain ⟨d, hd, e⟩ := List.any_eq_true.mp q
    rw [sg_inj (of_decide_eq_true e)] at h
    exact h hd
theorem hasD_step (l : List Nat) (c : Nat) (k : Str) : hasD (stepD l c) k = (hasD l k || decide (k = sg c)) := by
  unfold stepD
  by_cases h : c ∈ l
  · rw [if_pos h]
    by_cases e : k = sg c
    · rw [e, hasD_sg, decide_eq_true h]
      rfl
    · rw [decide_eq_false e, Bool.or_false]
  · rw [if_neg h]
    unfold hasD
    rw [List.any_append]
    simp
theorem len_step (l : List Nat) (c : Nat) : (stepD l c).length = if hasD l (sg c) = true then l.length else l.length + 1 := by
  rw [hasD_sg]
  unfold stepD
  by_cases h : c ∈ l
  · rw [if_pos h, if_pos (decide_eq_true h)]
  · rw [if_neg h, if_neg (by rw [decide_eq_false h]; exact Bool.false_ne_true), List.length_append, List.length_singleton]
section
variable {prog : Program} {w : World} {A : Around} {E : Value → Shared → Prop}
/-- the set at S holds the signs l -/
def SetS (prog : Program) (w : World) (h : Heap) (S : Addr) (l : List Nat) : Prop := h.SetOf (strKind prog w) S (hasD l) l.length
theorem SetS.keep {h h' : Heap} {S : Addr} {l : List Nat} (p : SetS prog w h S l) (k : ∀ o, h.get? S = some o → h'.get? S = some o) : SetS prog w h' S l := by
  obtain ⟨o, es, ep, t, ho, r⟩ := p
  exact ⟨o, es, ep, t, k o ho, r⟩
theorem loopS {R : Result → Shared → Prop} {I : Addr} {fp wr : List Addr} {G : Array GenState → Array GenState → Prop} {x : Str} {St : Nat → Shared → Prop}
    (W : WalksS prog w A.in1 I fp wr G x.cps.size (SignAt x) St) (S : Addr) (away : S ∉ fp) (small : x.cps.size + 1 < scanBound) : ∀ (k i : Nat) (s : Shared), x.cps.size - i = k → i ≤ x.cps.size → St i s →
      SetS prog w s.heap S (firsts (x.cps.toList.take i)) → (∀ s', Moved (S :: wr) G s s' → SetS prog w s'.heap S (firsts x.cps.toList) → R (.ok (.ret .none)) s') →
      codeAny (model prog w) A (.builtin "set.update.loop" ⟨[.ref S, .ref I], []⟩) R s := by
  have awr : S ∉ wr := fun q => away (W.sub _ q)
  have more : ∀ b ∈ wr, b ∈ S :: wr := fun b hb => .tail _ hb
  intro k
  induction k with
  | zero =>
    intro i s hk hi st hS done
    obtain rfl : i = x.cps.size := by omega
    refine codeAny_builtin F.entry_set_update_loop ?_
    rw [Around.under_plainId F.plain_set_update_loop _]
    show wpAny _ A.in1 (pyNext (.ref I) >>= _) _ _ s
    refine wpAny_bind (W.done s _ _ st fun s' mv => ?_)
    show wpAny _ A.in1 (ret Value.none) _ _ s'
    have e : x.cps.toList.take x.cps.size = x.cps.toList := List.take_of_length_le (by simp)
    rw [e] at hS
    exact wpAny_pure (done s' (mv.mono more) (hS.keep fun o q => mv.heap S o awr q))
  | succ k ih =>
    intro i s hk hi st hS done
    have lt : i < x.cps.size := by omega
    refine codeAny_builtin F.entry_set_update_loop ?_
    rw [Around.under_plainId F.plain_set_update_loop _]
    show wpAny _ A.in1 (pyNext (.ref I) >>= _) _ _ s
    refine wpAny_bind (W.item i s _ _ lt st fun v s' hv st' mv => ?_)
    obtain ⟨c, u, hc, rfl⟩ := hv
    have hS' := hS.keep (h' := s'.heap) fun o q => mv.heap S o awr q
    show wpAny _ A.in1 (holding [Value.str (sg c) u] (setAdd S (.str (sg c) u)) >>= _) _ _ s'
    refine wpAny_bind (wpAny_holding ?_)
    unfold setAdd
    refine wpAny_holding ?_
    refine wpAny_bind ((strKind prog w).pyHash (k := sg c) (strKind_is _ _ _ _) ?_)
    have cnt := (firsts_count x.cps.toList i (by simp; omega)).1
    refine wpAny_setAddHashed_of (knd := strKind prog w) (s := { s' with toks := s'.toks + 1 }) (strKind_is _ _ _ _) rfl hS' (by omega) fun h' sb hS2 => ?_
    have hc2 : x.cps.toList[i]? = some c := by rw [Array.getElem?_toList]; exact hc
    have hS3 : SetS prog w h' S (firsts (x.cps.toList.take (i + 1))) := by
      rw [firsts_take hc2]
      exact SetOf_congr hS2 (fun k => (hasD_step _ c k).symm) (len_step _ c).symm
    refine wpAny_pure ⟨plainId_quiet F.plain_set_update_loop _, ih (i + 1) _ (by omega) lt (W.frame _ s' _ _ st' (Nat.le_succ _) fun b hb o e => ?_) hS3 fun s'' mv' hS'' => done s'' (Moved.trans W.gtrans ((mv.mono more).then_heap (Nat.le_succ _) fun b o hb e => ?_) mv') hS''⟩
    · rw [sb.2 b fun q : b = S => away (by rw [← q]; exact hb)]; exact e
    · rw [sb.2 b fun q : b = S => hb (by rw [q]; exact .head _)]; exact e
variable {s : Shared}
theorem sub_str_set : isSubtype (.type "str") (.type "set") = pure false := by rw [isSubtype_type]; kernel_rfl
theorem sub_str_frozenset : isSubtype (.type "str") (.type "frozenset") = pure false := by rw [isSubtype_type]; kernel_rfl
theorem call_set_text {x : Str} {tx : Tok} {Q : Value → Shared → Prop} (hh : A.handled = none) (small : x.cps.size + 1 < scanBound)
    (h : ∀ (h' : Heap) (tk : Nat), SetS prog w h' s.heap.objs.size (firsts x.cps.toList) → (∀ b o, b < s.heap.objs.size → s.heap.get? b = some o → h'.get? b = some o) → Q (.ref s.heap.objs.size) { s with heap := h', toks := tk }) :
    wpAny (model prog w) A (call (.type "set") [.str x tx]) Q E s := by
  obtain ⟨c, tl, hmro⟩ := F.called_set.mro
  have hmade := F.called_set.made
  have hsub := F.called_set.sub
  refine wpAny_call (codeAny_of_tree ?_)
  show wpAny _ _ (callAny (.type "set") _) _ _ _
  refine wpAny_pure ⟨Code.quiet_builtin _ (by decide +kernel), codeAny_builtin F.entry_type_call ?_⟩
  rw [Around.under_plain (weight_type_call_type "set" [.str x tx] []) rfl]
  have h1 := F.called_set.notType
  have h2 := F.called_set.canCreate
  have hct := PySem.F.typeCall_set_1 (.str x tx)
  repeat (any_goals (first | assumption | wp_step))
  refine codeAny_mono (code_set_new_1 (.str x tx) (E := E) (Q₁ := fun v s₁ => ∃ led : Bool, v = .ref s.heap.objs.size ∧ s₁ = { s with heap := s.heap.push { cls := .type "set", dict := none, data := .set #[] 0 (.fresh 0 0 led) } }) fun led => ⟨led, rfl, rfl⟩) fun r s₁ hr => ?_
  cases r with
  | error e => exact hr
  | ok fl =>
    cases fl with
    | ret v =>
      obtain ⟨led, rfl, rfl⟩ := hr
      have hS : (s.heap.push { cls := .type "set", dict := none, data := .set #[] 0 (.fresh 0 0 led) }).get? s.heap.objs.size = some { cls := .type "set", dict := none, data := .set #[] 0 (.fresh 0 0 led) } := Heap.get?_push_size _ rfl
      have hT : Shared.TypeIs { s with heap := s.heap.push { cls := .type "set", dict := none, data := .set #[] 0 (.fresh 0 0 led) } } (.ref s.heap.objs.size) "set" := ⟨_, hS, rfl⟩
      have hli := F.called_set.init.lookup
      have hbi := F.called_set.init.bind (.ref s.heap.objs.size)
      repeat (any_goals (first | assumption | wp_step))
      refine codeAny_mono (codeAny_call_builtin (R := wants (fun r s₂ => r = .none ∧ ∃ h' tk, s₂ = { s with heap := h', toks := tk } ∧ SetS prog w h' s.heap.objs.size (firsts x.cps.toList) ∧
          (∀ b o, b < s.heap.objs.size → s.heap.get? b = some o → h'.get? b = some o)) E) F.called_set.init.plain F.entry_set_init (check_set_init_1 hT ?_)) fun r₂ s₂ hr₂ => ?_
      · have hsls := sub_str_set
        have hslf := sub_str_frozenset
        have hne : (Value.type "str" == Value.type "dict") = false := by decide
        unfold Builtin.«set.__init__» noKeywords Builtin.Frozenset.updateFrom
        generalize hPI : pyIter = PI
        wp_walk
        subst hPI
        refine wpAny_pyIter_str fun o St W st => ?_
        refine wpAny_bind (wpAny_runValue ?_)
        have hh3 : A.in1.in1.in1.handled = none := by simp [hh]
        have away : s.heap.objs.size ∉ [(s.heap.push { cls := .type "set", dict := none, data := .set #[] 0 (.fresh 0 0 led) }).objs.size] := by
          rw [Heap.size_push, List.mem_singleton]
          exact Nat.ne_of_lt (Nat.lt_succ_self _)
        refine loopS ((W _ hh3).toS) s.heap.objs.size away small (x.cps.size - 0) 0 _ (by omega) (Nat.zero_le _) st ?hS0 ?hR
        case hS0 =>
          exact SetOf_congr ((PyProof.Rows.setObjOf_fresh (knd := strKind prog w) led).setOf (Heap.get?_push_of_some _ hS) (by unfold scanBound; omega)) (fun _ => rfl) rfl
        case hR =>
          intro s' mv hS'
          obtain ⟨h', g', d', tk', os'⟩ := s'
          have eg : g' = s.gens := mv.gens
          have ed : d' = s.drawn := mv.drawn
          have eo : os' = s.os := mv.os
          subst eg; subst ed; subst eo
          show wpAny _ _ _ _ _ _
          refine wpAny_pure ?_
          show wpAny _ _ (ret Value.none) _ _ _
          refine wpAny_pure ⟨rfl, h', tk', rfl, hS', fun b o hb e => ?_⟩
          have n1 : b ≠ s.heap.objs.size := Nat.ne_of_lt hb
          have n2 : b ≠ (s.heap.push { cls := .type "set", dict := none, data := .set #[] 0 (.fresh 0 0 led) }).objs.size := by
            rw [Heap.size_push]; exact Nat.ne_of_lt (Nat.lt_succ_of_lt hb)
          exact mv.heap b o (by simp only [List.mem_cons, List.mem_singleton, List.not_mem_nil, or_false, not_or]; exact ⟨n1, n2⟩) (Heap.get?_push_of_some _ (Heap.get?_push_of_some _ e))
      · cases r₂ with
        | error e => exact hr₂
        | ok fl₂ =>
          cases fl₂ with
          | ret r =>
            obtain ⟨rfl, h', tk, rfl, hS', hk'⟩ := hr₂
            repeat (any_goals (first | assumption | wp_step))
            exact h _ _ hS' hk'
          | _ => exact hr₂.elim
    | _ => exact hr.elim
end
/-! ### the rules -/
/-- len(set(text)) -/
def tKinds (ta : TE) : TE := fun σ H Q => ta σ H fun v H1 => ∃ z : Str, v = .str z ∧ z.length ≤ 4000 ∧ Q (.int (kinds z : Nat)) H1
theorem pe_kinds {X : Cx} {a : Expr} {ta : TE} {p p2 q pos : Pos} (hg : Gl X "len") (hm : X.mg "len" = none) (hg2 : Gl X "set") (hm2 : X.mg "set" = none) (ha : PE X a ta) (hc : X.calm = true := by rfl)
    (na : starEach [a] X.env = (false, eval a X.env) :: starEach [] X.env := by rfl) : PE X (.Call (.Name "len" p) [.Call (.Name "set" p2) [a] [] q] [] pos) (tKinds ta) := by
  constructor
  intro pins s σ H Q I h
  refine Call_ (ld_blt I hg hm boot_len (PyProof.Rows.callWith_builtin1 (PyProof.Rows.args_cons (Call_ (ld_blt I hg2 hm2 boot_set ?_)) rfl) rfl rfl))
  refine PyProof.Rows.callWith_type1 (PyProof.Rows.args_cons (thn (ha.run pins s σ H _ I h) fun v s1 ⟨y, H1, I1, r1, q1⟩ => PyProof.Rows.args_nil ?_) na) na rfl
  obtain ⟨z, rfl, hl, q1⟩ := q1
  obtain ⟨t, rfl⟩ := r1
  have hs : z.cps.size = z.length := rfl
  refine call_set_text (I1.ok.hd hc) (by rw [hs]; unfold scanBound; omega) fun h' tk hS hk => PyProof.Rows.args_nil ?_
  have kl := kinds_le z
  obtain ⟨o, es, ep, t2, ho, hex, hd, _, _, _, hf, hn⟩ := hS
  have hn2 : es.size = kinds z := hn
  have I2 : Inv X pins σ H1 { s1 with heap := h', toks := tk } := I1.kept fun b o e => hk b o (Heap.lt_size e) e
  exact call_len_set ho hex hd hf (by rw [hn2]; omega) ⟨.int (kinds z : Nat), H1, I2.tok _, ⟨_, by rw [hn2]⟩, q1⟩
/-- text * n -/
def rMulS : R2 := fun x y H Q => ∃ (z : Str) (n : Int), x = .str z ∧ y = .int n ∧ MulOk z n ∧ Q (.str (Txt.mul z n)) H
theorem op_mulS {X : Cx} : OpR X (binaryOp .Mult) rMulS := by
  intro pins s σ H x y v u Q I rx ry h
  obtain ⟨z, n, rfl, rfl, hz, q⟩ := h
  obtain ⟨t, rfl⟩ := rx
  obtain ⟨t', rfl⟩ := ry
  exact SB.mul hz fun t2 tk => ⟨.str (Txt.mul z n), H, I.tok _, ⟨_, rfl⟩, q⟩
end SxA

set_option Elab.async false
set_option linter.all false
set_option maxRecDepth 100000
set_option maxHeartbeats 4000000
namespace SxA
open PySem PySem.Spec PyProof.Rows L2
section
variable {prog : Program} {w : World} {A : Around} {E : Value → Shared → Prop} {s : Shared}
/-- list(it), it what reversed(a list) gave -/
theorem call_list_rev {it l : Addr} {items : Array Value} {Q : Value → Shared → Prop} (hh : A.handled = none) (hit : s.heap.IsRevIter it l ((items.size : Int) - 1)) (hl : s.heap.IsList l items) (hne : l ≠ it) (hn : items.size ≤ sizeLine)
    (hQ : ∀ (h' : Heap) (tk : Nat) (acc : Array Value) (c : Nat), (∀ b o, b ≠ it → s.heap.get? b = some o → h'.get? b = some o) → h'.get? s.heap.objs.size = some { cls := .type "list", dict := none, data := .seq acc c, slots := #[] } →
      ItemsOf (fun i v => items[items.size - 1 - i]? = some v) acc items.size → Q (.ref s.heap.objs.size) { s with heap := h', toks := tk }) :
    wpAny (model prog w) A (call (.type "list") [.ref it]) Q E s := by
  obtain ⟨oi, hoi, _⟩ := id hit
  obtain ⟨ol, hol, _⟩ := id hl
  have ni : s.heap.objs.size ≠ it := Nat.ne_of_gt (Heap.lt_size hoi)
  have nl : s.heap.objs.size ≠ l := Nat.ne_of_gt (Heap.lt_size hol)
  have away : s.heap.objs.size ∉ [it, l] := by
    simp only [List.mem_cons, List.not_mem_nil, or_false, not_or]
    exact ⟨ni, nl⟩
  refine callType_codes (Q₁ := fun v s₁ => v = .ref s.heap.objs.size ∧ s₁ = { s with heap := s.heap.push { cls := .type "list", data := .seq #[] } }) F.called_list (F.typeCall_list_1 _) F.entry_list_init (code_list_new _ ⟨rfl, rfl⟩) fun v s₁ h₁ => ?_
  obtain ⟨rfl, rfl⟩ := h₁
  have hS : (s.heap.push { cls := .type "list", data := .seq #[] }).get? s.heap.objs.size = some { cls := .type "list", data := .seq #[] } := Heap.get?_push_size _ rfl
  refine ⟨⟨_, hS, rfl⟩, F.args_list_init_2 _ _, ?_⟩
  show wpAny _ _ (do let old ← Builtin.List.listItems (.ref s.heap.objs.size); Builtin.List.listUpdate (.ref s.heap.objs.size) (fun _ => #[]); letGo old.toList.reverse; Builtin.List.listExtendWith (.ref s.heap.objs.size) (.ref it) .none) _ _ _
  refine wpAny_bind ?_
  unfold Builtin.List.listItems
  refine wpAny_bind (wpAny_seqItems hS rfl (wpAny_pure ?_))
  show wpAny _ _ (updateSeq s.heap.objs.size (fun _ => #[]) >>= fun _ => letGo (#[] : Array Value).toList.reverse >>= fun _ => Builtin.List.listExtendWith (.ref s.heap.objs.size) (.ref it) .none) _ _ _
  refine wpAny_bind (wpAny_updateSeq hS rfl ?_)
  have hS₂ := Heap.get?_update_self (Obj.mapSeq (fun _ => (#[] : Array Value))) hS rfl
  have oth : ∀ b o, b ≠ s.heap.objs.size → s.heap.get? b = some o → ((s.heap.push { cls := .type "list", data := .seq #[] }).update s.heap.objs.size (Obj.mapSeq (fun _ => (#[] : Array Value)))).get? b = some o :=
    fun b o hb e => (Heap.get?_update_other _ _ (Ne.symm hb)).trans (Heap.get?_push_of_some _ e)
  refine wpAny_bind (wpAny_letGo ?_)
  generalize hgh : (s.heap.push { cls := .type "list", data := .seq #[] }).update s.heap.objs.size (Obj.mapSeq (fun _ => (#[] : Array Value))) = g at hS₂ oth
  have hit1 : g.IsRevIter it l ((items.size : Int) - 1) := hit.at fun o e => oth _ _ ni.symm e
  have hl1 : g.IsList l items := hl.at fun o e => oth _ _ nl.symm e
  have hT : ({ s with heap := g } : Shared).TypeIs (.ref it) "list_reverseiterator" := Heap.IsRevIter.typeIs (s := { s with heap := g }) hit1
  have h1 : Builtin.List.listSameRef (.ref s.heap.objs.size) (.ref it) = false := by simp [Builtin.List.listSameRef, ni]
  have hh2 : A.in1.in1.handled = none := by simp [hh]
  have W := (Walks.listRev (prog := prog) (w := w) (A := A.in1.in1) hh2 it l hne items).toS
  unfold Builtin.List.listExtendWith
  refine wpAny_bind (wpAny_typeOf hT ?_)
  rw [if_neg (by rw [h1]; decide)]
  refine wpAny_bind (wpAny_pyIter_revIter (s := { s with heap := g }) hit1 (wpAny_bind (wpAny_holding ?_)))
  unfold Builtin.List.listLengthHint
  refine wpAny_bind (wpAny_specialOf hT RT.nolen_lri ?_)
  show wpAny _ _ (specialOf (Value.ref it) (Str.ofString "__length_hint__") >>= _) _ _ _
  refine wpAny_bind (wpAny_specialOf hT RT.hint_lri ?_)
  generalize hid : ("list_reverseiterator.__length_hint__" : String) = nm
  wp_delta
  rw [show splitId nm = some ("list_reverseiterator", "__length_hint__") from by subst hid; decide +kernel]
  subst hid
  refine wpAny_bind (wpAny_isInstance (b := true) hT (by rw [isSubtype_type]; kernel_rfl) (wpAny_pure ?_))
  rw [if_neg (by decide)]
  have e0 : ((items.size : Nat) : Int) - 1 - ((0 : Nat) : Int) = (items.size : Int) - 1 := by omega
  refine wpAny_pure ⟨plainId_quiet F.plain_extend_loop _, codeAny_extend_loopS W hn _ away _ items.size 0 _ _ _ rfl (Nat.zero_le _) ⟨Nat.zero_le _, by rw [e0]; exact hit1, hl1⟩ hS₂ (ItemsOf.nil _) fun s' acc' c' mv hS' hacc => ?_⟩
  rw [Moved.eq_with mv]
  refine ⟨rfl, hQ s'.heap s'.toks acc' c' (fun b o hb e => mv.heap b o (fun hmem => ?_) ?_) hS' hacc⟩
  · rcases List.mem_cons.mp hmem with e' | hmem
    · exact absurd (Heap.lt_size e) (by rw [e']; exact Nat.lt_irrefl _)
    · exact hb (List.mem_singleton.mp hmem)
  · exact oth b o (Nat.ne_of_lt (Heap.lt_size e)) e
end
/-- list(reversed(x)), x a list -/
def tListRev (K : PySem.W.Frag) (te : TE) : TE := fun σ H Q => te σ H fun v H1 => ∃ (a : Addr) (xs : List V), v = .ref a ∧ SqL K H1 a xs ∧ ∀ q, H1 q = none → Q (.ref q) (upd H1 q (.lst xs.reverse))
theorem pe_listRev {X : Cx} {e : Expr} {te : TE} {p p2 pos pos2 : Pos} (hg : Gl X "list") (hm : X.mg "list" = none) (hg2 : Gl X "reversed") (hm2 : X.mg "reversed" = none) (he : PE X e te) (hc : X.calm = true := by rfl)
    (hs : starEach [e] X.env = (false, eval e X.env) :: starEach [] X.env := by rfl)
    (hs2 : starEach [.Call (.Name "reversed" p2) [e] [] pos2] X.env = (false, eval (.Call (.Name "reversed" p2) [e] [] pos2) X.env) :: starEach [] X.env := by rfl) :
    PE X (.Call (.Name "list" p) [.Call (.Name "reversed" p2) [e] [] pos2] [] pos) (tListRev X.K te) := by
  constructor
  intro pins s σ H Q I h
  refine Call_ (ld_blt I hg hm boot_list (PyProof.Rows.callWith_type1 (args_cons (Call_ (ld_blt I hg2 hm2 PyProof.Rows.boot_reversed (PyProof.Rows.callWith_type1 (args_cons (thn (he.run pins s σ H _ I h) fun u s1 ⟨v, H1, I1, r1, q1⟩ => args_nil ?_) hs) hs rfl))) hs2) hs2 rfl))
  obtain ⟨a, xs, rfl, hq, q⟩ := q1
  obtain rfl : u = Value.ref a := r1
  obtain ⟨its, rv, pl, hz⟩ := I1.list hq
  refine call_reversed_list pl.isList (args_nil ?_)
  have hl := pl.isList
  obtain ⟨ol, hol, _⟩ := id hl
  have hne : a ≠ s1.heap.objs.size := Nat.ne_of_lt (Heap.lt_size hol)
  have hn : its.toArray.size ≤ sizeLine := by rw [List.size_toArray, ← rv.length]; exact hz
  have sz : (s1.heap.push (revObj a ((its.toArray.size : Int) - 1))).objs.size = s1.heap.objs.size + 1 := Heap.size_push _ _
  refine call_list_rev (s := { s1 with heap := s1.heap.push (revObj a ((its.toArray.size : Int) - 1)) }) (I1.ok.hd hc) ⟨_, Heap.get?_push_size _ rfl, rfl, rfl⟩ (hl.push _) hne hn fun h' tk acc c hk hS hi => ?_
  have e1 : acc.toList.toArray = acc := by simp
  refine ⟨.ref (s1.heap.push (revObj a ((its.toArray.size : Int) - 1))).objs.size, upd H1 _ (.lst xs.reverse), I1.laid (t' := tk) (fun b o e => hk b o (Nat.ne_of_lt (Heap.lt_size e)) (Heap.get?_push_of_some _ e)) (by rw [sz]; exact Nat.le_succ _)
    (show ObjOk X.prog X.w _ h' _ (.lst xs.reverse) from ⟨by rw [List.length_reverse]; exact hz, acc.toList, c, RT.vals_rev rv hi, by rw [e1]; exact hS⟩), rfl, q _ (I1.hok.fresh (by rw [sz]; exact Nat.le_succ _))⟩
end SxA

set_option Elab.async false
set_option linter.all false
set_option maxRecDepth 100000
set_option maxHeartbeats 1000000
namespace Sx
open PySem PySem.Spec PyProof.Rows L2 SxA
/-- a def of the top -/
abbrev Fd (K : PySem.W.Frag) (x : Str) (st : Stmt) : Prop := ∃ fd, FunD K x x (defArgs st) (defBody st) (defScope st) [] [] (He.ga K x) fd
section
variable {P : Program} {w : World} {K : PySem.W.Frag} {mg : Str → Option Value} {base : Heap}
def Ok (P : Program) (w : World) (K : PySem.W.Frag) (mg : Str → Option Value) (base : Heap) (k : Nat) (x : Str) (ps : List Str) (sp : Sp) : Prop :=
  ∃ fd, FnOk P w K mg base CX0 k (He.ga K x) fd ps sp ∧ Binds K fd ps [] ∧ PySem.W.keepIn K (.ref (He.ga K x)) = true ∧ mg x = some (.ref (He.ga K x))
theorem mkOk {x : Str} {st : Stmt} {N ps : List Str} {k : Nat} {sp : Sp} (d : Fd K x st) (hx : mg x = some (.ref (He.ga K x))) (S : FnScope N ps (defScope st)) (len : ∀ vs H Q E, sp vs H Q E → vs.length = ps.length)
    (bnd : ∀ (kV doc pm : Value) (an : Option Addr) (cdv ct : Value) (us : List Value), us.length = ps.length → bindArgs (PySem.W.fnOf x x (defArgs st) (defBody st) (defScope st) .none kV doc pm an cdv ct) ⟨us, []⟩ = pure (ps.zip us))
    (body : ∀ (cdv : Value) (A : Around) (outer : List Env) (s : Shared) (H0 : Hp) (vs : List V) (Q : VK) (E : XK), Room k (A.deeper (envOfC x (defScope st) s.heap.objs.size (He.ga K x) cdv)) → sp vs H0 Q E →
      ∃ t, PSs (cxOf CX0 P w K mg base N x (defScope st) (He.ga K x) cdv A outer s H0 E).nox (defBody st) t ∧ t { nx := fun _ H' => Q .non H', rt := Q } (start N vs) H0) : Ok P w K mg base (k + 1) x ps sp := by
  obtain ⟨fd, F⟩ := d
  refine ⟨fd, F.ok S len fun cdv A outer s H vs Q E hr h => ?_, F.bindsN bnd, F.kp, hx⟩
  obtain ⟨t, h1, h2⟩ := body cdv A outer s H vs Q E hr h
  exact ⟨t, h1.nox, h2⟩
theorem pe_ok {X : Cx} {k : Nat} {x : Str} {ps : List Str} {sp : Sp} {p pos : Pos} {e : Expr} {es : List Expr} {t : TA} (o : Ok X.prog X.w X.K X.mg X.base k x ps sp) (hr : Room k X.A) (hg : Gl X x) (ha : PA X (e :: es) t)
    (hdb : (x == ("__debug__" : Str)) = false := by decide) (hs : starEach (e :: es) X.env = (false, eval e X.env) :: starEach es X.env := by rfl) (hpl : ((backTo pos (starEach es X.env)).any (·.1)) = false := by rfl) :
    PE X (.Call (.Name x p) (e :: es) [] pos) (tCall sp [] E0 t) := by
  obtain ⟨fd, F, b, kp, hm⟩ := o
  exact pe_call F hr hg hm kp b .nil pass0 ha hdb hs hpl
def But (a : Addr) (H H' : Hp) : Prop := ∀ b o, H b = some o → b ≠ a → H' b = some o
theorem But.of {a : Addr} {H H' : Hp} (s : Same H H') : But a H H' := fun b o e _ => s b o e
theorem Same.new {H : Hp} {p : Addr} {o : HO} (h : H p = none) : Same H (upd H p o) := fun b o e => by
  rw [upd_ne (ne_of_none e h)]
  exact e
theorem Same.put {H0 H : Hp} {p : Addr} {o : HO} (s : Same H0 H) (h : H0 p = none) : Same H0 (upd H p o) := fun b o e => by
  rw [upd_ne (ne_of_none e h)]
  exact s b o e
theorem lc_text {z : Str} {ys : List V} {te : TE} {i0 : Nat} {vs : List Nat} {σ : L2.St} {H1 : Hp} {D : Addr} {Qd : Hp → Prop} (hD : H1 D = none) (hl : ys.length = z.cps.toList.length) (hz : ys.length ≤ sizeLine)
    (hw : ∀ c : Nat, wipe ((wipe σ vs).set i0 (some (.str (sg c)))) vs = wipe σ vs)
    (he : ∀ (i c : Nat) (y : V) (H : Hp) (Q : VK), z.cps.toList[i]? = some c → ys[i]? = some y → Same H1 H → (∀ H', Same H H' → Q y H') → te ((wipe σ vs).set i0 (some (.str (sg c)))) H Q)
    (hd : ∀ H, Same H1 H → H D = some (.lst ys) → Qd H) :
    ∃ W : Nat → Nat → Hp → Prop, (∃ m, W 0 m (upd H1 D (.lst []))) ∧ ∀ i m H, W i m H → ((Its z).stop i H ∧ Qd H) ∨ ((Its z).go i H ∧ ∃ Nx : Hp → Prop, (∀ H', Nx H' → ∃ m', m' < m ∧ W (i + 1) m' H') ∧
      ∀ x H', (Its z).yld i H x H' → (gName i0) x (wipe σ vs) H' fun σ2 H2 => wipe σ2 vs = wipe σ vs ∧ tYes σ2 H2 fun b H3 => if b = true then te σ2 H3 fun y H4 => ∃ acc, H4 D = some (.lst acc) ∧ acc.length < sizeLine ∧ Nx (upd H4 D (.lst (acc ++ [y]))) else Nx H3) := by
  have hsz : z.cps.size = ys.length := by rw [hl]; simp
  refine ⟨fun i m H => m = ys.length - i ∧ i ≤ ys.length ∧ Same H1 H ∧ H D = some (.lst (ys.take i)), ⟨ys.length, rfl, Nat.zero_le _, Same.new hD, upd_same⟩, ?_⟩
  rintro i m H ⟨rfl, hi, sm, hH⟩
  by_cases lt : i < ys.length
  · refine .inr ⟨by show i < z.cps.size; omega, fun H' => Same H1 H' ∧ H' D = some (.lst (ys.take (i + 1))), fun H' q => ⟨ys.length - (i + 1), by omega, rfl, lt, q.1, q.2⟩, ?_⟩
    rintro x H' ⟨rfl, c, hc, rfl⟩
    have hc2 : z.cps.toList[i]? = some c := by rw [Array.getElem?_toList]; exact hc
    have hy : ys[i]? = some ys[i] := List.getElem?_eq_getElem lt
    refine ⟨hw c, ?_⟩
    show te _ _ _
    refine he i c _ _ _ hc2 hy sm fun H4 s4 => ⟨ys.take i, s4 _ _ hH, ?_, ?_, ?_⟩
    · rw [List.length_take]; omega
    · exact Same.put (sm.trans s4) hD
    · rw [upd_same, List.take_add_one, hy]; rfl
  · have e : i = ys.length := by omega
    subst e
    refine .inl ⟨by show z.cps.size ≤ ys.length; omega, hd H sm ?_⟩
    rw [hH, List.take_length]
theorem lc_known {a : Addr} {xs ys : List V} {te : TE} {i0 : Nat} {vs : List Nat} {σ : L2.St} {H1 : Hp} {D : Addr} {Qd : Hp → Prop} (hD : H1 D = none) (hq : SqL K H1 a xs) (hl : ys.length = xs.length) (hz : ys.length ≤ sizeLine)
    (hw : ∀ v : V, wipe ((wipe σ vs).set i0 (some v)) vs = wipe σ vs)
    (he : ∀ (i : Nat) (x y : V) (H : Hp) (Q : VK), xs[i]? = some x → ys[i]? = some y → Same H1 H → (∀ H', Same H H' → Q y H') → te ((wipe σ vs).set i0 (some x)) H Q)
    (hd : ∀ H, Same H1 H → H D = some (.lst ys) → Qd H) :
    ∃ W : Nat → Nat → Hp → Prop, (∃ m, W 0 m (upd H1 D (.lst []))) ∧ ∀ i m H, W i m H → ((Itl K a).stop i H ∧ Qd H) ∨ ((Itl K a).go i H ∧ ∃ Nx : Hp → Prop, (∀ H', Nx H' → ∃ m', m' < m ∧ W (i + 1) m' H') ∧
      ∀ x H', (Itl K a).yld i H x H' → (gName i0) x (wipe σ vs) H' fun σ2 H2 => wipe σ2 vs = wipe σ vs ∧ tYes σ2 H2 fun b H3 => if b = true then te σ2 H3 fun y H4 => ∃ acc, H4 D = some (.lst acc) ∧ acc.length < sizeLine ∧ Nx (upd H4 D (.lst (acc ++ [y]))) else Nx H3) := by
  refine lc_list (K := K) (a := a) (xs := xs) (g := gName i0) (tt := tYes) (te := te) (fun i H => Same H1 H ∧ H D = some (.lst (ys.take i))) ⟨Same.new hD, upd_same⟩ (fun i H _ p => p.1.seq hq) ?_ ?_
  · rintro i x H hx ⟨sm, hH⟩
    have lt : i < ys.length := by rw [hl]; exact (List.getElem?_eq_some_iff.mp hx).1
    have hy : ys[i]? = some ys[i] := List.getElem?_eq_getElem lt
    refine ⟨hw x, ?_⟩
    show te _ _ _
    refine he i x _ _ _ hx hy sm fun H4 s4 => ⟨ys.take i, s4 _ _ hH, ?_, Same.put (sm.trans s4) hD, ?_⟩
    · rw [List.length_take]; omega
    · rw [upd_same, List.take_add_one, hy]; rfl
  · rintro H ⟨sm, hH⟩
    rw [← hl, List.take_length] at hH
    exact hd H sm hH
abbrev sl (z : Str) : List Nat := z.cps.toList
theorem sl_len (z : Str) : z.length = (sl z).length := by simp [Str.length]
theorem lt1 (a b : Nat) : decide ((⟨#[a]⟩ : Str).cps.toList < (⟨#[b]⟩ : Str).cps.toList) = decide (a < b) := by
  rw [decide_eq_decide]
  show [a] < [b] ↔ a < b
  rw [List.cons_lt_cons_iff]
  constructor
  · rintro (h | ⟨_, h⟩)
    · exact h
    · exact absurd h (List.not_lt_nil _)
  · exact Or.inl
theorem eq_sg (c e : Nat) : decide (V.str (sg c) = V.str (sg e)) = decide (c = e) := by
  rw [decide_eq_decide]
  exact ⟨fun h => sg_inj (V.str.inj h), fun h => by rw [h]⟩
theorem mkFn {x : Str} {st : Stmt} {N ps : List Str} {k : Nat} {sp : Sp} {fd : FuncData} (F : FunD K x x (defArgs st) (defBody st) (defScope st) [] [] (He.ga K x) fd) (S : FnScope N ps (defScope st)) (len : ∀ vs H Q E, sp vs H Q E → vs.length = ps.length)
    (body : ∀ (cdv : Value) (A : Around) (outer : List Env) (s : Shared) (H0 : Hp) (vs : List V) (Q : VK) (E : XK), Room k (A.deeper (envOfC x (defScope st) s.heap.objs.size (He.ga K x) cdv)) → sp vs H0 Q E →
      ∃ t, PSs (cxOf CX0 P w K mg base N x (defScope st) (He.ga K x) cdv A outer s H0 E).nox (defBody st) t ∧ t { nx := fun _ H' => Q .non H', rt := Q } (start N vs) H0) : FnOk P w K mg base CX0 (k + 1) (He.ga K x) fd ps sp := by
  refine F.ok S len fun cdv A outer s H vs Q E hr h => ?_
  obtain ⟨t, h1, h2⟩ := body cdv A outer s H vs Q E hr h
  exact ⟨t, h1.nox, h2⟩
theorem pgi {X : Cx} {x : Str} {i : Int} {k : Tok} {pos : Pos} (hg : Gl X x) (hm : X.mg x = some (.int i k)) (hd : (x == ("__debug__" : Str)) = false := by decide) : PE X (.Name x pos) (tC (.int i)) := pe_glob (v := .int i) hg hm ⟨_, rfl⟩ hd
theorem pgs {X : Cx} {x z : Str} {k : Tok} {pos : Pos} (hg : Gl X x) (hm : X.mg x = some (.str z k)) (hd : (x == ("__debug__" : Str)) = false := by decide) : PE X (.Name x pos) (tC (.str z)) := pe_glob (v := .str z) hg hm ⟨_, rfl⟩ hd
theorem op_notInK {X : Cx} {K : PySem.W.Frag} (h : X.K = K) : OpR X (compareOp .NotIn) (rIn K true) := by
  subst h
  exact op_notIn_seq
theorem small4 {n : Nat} (h : n ≤ 4000) : n ≤ sizeLine := Nat.le_trans h (by decide)
theorem sqD {D : Addr} {H : Hp} {ys : List V} (h : H D = some (.lst ys)) : SqL K H D ys := SqL.of h
theorem big6 {n : Nat} (h : n ≤ 1000000) : n ≤ sizeLine := Nat.le_trans h (by decide)
def off (a : Addr) (H : Hp) : Hp := fun b => if b = a then none else H b
def fresh (H H' : Hp) : Hp := fun b => match H b with
  | none => H' b
  | some _ => none
theorem off_ne {a b : Addr} {H : Hp} (h : b ≠ a) : off a H b = H b := if_neg h
theorem off_some {a b : Addr} {H : Hp} {o : HO} (h : off a H b = some o) : b ≠ a ∧ H b = some o := by
  unfold off at h
  by_cases e : b = a
  · rw [if_pos e] at h; cases h
  · rw [if_neg e] at h; exact ⟨e, h⟩
theorem fresh_of {H H' : Hp} {b : Addr} (h : H b = none) : fresh H H' b = H' b := by
  unfold fresh; rw [h]
theorem fresh_some {H H' : Hp} {b : Addr} {o : HO} (h : fresh H H' b = some o) : H b = none ∧ H' b = some o := by
  unfold fresh at h
  cases e : H b with
  | none => rw [e] at h; exact ⟨rfl, h⟩
  | some u => rw [e] at h; cases h
theorem off_le {a : Addr} {H : Hp} : Same (off a H) H := fun b o h => (off_some h).2
theorem off_up {a : Addr} {H H' : Hp} (s : Same H H') : Same (off a H) (off a H') := fun b o h => by
  obtain ⟨h1, h2⟩ := off_some h
  rw [off_ne h1]
  exact s _ _ h2
theorem off_but {a : Addr} {H H' : Hp} (s : But a H H') : Same (off a H) (off a H') := fun b o h => by
  obtain ⟨h1, h2⟩ := off_some h
  rw [off_ne h1]
  exact s _ _ h2 h1
theorem off_put (a : Addr) (H : Hp) (o : HO) : off a (upd H a o) = off a H := by
  funext b
  unfold off
  by_cases e : b = a
  · rw [if_pos e, if_pos e]
  · rw [if_neg e, if_neg e, upd_ne e]
theorem off_in {a : Addr} {H0 H : Hp} (s : Same H0 H) (h : H0 a = none) : Same H0 (off a H) := fun b o e => by
  rw [off_ne (ne_of_none e h)]
  exact s _ _ e
theorem fresh_le {H H' : Hp} : Same (fresh H H') H' := fun b o h => (fresh_some h).2
theorem fresh_off {a : Addr} {H H' : Hp} {u : HO} (h : H a = some u) : Same (fresh H H') (off a H') := fun b o e => by
  obtain ⟨h1, h2⟩ := fresh_some e
  rw [off_ne fun q => by rw [q, h] at h1; cases h1]
  exact h2
theorem fresh_up {H H1 H' H2 : Hp} (s : ∀ b, H1 b = none → H b = none) (s2 : Same H' H2) : Same (fresh H1 H') (fresh H H2) := fun b o e => by
  obtain ⟨h1, h2⟩ := fresh_some e
  rw [fresh_of (s b h1)]
  exact s2 _ _ h2
theorem Same.none {H H' : Hp} (s : Same H H') : ∀ b, H' b = Option.none → H b = Option.none := fun b h => s.free h
theorem put_new (f : Str) (v : V) : ∀ fs : List (Str × V), (∀ q ∈ fs, q.1 ≠ f) → putF f v fs = fs ++ [(f, v)]
  | [], _ => rfl
  | (g, x) :: r, h => by
    show (if g = f then (g, v) :: r else (g, x) :: putF f v r) = _
    rw [if_neg (h (g, x) (.head _)), put_new f v r fun q hq => h q (.tail _ hq)]
    rfl
theorem len_put (f : Str) (v : V) : ∀ fs : List (Str × V), (putF f v fs).length ≤ fs.length + 1
  | [] => Nat.le_refl _
  | (g, x) :: r => by
    show (if g = f then (g, v) :: r else (g, x) :: putF f v r).length ≤ _
    by_cases h : g = f
    · rw [if_pos h]; exact Nat.le_succ _
    · rw [if_neg h]; exact Nat.succ_le_succ (len_put f v r)
theorem len_put_lt {f : Str} {v : V} {fs : List (Str × V)} {n : Nat} (h : fs.length ≤ n) : (putF f v fs).length ≤ n + 1 := Nat.le_trans (len_put f v fs) (Nat.succ_le_succ h)
theorem lc_rel {a : Addr} {xs : List V} {te : TE} {i0 : Nat} {vs : List Nat} {σ : L2.St} {H1 : Hp} {D : Addr} {Qd : Hp → Prop} (Rel : Nat → V → Hp → Prop) (hm : ∀ i v H H', Rel i v H → Same H H' → Rel i v H') (hD : H1 D = none) (hq : SqL K H1 a xs) (hz : xs.length ≤ sizeLine)
    (hw : ∀ v : V, wipe ((wipe σ vs).set i0 (some v)) vs = wipe σ vs)
    (he : ∀ (i : Nat) (x : V) (H : Hp) (Q : VK) (acc : List V), xs[i]? = some x → Same H1 H → H D = some (.lst acc) → (∀ y H', Same H H' → Rel i y (fresh H H') → Q y H') → te ((wipe σ vs).set i0 (some x)) H Q)
    (hd : ∀ H ys, Same H1 H → H D = some (.lst ys) → ys.length = xs.length → (∀ i y, ys[i]? = some y → Rel i y (fresh H1 (off D H))) → Qd H) :
    ∃ W : Nat → Nat → Hp → Prop, (∃ m, W 0 m (upd H1 D (.lst []))) ∧ ∀ i m H, W i m H → ((Itl K a).stop i H ∧ Qd H) ∨ ((Itl K a).go i H ∧ ∃ Nx : Hp → Prop, (∀ H', Nx H' → ∃ m', m' < m ∧ W (i + 1) m' H') ∧
      ∀ x H', (Itl K a).yld i H x H' → (gName i0) x (wipe σ vs) H' fun σ2 H2 => wipe σ2 vs = wipe σ vs ∧ tYes σ2 H2 fun b H3 => if b = true then te σ2 H3 fun y H4 => ∃ acc, H4 D = some (.lst acc) ∧ acc.length < sizeLine ∧ Nx (upd H4 D (.lst (acc ++ [y]))) else Nx H3) := by
  refine lc_list (K := K) (a := a) (xs := xs) (g := gName i0) (tt := tYes) (te := te) (fun i H => Same H1 H ∧ ∃ ys, H D = some (.lst ys) ∧ ys.length = i ∧ ∀ j y, ys[j]? = some y → Rel j y (fresh H1 (off D H)))
    ⟨Same.new hD, [], upd_same, rfl, fun j y h => by simp at h⟩ (fun i H _ p => p.1.seq hq) ?_ ?_
  · rintro i x H hx ⟨sm, ys, hH, hl, hr⟩
    have lt : i < xs.length := (List.getElem?_eq_some_iff.mp hx).1
    refine ⟨hw x, ?_⟩
    show te _ _ _
    refine he i x _ _ ys hx sm hH fun y H4 s4 r4 => ⟨ys, s4 _ _ hH, by omega, Same.put (sm.trans s4) hD, ys ++ [y], upd_same, by rw [List.length_append, hl]; rfl, fun j v hj => ?_⟩
    rw [off_put]
    by_cases hji : j < ys.length
    · rw [List.getElem?_append_left hji] at hj
      exact hm _ _ _ _ (hr j v hj) (fresh_up (fun b h => h) (off_up s4))
    · rw [List.getElem?_append_right (by omega)] at hj
      have hj0 : j - ys.length = 0 := by
        have := (List.getElem?_eq_some_iff.mp hj).1
        rw [List.length_singleton] at this
        omega
      rw [hj0] at hj
      obtain rfl : y = v := Option.some.inj hj
      have e : j = i := by omega
      rw [e]
      refine hm _ _ _ _ r4 fun b o e => ?_
      obtain ⟨h1, h2⟩ := fresh_some e
      have hb : b ≠ D := fun q => by rw [q, hH] at h1; cases h1
      rw [fresh_of (Sx.Same.none sm b h1), off_ne hb]
      exact h2
  · rintro H ⟨sm, ys, hH, hl, hr⟩
    exact hd H ys sm hH hl hr
def pInts (cs : List Int) : PyData := .list (cs.map PyData.int)
theorem eqvAll_ints : ∀ xs ys : List Int, PyData.eqvAll (xs.map PyData.int) (ys.map PyData.int) = decide (xs = ys)
  | [], [] => rfl
  | [], y :: ys => by simp [PyData.eqvAll]
  | x :: xs, [] => by simp [PyData.eqvAll]
  | x :: xs, y :: ys => by
    rw [List.map_cons, List.map_cons, PyData.eqvAll, eqvAll_ints xs ys, PyData.eqv]
    by_cases h : x = y
    · subst h; simp
    · simp [h]
theorem eqv_ints (xs ys : List Int) : PyData.eqv (pInts xs) (pInts ys) = decide (xs = ys) := by
  unfold pInts
  rw [PyData.eqv]
  exact eqvAll_ints xs ys
theorem lay_ints : ∀ xs : List Int, PyData.canLayAll0 (xs.map PyData.int) = true
  | [] => rfl
  | x :: xs => by
    rw [List.map_cons, PyData.canLayAll0, lay_ints xs]
    rfl
theorem dep_ints : ∀ xs : List Int, PyData.depthAll (xs.map PyData.int) ≤ 1
  | [] => Nat.zero_le _
  | x :: xs => by
    rw [List.map_cons, PyData.depthAll]
    exact Nat.max_le.mpr ⟨by rw [PyData.depth]; decide, dep_ints xs⟩
theorem shaped_ints (xs : List Int) : SeqAt.shaped (pInts xs) = true := by
  unfold SeqAt.shaped pInts
  rw [PyData.canLay0, lay_ints, PyData.depth]
  have := dep_ints xs
  simp
  omega
theorem dpAll_ints (K : PySem.W.Frag) (H : Hp) : ∀ xs : List Int, DpAll K H (xs.map V.int) (xs.map PyData.int)
  | [] => .nil
  | x :: xs => .cons (.int x) (dpAll_ints K H xs)
theorem dp_ints {K : PySem.W.Frag} {H : Hp} {a : Addr} {xs : List Int} (h : SqL K H a (xs.map V.int)) : Dp K H (.ref a) (pInts xs) := .lst h (dpAll_ints K H xs)
theorem hu64 {A : Around} {k : Nat} (hr : Room k A) : A.units + 64 < cLine := by
  have := hr.un
  omega
theorem lc_zip {a b : Addr} {xs ys zs : List V} {te : TE} {i0 j0 : Nat} {vs : List Nat} {σ : L2.St} {H1 : Hp} {D : Addr} {Qd : Hp → Prop} (hD : H1 D = none) (hx : SqL K H1 a xs) (hy : SqL K H1 b ys) (hl : ys.length = xs.length) (hz : zs.length = xs.length) (hb : zs.length ≤ sizeLine)
    (hw : ∀ u v : V, wipe (((wipe σ vs).set i0 (some u)).set j0 (some v)) vs = wipe σ vs)
    (he : ∀ (i : Nat) (x y z : V) (H : Hp) (Q : VK), xs[i]? = some x → ys[i]? = some y → zs[i]? = some z → Same H1 H → (∀ H', Same H H' → Q z H') → te (((wipe σ vs).set i0 (some x)).set j0 (some y)) H Q)
    (hd : ∀ H, Same H1 H → H D = some (.lst zs) → Qd H) :
    ∃ W : Nat → Nat → Hp → Prop, (∃ m, W 0 m (upd H1 D (.lst []))) ∧ ∀ i m H, W i m H → ((Itz K a b).stop i H ∧ Qd H) ∨ ((Itz K a b).go i H ∧ ∃ Nx : Hp → Prop, (∀ H', Nx H' → ∃ m', m' < m ∧ W (i + 1) m' H') ∧
      ∀ x H', (Itz K a b).yld i H x H' → (gTup K 2 (gCons (gName i0) (gCons (gName j0) gNil))) x (wipe σ vs) H' fun σ2 H2 => wipe σ2 vs = wipe σ vs ∧ tYes σ2 H2 fun b H3 => if b = true then te σ2 H3 fun y H4 => ∃ acc, H4 D = some (.lst acc) ∧ acc.length < sizeLine ∧ Nx (upd H4 D (.lst (acc ++ [y]))) else Nx H3) := by
  refine ⟨fun i m H => m = zs.length - i ∧ i ≤ zs.length ∧ Same H1 H ∧ H D = some (.lst (zs.take i)), ⟨zs.length, rfl, Nat.zero_le _, Same.new hD, upd_same⟩, ?_⟩
  rintro i m H ⟨rfl, hi, sm, hH⟩
  by_cases lt : i < zs.length
  · have ex : xs[i]? = some (xs[i]'(by omega)) := List.getElem?_eq_getElem _
    have ey : ys[i]? = some (ys[i]'(by omega)) := List.getElem?_eq_getElem _
    have ez : zs[i]? = some zs[i] := List.getElem?_eq_getElem lt
    refine .inr ⟨⟨xs, ys, _, _, sm.seq hx, sm.seq hy, ex, ey⟩, fun H' => Same H1 H' ∧ H' D = some (.lst (zs.take (i + 1))), fun H' q => ⟨zs.length - (i + 1), by omega, rfl, lt, q.1, q.2⟩, ?_⟩
    rintro v H' ⟨T, x, y, rfl, hT, rfl, h1, h2⟩
    have hx2 := h1 _ (sm.seq hx)
    have hy2 := h2 _ (sm.seq hy)
    refine ⟨T, [x, y], rfl, SqT.of upd_same, rfl, x, _, rfl, y, _, rfl, rfl, hw x y, ?_⟩
    show te _ _ _
    have nDT : D ≠ T := ne_of_none hH hT
    refine he i x y _ _ _ hx2 hy2 ez (sm.trans (Same.new hT)) fun H4 s4 => ⟨zs.take i, s4 _ _ (by rw [upd_ne nDT]; exact hH), ?_, ?_, ?_⟩
    · rw [List.length_take]; omega
    · exact Same.put ((sm.trans (Same.new hT)).trans s4) hD
    · rw [upd_same, List.take_add_one, ez]; rfl
  · have e : i = zs.length := by omega
    subst e
    refine .inl ⟨⟨xs, ys, sm.seq hx, sm.seq hy, .inl (by omega)⟩, hd H sm ?_⟩
    rw [hH, List.take_length]
theorem lc_rangeF {lo : Int} {n : Nat} {f : Nat → Bool} {F : Nat → V} {tt : TT} {te : TE} {i0 : Nat} {vs : List Nat} {σ : L2.St} {H1 : Hp} {D : Addr} {Qd : Hp → Prop} (hD : H1 D = none) (hn : n ≤ sizeLine)
    (hw : ∀ u : V, wipe ((wipe σ vs).set i0 (some u)) vs = wipe σ vs)
    (ht : ∀ (i : Nat) (H : Hp) (Q : Bool → Hp → Prop), i < n → Same H1 H → Q (f i) H → tt ((wipe σ vs).set i0 (some (.int (lo + (i : Nat))))) H Q)
    (he : ∀ (i : Nat) (H : Hp) (Q : VK), i < n → Same H1 H → Q (F i) H → te ((wipe σ vs).set i0 (some (.int (lo + (i : Nat))))) H Q)
    (hd : ∀ H, Same H1 H → H D = some (.lst (((List.range n).filter f).map F)) → Qd H) :
    ∃ W : Nat → Nat → Hp → Prop, (∃ m, W 0 m (upd H1 D (.lst []))) ∧ ∀ i m H, W i m H → ((Itr lo n).stop i H ∧ Qd H) ∨ ((Itr lo n).go i H ∧ ∃ Nx : Hp → Prop, (∀ H', Nx H' → ∃ m', m' < m ∧ W (i + 1) m' H') ∧
      ∀ x H', (Itr lo n).yld i H x H' → (gName i0) x (wipe σ vs) H' fun σ2 H2 => wipe σ2 vs = wipe σ vs ∧ tt σ2 H2 fun b H3 => if b = true then te σ2 H3 fun y H4 => ∃ acc, H4 D = some (.lst acc) ∧ acc.length < sizeLine ∧ Nx (upd H4 D (.lst (acc ++ [y]))) else Nx H3) := by
  have step : ∀ i, ((List.range (i + 1)).filter f).map F = ((List.range i).filter f).map F ++ (if f i = true then [F i] else []) := fun i => by
    rw [List.range_succ, List.filter_append, List.map_append]
    by_cases h : f i = true
    · rw [if_pos h]; simp [List.filter_cons, h]
    · rw [if_neg h]; simp [List.filter_cons, h]
  have small : ∀ i, i < n → (((List.range i).filter f).map F).length < sizeLine := fun i h => by
    rw [List.length_map]
    have := List.length_filter_le f (List.range i)
    rw [List.length_range] at this
    omega
  refine lc_range (g := gName i0) (tt := tt) (te := te) (fun i H => Same H1 H ∧ H D = some (.lst (((List.range i).filter f).map F))) ⟨Same.new hD, upd_same⟩ ?_ (fun H q => hd H q.1 q.2)
  rintro i H hi ⟨sm, hH⟩
  refine ⟨hw _, ht i H _ hi sm ?_⟩
  by_cases h : f i = true
  · rw [if_pos h]
    refine he i H _ hi sm ⟨_, hH, small i hi, Same.put sm hD, ?_⟩
    rw [upd_same, step, if_pos h]
  · rw [if_neg h]
    exact ⟨sm, by rw [hH, step, if_neg h, List.append_nil]⟩
theorem eq_int (a b : Int) : decide (V.int a = V.int b) = decide (a = b) := by
  rw [decide_eq_decide]
  exact ⟨V.int.inj, congrArg V.int⟩
theorem eq_str (a b : Str) : decide (V.str a = V.str b) = decide (a = b) := by
  rw [decide_eq_decide]
  exact ⟨V.str.inj, congrArg V.str⟩
theorem lc_rangeS {lo : Int} {n : Nat} {f : Nat → Bool} {F : Nat → V} {tt : TT} {te : TE} {i0 : Nat} {vs : List Nat} {σ : L2.St} {H1 : Hp} {D : Addr} {Qd : Hp → Prop} (hD : H1 D = none) (hn : n ≤ sizeLine)
    (hw : ∀ u : V, wipe ((wipe σ vs).set i0 (some u)) vs = wipe σ vs)
    (ht : ∀ (i : Nat) (H : Hp) (Q : Bool → Hp → Prop), i < n → Same H1 H → (∀ H', Same H H' → Q (f i) H') → tt ((wipe σ vs).set i0 (some (.int (lo + (i : Nat))))) H Q)
    (he : ∀ (i : Nat) (H : Hp) (Q : VK), i < n → Same H1 H → Q (F i) H → te ((wipe σ vs).set i0 (some (.int (lo + (i : Nat))))) H Q)
    (hd : ∀ H, Same H1 H → H D = some (.lst (((List.range n).filter f).map F)) → Qd H) :
    ∃ W : Nat → Nat → Hp → Prop, (∃ m, W 0 m (upd H1 D (.lst []))) ∧ ∀ i m H, W i m H → ((Itr lo n).stop i H ∧ Qd H) ∨ ((Itr lo n).go i H ∧ ∃ Nx : Hp → Prop, (∀ H', Nx H' → ∃ m', m' < m ∧ W (i + 1) m' H') ∧
      ∀ x H', (Itr lo n).yld i H x H' → (gName i0) x (wipe σ vs) H' fun σ2 H2 => wipe σ2 vs = wipe σ vs ∧ tt σ2 H2 fun b H3 => if b = true then te σ2 H3 fun y H4 => ∃ acc, H4 D = some (.lst acc) ∧ acc.length < sizeLine ∧ Nx (upd H4 D (.lst (acc ++ [y]))) else Nx H3) := by
  have step : ∀ i, ((List.range (i + 1)).filter f).map F = ((List.range i).filter f).map F ++ (if f i = true then [F i] else []) := fun i => by
    rw [List.range_succ, List.filter_append, List.map_append]
    by_cases h : f i = true
    · rw [if_pos h]; simp [List.filter_cons, h]
    · rw [if_neg h]; simp [List.filter_cons, h]
  have small : ∀ i, i < n → (((List.range i).filter f).map F).length < sizeLine := fun i h => by
    rw [List.length_map]
    have := List.length_filter_le f (List.range i)
    rw [List.length_range] at this
    omega
  refine lc_range (g := gName i0) (tt := tt) (te := te) (fun i H => Same H1 H ∧ H D = some (.lst (((List.range i).filter f).map F))) ⟨Same.new hD, upd_same⟩ ?_ (fun H q => hd H q.1 q.2)
  rintro i H hi ⟨sm, hH⟩
  refine ⟨hw _, ht i H _ hi sm fun H' s' => ?_⟩
  have hH' := s' _ _ hH
  have sm' := sm.trans s'
  by_cases h : f i = true
  · rw [if_pos h]
    refine he i H' _ hi sm' ⟨_, hH', small i hi, Same.put sm' hD, ?_⟩
    rw [upd_same, step, if_pos h]
  · rw [if_neg h]
    exact ⟨sm', by rw [hH', step, if_neg h, List.append_nil]⟩
theorem pe_fldK {X : Cx} {K : PySem.W.Frag} {e : Expr} {f : Str} {pos : Pos} {ta : TE} (h : X.K = K) (ha : PE X e ta) (hb : attributeBase e f X.env (eval e X.env) = eval e X.env := by rfl) : PE X (.Attribute e f pos) (tFld K ta f) := by
  subst h
  exact pe_fld ha hb
def tTru (K : PySem.W.Frag) (ta : TE) : TT := fun σ H Q => ta σ H fun x H' => ∃ k, TruV K x H' k ∧ Q k H'
theorem pt_truthK {X : Cx} {K : PySem.W.Frag} {a : Expr} {ta : TE} (h : X.K = K) (ha : PE X a ta) (he : ∀ whole, isTrue a X.env whole = (do let v ← whole; standAt a.pos; holding [v] (truthy v)) := by intro _; rfl) :
    PT X a (tTru K ta) := by
  subst h
  exact pt_truth ha he
theorem op_inK {X : Cx} {K : PySem.W.Frag} (h : X.K = K) : OpR X (compareOp .In) (rIn K false) := by
  subst h
  exact op_in_seq
theorem But.refl (a : Addr) (H : Hp) : But a H H := fun _ _ e _ => e
theorem But.trans {a : Addr} {H H1 H2 : Hp} (x : But a H H1) (y : But a H1 H2) : But a H H2 := fun b o e hb => y b o (x b o e hb) hb
theorem But.put (a : Addr) (H : Hp) (o : HO) : But a H (upd H a o) := fun b u e hb => by rw [upd_ne hb]; exact e
theorem ix_tupK {X : Cx} {K : PySem.W.Frag} (h : X.K = K) : IxR X (rIxT K) := by
  subst h
  exact ix_tup
theorem ix_listK {X : Cx} {K : PySem.W.Frag} (h : X.K = K) : IxR X (rIxL K) := by
  subst h
  exact ix_list
theorem But.none {a b : Addr} {H H' : Hp} {o : HO} (s : But a H H') (h : H' a = some o) (hb : H' b = Option.none) : H b = Option.none := by
  cases e : H b with
  | none => rfl
  | some u =>
    have n : b ≠ a := fun q => by rw [q, h] at hb; cases hb
    rw [s b u e n] at hb
    cases hb
theorem sl_app (a b : Str) : sl (a ++ b) = sl a ++ sl b := by
  show (a.cps ++ b.cps).toList = _
  simp
theorem sl_sg (c : Nat) : sl (sg c) = [c] := rfl
theorem sl_mt : sl (Str.ofString "") = [] := by decide +kernel
theorem len_app (a b : Str) : (a ++ b).length = a.length + b.length := by
  rw [sl_len, sl_len, sl_len, sl_app, List.length_append]
theorem sl_ext {a b : Str} (h : sl a = sl b) : a = b := by
  obtain ⟨a⟩ := a
  obtain ⟨b⟩ := b
  have : a = b := by
    apply Array.ext'
    exact h
  rw [this]
theorem join_sg : ∀ zs : List Nat, sl (Txt.join (Str.ofString "") (zs.map sg)) = zs := by
  intro zs
  have e : Txt.join (Str.ofString "") (zs.map sg) = Str.join (Str.ofString "") (zs.map sg) := eq_of_beq (join_plain_closes _ _)
  rw [e]
  have e0 : Str.ofString "" = ⟨#[]⟩ := by decide +kernel
  rw [e0]
  induction zs with
  | nil => rfl
  | cons c r ih =>
    cases r with
    | nil => rfl
    | cons d r =>
      have e2 : Str.join ⟨#[]⟩ ((c :: d :: r).map sg) = sg c ++ ⟨#[]⟩ ++ Str.join ⟨#[]⟩ ((d :: r).map sg) := rfl
      rw [e2, sl_app, ih (eq_of_beq (join_plain_closes _ _)), sl_app]
      rfl
theorem lc_signs {z : Str} {tt : TT} {te : TE} {i0 : Nat} {vs : List Nat} {σ : L2.St} {H1 : Hp} {D : Addr} {Qd : Hp → Prop} (Pv : Nat → Hp → Prop) (h0 : Pv 0 (upd H1 D (.lst [])))
    (hs : ∀ (i c : Nat) (H : Hp), (sl z)[i]? = some c → Pv i H → wipe ((wipe σ vs).set i0 (some (.str (sg c)))) vs = wipe σ vs ∧ tt ((wipe σ vs).set i0 (some (.str (sg c)))) H fun b H3 => if b = true then te ((wipe σ vs).set i0 (some (.str (sg c)))) H3 fun y H4 => ∃ acc, H4 D = some (.lst acc) ∧ acc.length < sizeLine ∧ Pv (i + 1) (upd H4 D (.lst (acc ++ [y]))) else Pv (i + 1) H3)
    (hd : ∀ H, Pv (sl z).length H → Qd H) :
    ∃ W : Nat → Nat → Hp → Prop, (∃ m, W 0 m (upd H1 D (.lst []))) ∧ ∀ i m H, W i m H → ((Its z).stop i H ∧ Qd H) ∨ ((Its z).go i H ∧ ∃ Nx : Hp → Prop, (∀ H', Nx H' → ∃ m', m' < m ∧ W (i + 1) m' H') ∧
      ∀ x H', (Its z).yld i H x H' → (gName i0) x (wipe σ vs) H' fun σ2 H2 => wipe σ2 vs = wipe σ vs ∧ tt σ2 H2 fun b H3 => if b = true then te σ2 H3 fun y H4 => ∃ acc, H4 D = some (.lst acc) ∧ acc.length < sizeLine ∧ Nx (upd H4 D (.lst (acc ++ [y]))) else Nx H3) := by
  have hsz : z.cps.size = (sl z).length := by simp
  refine ⟨fun i m H => m = (sl z).length - i ∧ i ≤ (sl z).length ∧ Pv i H, ⟨(sl z).length, rfl, Nat.zero_le _, h0⟩, ?_⟩
  rintro i m H ⟨rfl, hi, p⟩
  by_cases lt : i < (sl z).length
  · refine .inr ⟨by show i < z.cps.size; omega, Pv (i + 1), fun H' q => ⟨(sl z).length - (i + 1), by omega, rfl, lt, q⟩, ?_⟩
    rintro x H' ⟨rfl, c, hc, rfl⟩
    exact hs i c _ (by rw [Array.getElem?_toList]; exact hc) p
  · have e : i = (sl z).length := by omega
    subst e
    exact .inl ⟨by show z.cps.size ≤ (sl z).length; omega, hd H p⟩
theorem for_signs {z : Str} {g : TG} {tb : TS} {D : Ends} {σ : L2.St} {H : Hp} (Pv : Nat → L2.St → Hp → Prop) (h0 : Pv 0 σ H)
    (hs : ∀ (i c : Nat) (σ : L2.St) (H : Hp), (sl z)[i]? = some c → Pv i σ H → g (.str (sg c)) σ H fun σ2 H2 => tb { D with nx := Pv (i + 1), ct := Pv (i + 1), bk := D.nx } σ2 H2) (hd : ∀ σ H, Pv (sl z).length σ H → D.nx σ H) :
    ∃ W : Nat → Nat → L2.St → Hp → Prop, (∃ m, W 0 m σ H) ∧ ∀ i m σ H, W i m σ H → ((Its z).stop i H ∧ D.nx σ H) ∨ ((Its z).go i H ∧ ∃ N : L2.St → Hp → Prop, (∀ σ' H', N σ' H' → ∃ m', m' < m ∧ W (i + 1) m' σ' H') ∧
      ∀ v H', (Its z).yld i H v H' → g v σ H' fun σ2 H2 => tb { D with nx := N, ct := N, bk := D.nx } σ2 H2) := by
  have hsz : z.cps.size = (sl z).length := by simp
  refine ⟨fun i m σ H => m = (sl z).length - i ∧ i ≤ (sl z).length ∧ Pv i σ H, ⟨(sl z).length, rfl, Nat.zero_le _, h0⟩, ?_⟩
  rintro i m σ H ⟨rfl, hi, p⟩
  by_cases lt : i < (sl z).length
  · refine .inr ⟨by show i < z.cps.size; omega, Pv (i + 1), fun σ' H' q => ⟨(sl z).length - (i + 1), by omega, rfl, lt, q⟩, ?_⟩
    rintro x H' ⟨rfl, c, hc, rfl⟩
    exact hs i c σ _ (by rw [Array.getElem?_toList]; exact hc) p
  · have e : i = (sl z).length := by omega
    subst e
    exact .inl ⟨by show z.cps.size ≤ (sl z).length; omega, hd σ H p⟩
theorem RZat {l : List Nat} {u : Int} (h : u.toNat < l.length) (h0 : 0 ≤ u) : atI l u = some l[u.toNat] := by
  have h2 := atI_nat (xs := l) (j := u.toNat) (List.getElem?_eq_getElem h)
  have e : ((u.toNat : Nat) : Int) = u := by omega
  rw [e] at h2
  exact h2
theorem map_snoc {α β : Type} (f : α → β) (l : List α) (x : α) : (l ++ [x]).map f = l.map f ++ [f x] := by simp
end
end Sx

set_option Elab.async false
set_option linter.all false
set_option maxRecDepth 100000
set_option maxHeartbeats 1000000
namespace Sx
open PySem PySem.Spec PyProof.Rows L2 SxA
/-! ### classes: methods that do not raise, and what is made -/
section
variable {P : Program} {w : World} {K : PySem.W.Frag} {mg : Str → Option Value} {base : Heap}
def Met (P : Program) (w : World) (K : PySem.W.Frag) (mg : Str → Option Value) (base : Heap) (k : Nat) (C m : Str) (ps : List Str) (sp : Sp) : Prop :=
  ∃ fd, FnOk P w K mg base CX0 k (He.ma K (He.ga K C) m) fd ps sp ∧ Binds K fd ps []
theorem mkMet {C m qual : Str} {st : Stmt} {N ps : List Str} {k : Nat} {sp : Sp} (d : ∃ fd, FunD K m qual (defArgs st) (defBody st) (defScope st) [] [] (He.ma K (He.ga K C) m) fd) (S : FnScope N ps (defScope st)) (len : ∀ vs H Q E, sp vs H Q E → vs.length = ps.length)
    (bnd : ∀ (kV doc pm : Value) (an : Option Addr) (cdv ct : Value) (us : List Value), us.length = ps.length → bindArgs (PySem.W.fnOf m qual (defArgs st) (defBody st) (defScope st) .none kV doc pm an cdv ct) ⟨us, []⟩ = pure (ps.zip us))
    (body : ∀ (cdv : Value) (A : Around) (outer : List Env) (s : Shared) (H0 : Hp) (vs : List V) (Q : VK) (E : XK), Room k (A.deeper (envOfC qual (defScope st) s.heap.objs.size (He.ma K (He.ga K C) m) cdv)) → sp vs H0 Q E →
      ∃ t, PSs (cxOf CX0 P w K mg base N qual (defScope st) (He.ma K (He.ga K C) m) cdv A outer s H0 E).nox (defBody st) t ∧ t { nx := fun _ H' => Q .non H', rt := Q } (start N vs) H0) : Met P w K mg base (k + 1) C m ps sp := by
  obtain ⟨fd, F⟩ := d
  refine ⟨fd, F.ok S len fun cdv A outer s H vs Q E hr h => ?_, F.bindsN bnd⟩
  obtain ⟨t, h1, h2⟩ := body cdv A outer s H vs Q E hr h
  exact ⟨t, h1.nox, h2⟩
theorem pe_met {X : Cx} {k : Nat} {C m : Str} {ps : List Str} {sp : Sp} {apos pos : Pos} {o e : Expr} {es : List Expr} {ta : TE} {t : TA} {pl : Sem Bool} (M : Met X.prog X.w X.K X.mg X.base k C m ps sp) (c : Cls X.K (He.ga X.K C)) (hm : Meth X.K (He.ga X.K C) m (He.ma X.K (He.ga X.K C) m))
    (hr : Room k X.A) (he : PE X o ta) (ha : PA X (e :: es) t)
    (hst : starEach (e :: es) X.env = (false, eval e X.env) :: starEach es X.env := by rfl) (hpl : (backTo pos (starEach es X.env)).any (·.1) = false := by rfl)
    (ht : eval (.Call (.Attribute o m apos) (e :: es) [] pos) X.env = (do
      let ov ← eval o X.env
      standAt apos.atName
      let (f, first) ← holding [ov] (getMethod ov m pl)
      callWith pos f first (backTo pos (starEach (e :: es) X.env)) (backToKw pos (keywordEach [] X.env))) := by rfl) :
    PE X (.Call (.Attribute o m apos) (e :: es) [] pos) (tMeth (He.ga X.K C) m sp [] E0 ta t) := by
  obtain ⟨fd, F, b⟩ := M
  exact pe_meth he c hm F hr b .nil pass0 ha hst hpl ht
theorem pe_met0 {X : Cx} {k : Nat} {C m : Str} {ps : List Str} {sp : Sp} {apos pos : Pos} {o : Expr} {ta : TE} {pl : Sem Bool} (M : Met X.prog X.w X.K X.mg X.base k C m ps sp) (c : Cls X.K (He.ga X.K C)) (hm : Meth X.K (He.ga X.K C) m (He.ma X.K (He.ga X.K C) m))
    (hr : Room k X.A) (he : PE X o ta)
    (ht : eval (.Call (.Attribute o m apos) [] [] pos) X.env = (do
      let ov ← eval o X.env
      standAt apos.atName
      let (f, first) ← holding [ov] (getMethod ov m pl)
      callWith pos f first (backTo pos (starEach [] X.env)) (backToKw pos (keywordEach [] X.env))) := by rfl) :
    PE X (.Call (.Attribute o m apos) [] [] pos) (tMeth (He.ga X.K C) m sp [] E0 ta tNil) := by
  obtain ⟨fd, F, b⟩ := M
  exact pe_meth0 he c hm F hr b .nil pass0 ht
theorem pe_metK {X : Cx} {K : PySem.W.Frag} {k : Nat} {C m : Str} {ps : List Str} {sp : Sp} {apos pos : Pos} {o e : Expr} {es : List Expr} {ta : TE} {t : TA} {pl : Sem Bool} (h : X.K = K) (M : Met X.prog X.w K X.mg X.base k C m ps sp) (c : Cls K (He.ga K C)) (hm : Meth K (He.ga K C) m (He.ma K (He.ga K C) m))
    (hr : Room k X.A) (he : PE X o ta) (ha : PA X (e :: es) t)
    (hst : starEach (e :: es) X.env = (false, eval e X.env) :: starEach es X.env := by rfl) (hpl : (backTo pos (starEach es X.env)).any (·.1) = false := by rfl)
    (ht : eval (.Call (.Attribute o m apos) (e :: es) [] pos) X.env = (do
      let ov ← eval o X.env
      standAt apos.atName
      let (f, first) ← holding [ov] (getMethod ov m pl)
      callWith pos f first (backTo pos (starEach (e :: es) X.env)) (backToKw pos (keywordEach [] X.env))) := by rfl) :
    PE X (.Call (.Attribute o m apos) (e :: es) [] pos) (tMeth (He.ga K C) m sp [] E0 ta t) := by
  subst h
  exact pe_met M c hm hr he ha hst hpl ht
theorem pe_met0K {X : Cx} {K : PySem.W.Frag} {k : Nat} {C m : Str} {ps : List Str} {sp : Sp} {apos pos : Pos} {o : Expr} {ta : TE} {pl : Sem Bool} (h : X.K = K) (M : Met X.prog X.w K X.mg X.base k C m ps sp) (c : Cls K (He.ga K C)) (hm : Meth K (He.ga K C) m (He.ma K (He.ga K C) m))
    (hr : Room k X.A) (he : PE X o ta)
    (ht : eval (.Call (.Attribute o m apos) [] [] pos) X.env = (do
      let ov ← eval o X.env
      standAt apos.atName
      let (f, first) ← holding [ov] (getMethod ov m pl)
      callWith pos f first (backTo pos (starEach [] X.env)) (backToKw pos (keywordEach [] X.env))) := by rfl) :
    PE X (.Call (.Attribute o m apos) [] [] pos) (tMeth (He.ga K C) m sp [] E0 ta tNil) := by
  subst h
  exact pe_met0 M c hm hr he ht
theorem pe_mk {X : Cx} {k : Nat} {C : Str} {ps : List Str} {sp : Sp} {p pos : Pos} {e : Expr} {es : List Expr} {t : TA} (M : Met X.prog X.w X.K X.mg X.base k C "__init__" ps sp) (m : Mk X.K (He.ga X.K C) (He.ma X.K (He.ga X.K C) "__init__")) (hm : X.mg C = some (.ref (He.ga X.K C)))
    (hr : Room (k + 1) X.A) (hg : Gl X C) (ha : PA X (e :: es) t)
    (hdb : (C == ("__debug__" : Str)) = false := by decide) (he : starEach (e :: es) X.env = (false, eval e X.env) :: starEach es X.env := by rfl) (hpl : (backTo pos (starEach es X.env)).any (·.1) = false := by rfl) :
    PE X (.Call (.Name C p) (e :: es) [] pos) (tMake (He.ga X.K C) sp [] E0 t) := by
  obtain ⟨fd, F, b⟩ := M
  exact pe_make m F hr hg hm b .nil pass0 ha hdb he hpl
end
end Sx

set_option Elab.async false
set_option linter.all false
set_option maxRecDepth 100000
set_option maxHeartbeats 4000000
/-! rules that the layer lacks: enumerate over a text; two except clauses of which the first one has a name; super().__init__ of an own exception -/
namespace SxK
open PySem PySem.Spec PyProof.Rows L2
abbrev sgn (c : Nat) : Str := ⟨#[c]⟩
/-! ### for i, c in enumerate(text) -/
def Ise (z : Str) : It :=
  ⟨fun i _ => i < z.cps.size, fun i H v H' => ∃ T c, v = .ref T ∧ H T = none ∧ H' = upd H T (.tup [.int (i : Nat), .str (sgn c)]) ∧ z.cps[i]? = some c, fun i _ => z.cps.size ≤ i⟩
theorem drawsT {P : Program} {w : World} {A : Around} (hh : A.handled = none) (it : Addr) (z : Str) (t : Tok) : Draws P w A it [it] z.cps.size (SignAt z) (fun i h => h.IsStrIter it (strIterType z) z t i) := by
  unfold strIterType
  cases z.cps.all (· < 128)
  · exact Draws.strWide hh it z t
  · exact Draws.strAscii hh it z t
theorem turn_enumT {P : Program} {w : World} {K : PySem.W.Frag} {elts : List Expr} {kk : Nat} {tpos : Pos} (z : Str) (t : Tok) (e it : Addr) :
    Turn P w K (.Tuple elts kk tpos) (Ise z) [e, it] e (fun i h => (∃ old, IsEnum h e it ((i : Nat) : Int) old) ∧ h.IsStrIter it (strIterType z) z t i ∧ e ≠ it ∧ i ≤ z.cps.size) where
  mem := List.mem_cons_self
  obj := fun i h st b hb => by
    obtain ⟨⟨old, he⟩, ⟨o, ho, hcl, hdt⟩, _, _⟩ := st
    rcases List.mem_cons.mp hb with q | q
    · subst q; exact ⟨_, he, fun v n => nomatch n⟩
    · rw [List.mem_singleton.mp q]; exact ⟨o, ho, fun v n => by rw [hdt] at n; cases n⟩
  keep := fun i h h' st k => by
    obtain ⟨⟨old, he⟩, ⟨o, ho, r⟩, hne, hle⟩ := st
    exact ⟨⟨old, k e List.mem_cons_self _ he⟩, ⟨o, k it (List.mem_cons_of_mem _ List.mem_cons_self) o ho, r⟩, hne, hle⟩
  item := by
    intro X hP hw hK hc i pins s σ H E I hf st hg
    subst hP hw hK
    obtain ⟨⟨old, he⟩, hit, hne, hle⟩ := st
    have el : e < s.heap.objs.size := Heap.lt_size he
    have il : it < s.heap.objs.size := by
      obtain ⟨_, q, _⟩ := id hit
      exact Heap.lt_size q
    have D : Draws X.prog X.w X.A.in1 it [it] z.cps.size (SignAt z) (fun i h => h.IsStrIter it (strIterType z) z t i) := drawsT (A := X.A.in1) (show X.A.in1.handled = none from I.ok.hd hc) it z t
    refine wpAny_pyNext_enum_itemD D he hit hg hne (fun q => hne (List.mem_singleton.mp q)) fun x h' tk hx ho hit' hT hsz hk => ?_
    obtain ⟨c, u, hcz, rfl⟩ := hx
    refine ⟨_, rfl, wpAny_letOwnedTupleGo_enum (s := { s with heap := h', toks := tk + 1 }) ho fun h2 he2 sb => ?_⟩
    have hT2 : h2.get? s.heap.objs.size = some { cls := .type "tuple", data := .seq #[.int i tk, .str ⟨#[c]⟩ u] } := (sb.2 _ (Nat.ne_of_gt el)).trans hT
    have nw : ObjOk X.prog X.w (upd H s.heap.objs.size (.tup [.int (i : Nat), .str (sgn c)])) h2 s.heap.objs.size (.tup [.int (i : Nat), .str (sgn c)]) :=
      ⟨(by show 2 ≤ sizeLine; decide), [.int i tk, .str ⟨#[c]⟩ u], .cons ⟨_, rfl⟩ (.cons ⟨_, rfl⟩ .nil), ⟨_, hT2, rfl, _, rfl⟩⟩
    have I1 : Inv X pins σ (upd H s.heap.objs.size (.tup [.int (i : Nat), .str (sgn c)])) { s with heap := h2, toks := tk + 1 } :=
      I.turnedNew (ch := [e, it]) (fun b ob hb q => by
        have b1 : b ≠ e := fun n => hb (by rw [n]; exact List.mem_cons_self)
        have b2 : b ≠ it := fun n => hb (by rw [n]; exact List.mem_cons_of_mem _ List.mem_cons_self)
        exact (sb.2 b b1).trans (hk b ob b1 b2 q)) hf (Nat.le_refl _) nw
    have e1 : ((i + 1 : Nat) : Int) = (i : Int) + 1 := by omega
    refine ⟨.ref s.heap.objs.size, _, I1, rfl, ⟨_, c, rfl, I.hok.fresh (Nat.le_refl _), rfl, hcz⟩, ⟨⟨_, by rw [e1]; exact he2⟩, ?_, hne, Nat.succ_le_of_lt hg⟩, fun b hb => ?_⟩
    · obtain ⟨o, ho2, r⟩ := hit'
      exact ⟨o, (sb.2 it (Ne.symm hne)).trans ho2, r⟩
    · have lt : b < s.heap.objs.size := by
        rcases List.mem_cons.mp hb with q | q
        · rw [q]; exact el
        · rw [List.mem_singleton.mp q]; exact il
      rw [upd_ne (Nat.ne_of_lt lt)]
      exact (hf b hb).1
  done := by
    intro X hP hw hK hc i pins s σ H E I hf st hg
    subst hP hw hK
    obtain ⟨⟨old, he⟩, hit, hne, hle⟩ := st
    have D : Draws X.prog X.w X.A.in1 it [it] z.cps.size (SignAt z) (fun i h => h.IsStrIter it (strIterType z) z t i) := drawsT (A := X.A.in1) (show X.A.in1.handled = none from I.ok.hd hc) it z t
    obtain ⟨f0, f1, f2, f3, f4, f5⟩ := hf it (List.mem_cons_of_mem _ List.mem_cons_self)
    have ei : i = z.cps.size := Nat.le_antisymm hle hg
    subst ei
    exact wpAny_pyNext_enum_endD D he hit fun h' eb => ⟨rfl, I.turned (t' := s.toks) (fun b o hb q => eb b o hb q) f0 f1 f3 f4 f5⟩
  self := fun A i s Q E st h => by
    obtain ⟨⟨_, he⟩, _⟩ := st
    exact wpAny_pyIter_enum he h
def iEnumT (ta : TA) : TI := fun σ H R => ta σ H fun vs H1 => ∃ z : Str, vs = [.str z] ∧ R (Ise z) H1
theorem pi_enumT {X : Cx} {e : Expr} {ta : TA} {p pos tpos : Pos} {elts : List Expr} {kk : Nat} (hg : Gl X "enumerate") (hm : X.mg "enumerate" = none) (ha : PA X [e] ta) (hs : starEach [e] X.env = [(false, eval e X.env)] := by rfl) :
    PI X (.Tuple elts kk tpos) (.Call (.Name "enumerate" p) [e] [] pos) (iEnumT ta) := by
  refine ⟨fun pins s σ H R I h => ?_⟩
  refine Call_ (ld_blt I hg hm boot_enumerate (PyProof.Rows.callWith_type1 (thn (ha.run pos pins s σ H _ I h) fun us s1 ⟨vs, H1, I1, r1, z, ez, q⟩ => ?_) hs rfl))
  subst ez
  cases r1 with
  | cons r rr =>
    cases rr
    obtain ⟨t, rfl⟩ := r
    have gt : ∀ b, b ∈ [s1.heap.objs.size + 1, s1.heap.objs.size] → s1.heap.objs.size ≤ b := fun b hb => by
      rcases List.mem_cons.mp hb with n | n
      · rw [n]; exact Nat.le_add_right _ _
      · rw [List.mem_singleton.mp n]; exact Nat.le_refl _
    refine call_enumerate_str fun h' he hit hsz hk => wpAny_pyIter_enum he ?_
    exact ⟨s1.heap.objs.size + 1, [s1.heap.objs.size + 1, s1.heap.objs.size], _, _, H1, rfl, I1.kept (t' := s1.toks) hk, turn_enumT z t (s1.heap.objs.size + 1) s1.heap.objs.size,
      ⟨⟨.none, he⟩, hit, Nat.succ_ne_self _, Nat.zero_le _⟩, fun b hb => I1.fpOk (gt b hb) (I1.hok.fresh (gt b hb)), q⟩
theorem for_enumT {z : Str} {g : TG} {tb : TS} {D : Ends} {σ : L2.St} {H : Hp} (Pv : Nat → L2.St → Hp → Prop) (h0 : Pv 0 σ H)
    (hs : ∀ (i c : Nat) (T : Addr) (σ : L2.St) (H : Hp), z.cps.toList[i]? = some c → Pv i σ H → H T = none → g (.ref T) σ (upd H T (.tup [.int (i : Nat), .str (sgn c)])) fun σ2 H2 => tb { D with nx := Pv (i + 1), ct := Pv (i + 1), bk := D.nx } σ2 H2)
    (hd : ∀ σ H, Pv z.cps.toList.length σ H → D.nx σ H) :
    ∃ W : Nat → Nat → L2.St → Hp → Prop, (∃ m, W 0 m σ H) ∧ ∀ i m σ H, W i m σ H → ((Ise z).stop i H ∧ D.nx σ H) ∨ ((Ise z).go i H ∧ ∃ N : L2.St → Hp → Prop, (∀ σ' H', N σ' H' → ∃ m', m' < m ∧ W (i + 1) m' σ' H') ∧
      ∀ v H', (Ise z).yld i H v H' → g v σ H' fun σ2 H2 => tb { D with nx := N, ct := N, bk := D.nx } σ2 H2) := by
  have hsz : z.cps.size = z.cps.toList.length := by simp
  refine ⟨fun i m σ H => m = z.cps.toList.length - i ∧ i ≤ z.cps.toList.length ∧ Pv i σ H, ⟨z.cps.toList.length, rfl, Nat.zero_le _, h0⟩, ?_⟩
  rintro i m σ H ⟨rfl, hi, p⟩
  by_cases lt : i < z.cps.toList.length
  · refine .inr ⟨by show i < z.cps.size; omega, Pv (i + 1), fun σ' H' q => ⟨z.cps.toList.length - (i + 1), by omega, rfl, lt, q⟩, ?_⟩
    rintro v H' ⟨T, c, rfl, hT, rfl, hc⟩
    exact hs i c T σ _ (by rw [Array.getElem?_toList]; exact hc) p hT
  · have e : i = z.cps.toList.length := by omega
    subst e
    exact .inl ⟨by show z.cps.size ≤ z.cps.toList.length; omega, hd σ H p⟩
end SxK

set_option Elab.async false
set_option linter.all false
set_option maxRecDepth 100000
set_option maxHeartbeats 4000000
namespace SxK
open PySem PySem.Spec PyProof.Rows L2
/-! ### try with clauses of which the first one, with a name, takes every exception that is due -/
/-- the ends behind a suite whose name in slot i goes -/
def dropAt (i : Nat) (D : Ends) : Ends := { nx := fun σ' H' => D.nx (σ'.set i none) H', rt := D.rt, bk := fun σ' H' => D.bk (σ'.set i none) H', ct := fun σ' H' => D.ct (σ'.set i none) H' }
def wFirst (K : PySem.W.Frag) (c : Value) (i : Nat) (ts : Addr → Value → Option Addr → TS) (D : Ends) : WX := fun cls d σ H =>
  PySem.W.exmOne K cls c = some true ∧ ∀ a, H a = none → ts a cls d (dropAt i D) (σ.set i (some (.ref a))) H
section
variable {X : Cx} {x n : Str} {c : Value} {i : Nat} {body suite : List Stmt} {b₀ : Stmt} {np pos pos' : Pos} {more : List ExceptHandler} {tb : WX → TS} {ts : Addr → Value → Option Addr → TS}
theorem ps_try_first (st : X.stack = X.env :: X.outer) (fr : X.env.frame = some X.env.locals) (nd : X.N.Nodup) (ni : X.N[i]? = some n) (nl : X.env.kindOf n = some .local) (nc : Names X x c)
    (tryB : ∀ (W : WX) (pn : List (Addr × Obj)) (xe : Value → Shared → Prop), Takes (X.tr pn xe) W → PassesOwn (model X.prog X.w) X.A X.env xe → PSs (X.tr pn xe) body (tb W))
    (suiteB : ∀ (a : Addr) (oe : Obj) (cls : Value) (d : Option Addr) (pn : List (Addr × Obj)), Zc cls d oe → (∃ vs, oe.data = .fields vs) → PSs (X.suite a ((a, oe) :: pn)) (b₀ :: suite) (ts a cls d)) :
    PS X (.Try body (.ExceptHandler (some (.Name x np)) (some n) (b₀ :: suite) pos' :: more) [] [] pos) (fun D σ H => tb (wFirst X.K c i ts D) D σ H) := by
  refine ⟨fun pins s σ H D I h => ?_⟩
  have okX := I.ok
  have afr : X.A.frames = some (X.env :: X.outer) := by rw [okX.frames, st]
  refine wpAny_Try_except (wpAny_mono ((tryB (wFirst X.K c i ts D) (X.pn ++ pins) _ (fun u s2 y => ?_) PassesOwn.looking).run [] s σ H D (I.toTry _) h) (fun f s1 q => ?_) (fun e s1 q => q))
  · obtain ⟨a, B, sJ, pins2, τ, G, cls, d, rfl, J0, inB, upS, air, free, osJ, gnJ, mt, wish⟩ := y
    have J : Inv X pins τ G sJ := J0.ofTry okX
    have air2 : Sky B (X.env :: X.outer) a (Zc cls d) X.env.locals s2.heap := by rw [← st]; exact air
    show wpAny (model X.prog X.w) X.A (noteFrame (.ref a) X.env) _ _ _
    refine Sky.land Zc.steady afr fr air2 fun hL flL upL => ?_
    have JL : Inv X pins τ G { s2 with heap := hL } := J.landed inB flL.1 (upS.trans upL) osJ gnJ
    obtain ⟨oL, vL, eL, zL, dL⟩ := flL.there
    have off : a ∉ frs (X.env :: X.outer) := fun hm => by
      obtain ⟨_, o', e', hnf⟩ := flL.2.2.1.mem hm
      rw [eL] at e'
      cases e'
      exact hnf _ dL
    have aL : a ≠ X.env.locals := fun z => off (List.mem_filterMap.mpr ⟨X.env, List.mem_cons_self, by rw [fr, z]⟩)
    have aF : a ∉ X.fs := fun hm => by
      obtain ⟨e, he, q⟩ := List.mem_filterMap.mp hm
      exact off (List.mem_filterMap.mpr ⟨e, List.mem_cons_of_mem _ he, q⟩)
    have SL := JL.suite eL dL free aL aF
    refine wpAny_handleBy_cons (codeAny_handlers_test ?_) (fun q => by cases q)
    have tyL : PySem.W.Looks (model X.prog X.w) hL (typeOf (.ref a)) cls := fun A Q E s k q => wpAny_typeOf_ref (k _ _ eL) (by rw [zL.1]; exact q)
    have mtL := PySem.W.exm_one (M := model X.prog X.w) JL.kIn tyL mt
    have named : ∀ {Q : Value → Shared → Prop} {E : Value → Shared → Prop}, Q c { s2 with heap := hL } → wpAny (model X.prog X.w) (X.A.mark (some (.ref a))) (eval (.Name x np) X.env) Q E { s2 with heap := hL } := fun {Q E} q => by
      rcases nc with ⟨g1, g2, m1 | ⟨m1, m2, m3⟩⟩
      · exact ld_glob (X := X.suite a ((a, oL) :: (X.pn ++ pins))) SL g1 m1 q g2
      · exact ld_blt (X := X.suite a ((a, oL) :: (X.pn ++ pins))) SL g1 m1 m2 q m3 g2
    refine named (mtL.here (codeAny_handlers_suite_as (HandSPX.lands_againZ flL fun hR flR upR => ?_)))
    have JR : Inv X pins τ G { s2 with heap := hR } := J.landed inB flR.1 ((upS.trans upL).trans upR) osJ gnJ
    obtain ⟨oR, vR, eR, zR, dR⟩ := flR.there
    refine store_ok (X := X.suite a ((a, oR) :: (X.pn ++ pins))) (v := .ref a) (JR.suite eR dR free aL aF) nd ni (.inl nl) rfl (fun s5 S5 => ?_) (.inr nl)
    refine wpAny_mono ((suiteB a oR cls d (X.pn ++ pins) zR ⟨_, dR⟩).run [] s5 _ G _ S5 (wish a free)) (fun f s6 q => ?_) (fun _ _ z => z.elim)
    have goes : ∀ {ρ : L2.St} {F : Hp} {Q : Shared → Prop}, Inv (X.suite a ((a, oR) :: (X.pn ++ pins))) [] ρ F s6 → (∀ s7, Inv X pins (ρ.set i none) F s7 → Q s7) →
        wpAny (model X.prog X.w) X.A (do bindName X.env n .none; unbindBehindTheSuite X.env n pos') (fun _ s7 => Q s7) X.xe s6 := fun {ρ F Q} Sx hq => gone_ok (Sx.unsuite okX) nd ni nl hq
    cases f with
    | ret u =>
      obtain ⟨v, ρ, F, Sx, rv, q⟩ := q
      exact goes Sx fun s7 J7 => ⟨_, _, _, J7, rv, q⟩
    | next =>
      obtain ⟨ρ, F, Sx, q⟩ := q
      exact goes Sx fun s7 J7 => ⟨_, _, J7, q⟩
    | brk =>
      obtain ⟨ρ, F, Sx, q⟩ := q
      exact goes Sx fun s7 J7 => ⟨_, _, J7, q⟩
    | cont =>
      obtain ⟨ρ, F, Sx, q⟩ := q
      exact goes Sx fun s7 J7 => ⟨_, _, J7, q⟩
  · cases f with
    | ret u =>
      obtain ⟨v, τ, G, J, rv, q⟩ := q
      exact ⟨v, τ, G, J.ofTry okX, rv, q⟩
    | next =>
      obtain ⟨τ, G, J, q⟩ := q
      exact wpAny_execs_nil ⟨τ, G, J.ofTry okX, q⟩
    | brk =>
      obtain ⟨τ, G, J, q⟩ := q
      exact ⟨τ, G, J.ofTry okX, q⟩
    | cont =>
      obtain ⟨τ, G, J, q⟩ := q
      exact ⟨τ, G, J.ofTry okX, q⟩
end
end SxK

set_option Elab.async false
set_option linter.all false
set_option maxRecDepth 100000
set_option maxHeartbeats 4000000
namespace SxK
open PySem PySem.Spec PyProof.Rows L2 PySem.Calls
/-! ### an __init__ whose first statement is super().__init__(e), the base's one ValueError's -/
structure SupC (P : Program) (K : PySem.W.Frag) (mg : Str → Option Value) (C fI cc cda : Addr) (nm q : Str) (params : Arguments) (body : List Stmt) (scope : Scope) (fd : FuncData) : Prop where
  ex : OexC K C
  fn : ∃ oc od kV doc pm an ct osl, fd = PySem.W.ksFn nm q params body scope .none kV doc pm an (.ref cda) ct cc ∧ K.lookup fI = some ⟨oc, od, .func fd, osl⟩
  cod : PySem.W.codeIn K (.ref cda) q = true
  file : ∃ cl cd vs sl tf file, K.lookup cda = some ⟨cl, cd, .fields vs, sl⟩ ∧ vs[2]? = some (.str file tf) ∧ ((P.main.file : Str) == file) = true
  cell : ∃ cl cd sl, K.lookup cc = some ⟨cl, cd, .cell (some (.ref C)), sl⟩
  opq : PySem.W.nsIn K cStatics "thirdparty.any" = some none
  ini : PySem.W.ks_superIn K C C "__init__" = some (some (.builtin "ValueError.__init__"))
  sub : PySem.W.mroIn K C (.ref C) = some true
  isB : PySem.W.subIn K (.ref C) (.type "ValueError") = some true
  sup : mg "super" = none
  top : (P.main.scope.names.lookup ("super" : Str)).isSome = false
  iC : PySem.W.findIn K (.ref C) "__init__" = some (some (.ref fI))
  tI : PySem.W.typeIn K (.ref fI) = some (.type "function")
section
variable {X : Cx} {pins : List (Addr × Obj)} {σ : L2.St} {H : Hp} {s : Shared} {a C u : Addr} {us : List Value} {Q : Value → Shared → Prop} {E : Value → Shared → Prop}
/-- the bound ValueError.__init__ is called: nothing of it is told -/
theorem mw_call (T : OexC X.K C) (I : Inv X pins σ H s) (e : H a = some (exo a C none)) (hu : s.heap.get? u = some (PySem.W.kxs_mw "ValueError.__init__" a)) (hl : us.length ≤ sizeLine) (h : ∀ s', Inv X pins σ H s' → Q .none s') :
    wpAny (model X.prog X.w) X.A (call (.ref u) us) Q E s := by
  obtain ⟨nm, q, N, bs, bm, sn, sub, ab, col, dd, k0, k1, k2, k3, k5, hC, hbm⟩ := T.cls
  obtain ⟨t1, ho⟩ := exo_at I.hok e
  obtain ⟨hp, g, d, t, os⟩ := s
  have FB := F.excBase_ValueError
  have mt : (Value.type "method-wrapper" == Value.type "method" || Value.type "method-wrapper" == Value.type "builtin_function_or_method" || Value.type "method-wrapper" == Value.type "method-wrapper") = true := by decide
  refine wpAny_call (codeAny_of_tree ?_); show wpAny _ X.A.in1 (callAny (.ref u) ⟨us, []⟩) _ _ _
  simp only [callAny]; refine wpAny_bind (wpAny_load hu ?_)
  simp only [PySem.W.kxs_mw, mt, if_true]
  refine PySem.W.KFB.if_so (by decide) (wpAny_bind (PySem.W.check_bound_init FB.toExcCallFacts (I.kIn _ _ hC) ho rfl (wpAny_bind (wpAny_pure (wpAny_pure ?_)))))
  refine ⟨plainId_quiet FB.init.plain _, codeAny_builtin FB.initEntry (PySem.W.exc_init_tree (cls := .ref C) (t0 := t1) (dv := none) (c2 := .none) (c3 := .none) (b4 := .bool false) ho hl fun h' k hx _ => ?_)⟩
  have J := I.write (t' := t) (x := a) (e := a) (o := exo a C none) (by rw [e]; exact True.intro) (.inl rfl) k ⟨_, hx⟩ (exo_ok hx)
  have eu : upd H a (exo a C none) = H := funext fun b => by
    by_cases hb : b = a
    · rw [hb, upd_same, e]
    · exact upd_ne hb
  rw [eu] at J
  exact h _ J
end
end SxK

set_option Elab.async false
set_option linter.all false
set_option maxRecDepth 100000
set_option maxHeartbeats 4000000
namespace SxK
open PySem PySem.Spec PyProof.Rows L2 PySem.Calls
/-- the context of such an __init__ -/
def cxSup (CX : CXT) (P : Program) (w : World) (K : PySem.W.Frag) (mg : Str → Option Value) (base : Heap) (N : List Str) (q : Str) (scope : Scope) (f cda cc : Addr) (A : Around) (outer : List Env) (s : Shared) (H : Hp) (E : XK) : Cx :=
  { prog := P, w := w, K := K, mg := mg, base := base, A := A.deeper (PySem.W.ksEnv q scope s.heap.objs.size f (.ref cda) cc), N := N, s_0 := s, H_0 := H, env := PySem.W.ksEnv q scope s.heap.objs.size f (.ref cda) cc, outer := outer,
    stack := PySem.W.ksEnv q scope s.heap.objs.size f (.ref cda) cc :: outer, ex := [], calm := true, fn := fun x => !(x == ("__class__" : Str)), pn := [],
    xe := fun e s' => wpAny (model P w) (A.deeper (PySem.W.ksEnv q scope s.heap.objs.size f (.ref cda) cc)) (leaving (PySem.W.ksEnv q scope s.heap.objs.size f (.ref cda) cc) e) (fun _ s'' => CX outer H s E e s'') (fun e' s'' => CX outer H s E e' s'') s' }
structure ScSup (scope : Scope) (ps : List Str) : Prop where
  kind : scope.kind = .function
  co : scope.isCoroutine = false
  gen : scope.isGenerator = false
  nd : ps.Nodup
  par : ∀ x ∈ ps, scope.names.lookup x = some .local
  nocell : ∀ y ∈ scope.names, y.2 ≠ .cell
  fre : ∀ y ∈ scope.names, y.2 = .free → y.1 = ("__class__" : Str)
  ks : scope.names.lookup ("super" : Str) = some .globalImplicit
  kc : scope.names.lookup ("__class__" : Str) = some .free
section
variable {CX : CXT} {P : Program} {w : World} {K : PySem.W.Frag} {mg : Str → Option Value} {base : Heap} {N ps : List Str} {q nm : Str} {scope : Scope} {C fI cda cc a : Addr} {A : Around} {outer : List Env} {s0 s : Shared} {H0 H : Hp} {E : XK}
  {params : Arguments} {body body2 : List Stmt} {fd : FuncData} {σ : L2.St} {p0 p1 p2 p3 p4 : Pos} {arg : Expr} {t : TA} {G : Hp → Prop} {m : Str → Option Value} {ar : Arg} {pl : Sem Bool}
theorem sup_first (S : SupC P K mg C fI cc cda nm q params body scope fd) (Z : ScSup scope ps) (hp : (params.posonlyargs ++ params.args).head? = some ar) (hpa : ar.arg ∈ ps)
    (I : Inv (cxSup CX P w K mg base N q scope fI cda cc A outer s0 H0 E) [] σ H s) (hns : s.heap.Ns s0.heap.objs.size m) (hv : m ar.arg = some (.ref a)) (e : H a = some (exo a C none))
    (ha : PA (cxSup CX P w K mg base N q scope fI cda cc A outer s0 H0 E) [arg] t)
    (hq : t σ H fun vs H1 => vs.length ≤ 1000 ∧ H1 a = some (exo a C none) ∧ G H1)
    (hs : starEach [arg] (PySem.W.ksEnv q scope s0.heap.objs.size fI (.ref cda) cc) = (false, eval arg (PySem.W.ksEnv q scope s0.heap.objs.size fI (.ref cda) cc)) :: starEach [] (PySem.W.ksEnv q scope s0.heap.objs.size fI (.ref cda) cc) := by rfl)
    (hi : interactive (PySem.W.ksEnv q scope s0.heap.objs.size fI (.ref cda) cc) = false := by rfl)
    (hsw : swapsWith (.Call (.Attribute (.Call (.Name "super" p0) [] [] p1) "__init__" p2) [arg] [] p3) none p4.line (PySem.W.ksEnv q scope s0.heap.objs.size fI (.ref cda) cc) = pure false := by rfl)
    (hev : eval (.Call (.Attribute (.Call (.Name "super" p0) [] [] p1) "__init__" p2) [arg] [] p3) (PySem.W.ksEnv q scope s0.heap.objs.size fI (.ref cda) cc) = (do
      let ov ← attributeBase (.Call (.Name "super" p0) [] [] p1) "__init__" (PySem.W.ksEnv q scope s0.heap.objs.size fI (.ref cda) cc) (eval (.Call (.Name "super" p0) [] [] p1) (PySem.W.ksEnv q scope s0.heap.objs.size fI (.ref cda) cc))
      standAt p2.atName
      let (f, first) ← holding [ov] (getMethod ov "__init__" pl)
      callWith p3 f first (backTo p3 (starEach [arg] (PySem.W.ksEnv q scope s0.heap.objs.size fI (.ref cda) cc))) []) := by rfl) :
    PySem.wpAt (model P w) (A.deeper (PySem.W.ksEnv q scope s0.heap.objs.size fI (.ref cda) cc)) (.func body2 (PySem.W.ksEnv q scope s0.heap.objs.size fI (.ref cda) cc))
      (exec (.Expr (.Call (.Attribute (.Call (.Name "super" p0) [] [] p1) "__init__" p2) [arg] [] p3) p4) (PySem.W.ksEnv q scope s0.heap.objs.size fI (.ref cda) cc))
      (fun f s' => f = .next ∧ ∃ H1, Inv (cxSup CX P w K mg base N q scope fI cda cc A outer s0 H0 E) [] σ H1 s' ∧ H1 a = some (exo a C none) ∧ G H1) (cxSup CX P w K mg base N q scope fI cda cc A outer s0 H0 E).xe s := by
  obtain ⟨oc, od, kV, doc, pm, an, ct, osl, efd, hf⟩ := S.fn
  subst efd
  obtain ⟨cl, cd, vs, sl, tf, file, hcode, hvs, hfile⟩ := S.file
  obtain ⟨cl2, cd2, sl2, hcell⟩ := S.cell
  obtain ⟨cn, cq, cN, bs, bm, sn, sub, ab, col, dd, k0, k1, k2, k3, k5, hC, hbm⟩ := S.ex.cls
  obtain ⟨t1, hx⟩ := exo_at I.hok e
  obtain ⟨mb, hb1, hb2⟩ := I.mod.blt
  have KI : K.In s.heap := I.kIn
  have hcd : PySem.W.clsIn K C = some { name := cn, bases := bs, mro := .ref C :: bm, ns := cN, qualname := cq, hasDict := true, slotNames := sn, subclasses := sub, abstract := ab, collection := col, hasDel := false } := by
    unfold PySem.W.clsIn
    rw [hC]
  have hax : a ≠ C := fun z => by
    have h1 := KI _ _ hC
    rw [← z, hx] at h1
    cases h1
  have hm : PySem.W.alongIn K "__init__" (((Value.ref C :: bm).dropWhile (· != .ref C)).drop 1) = some (some (.builtin "ValueError.__init__")) := by
    have h1 := S.ini
    unfold PySem.W.ks_superIn at h1
    rw [hcd] at h1
    exact h1
  refine ks_wpAt_Expr_any (ks_wpAt_MethodCall (ks_wpAt_super_base (env := PySem.W.ksEnv q scope s0.heap.objs.size fI (.ref cda) cc) Z.ks Z.kc (by decide) rfl (KI _ _ hf) rfl hp rfl (KI _ _ hcode) rfl hvs hfile S.top ?_) hev) hi hsw
  refine PySem.W.ks_loadName_global Z.kind Z.ks (loadGlobal_builtin (env := PySem.W.ksEnv q scope s0.heap.objs.size fI (.ref cda) cc) (I.mod.glob.keeps I.bk) S.sup (hb1.keeps I.bk) ((hb2 _ (by decide)).trans (by decide +kernel)) ⟨rfl, ?_⟩)
  refine wpAny_loadName_free Z.kind Z.kc (by rfl) ⟨_, KI _ _ hcell, rfl⟩ (wpAny_loadName_local Z.kind (Z.par _ hpa) hns hv ?_)
  obtain ⟨hh, g, d, tk, os⟩ := s
  refine ks_wpAny_isType_cls (KI _ _ hC) rfl ⟨rfl, ?_⟩
  refine ks_wpAny_call_super (KI _ _ hC) rfl hx rfl (fun c z => by cases z) (PySem.W.looks_mroIn KI S.sub) fun h1 e1 kp1 => ?_
  have K1 : K.In h1 := KI.keeps kp1
  have lx : PySem.W.Looks (model P w) h1 (isInstance (.ref a) (.type "ValueError")) true :=
    PySem.W.Looks.andThen (a := Value.ref C) (fun A Q E s k q => wpAny_typeOf_ref (k _ _ (kp1 _ _ hx)) q) (PySem.W.looks_subIn K1 S.isB)
  refine PySem.W.kxs_getMethod PySem.W.kxs_ValueError e1 (PySem.W.looks_opaque K1 S.opq) (l₀ := .ref C :: bm) ((PySem.W.looks_clsIn K1 hcd).andThen .now) rfl K1 hm lx hax (by decide) ?_
  have kp2 : ∀ b o, hh.get? b = some o → (h1.push (PySem.W.kxs_mw "ValueError.__init__" a)).get? b = some o := fun b o z => Heap.get?_push_of_some _ (kp1 _ _ z)
  have hu : (h1.push (PySem.W.kxs_mw "ValueError.__init__" a)).get? h1.objs.size = some (PySem.W.kxs_mw "ValueError.__init__" a) := Heap.get?_push_size _ rfl
  have I2 : Inv (cxSup CX P w K mg base N q scope fI cda cc A outer s0 H0 E) [] σ H ⟨h1.push (PySem.W.kxs_mw "ValueError.__init__" a), g, d, tk + 1, os⟩ := I.kept (t' := tk + 1) kp2
  have hle : hh.objs.size ≤ h1.objs.size := Nat.le_of_lt (Heap.lt_size e1)
  have I3 : Inv (cxSup CX P w K mg base N q scope fI cda cc A outer s0 H0 E) [(h1.objs.size, PySem.W.kxs_mw "ValueError.__init__" a)] σ H ⟨h1.push (PySem.W.kxs_mw "ValueError.__init__" a), g, d, tk + 1, os⟩ := I2.pins_of fun p hpp => by
    rw [List.mem_singleton.mp hpp]
    exact ⟨hu, I.hok.fresh hle, Nat.ne_of_gt (Nat.lt_of_lt_of_le I.lt hle), I.nofs hle, fun v z => by cases z⟩
  have run := ha.run p3 _ _ σ H _ I3 hq
  show wpAny _ _ (callWith p3 (.ref h1.objs.size) [] (backTo p3 (starEach [arg] (PySem.W.ksEnv q scope s0.heap.objs.size fI (.ref cda) cc))) []) _ _ _
  have run2 : wpAny (model P w) (A.deeper (PySem.W.ksEnv q scope s0.heap.objs.size fI (.ref cda) cc)) (spliced (backTo p3 (starEach [arg] (PySem.W.ksEnv q scope s0.heap.objs.size fI (.ref cda) cc)))) _ _ _ := run
  rw [hs] at run2 ⊢
  refine PySem.W.kxs_callWith (i := "ValueError.__init__") (x := a) rfl (evalArgs_plain (thn run2 fun us s4 h4 => ?_))
  obtain ⟨vs4, H4, I4, r4, l4, e4, q4⟩ := h4
  have hu4 := (I4.pin _ (List.mem_append_right _ List.mem_cons_self)).1
  refine ⟨hu4, mw_call (X := cxSup CX P w K mg base N q scope fI cda cc A outer s0 H0 E) S.ex I4 e4 hu4 (by rw [List.nil_append, ← r4.length, sizeLine_eq]; omega) fun s5 J5 => ?_⟩
  exact ⟨rfl, H4, J5.pins_of (pins' := []) (fun p hpp => absurd hpp (List.not_mem_nil)), e4, q4⟩
end
end SxK

set_option Elab.async false
set_option linter.all false
set_option maxRecDepth 100000
set_option maxHeartbeats 4000000
namespace SxK
open PySem PySem.Spec PyProof.Rows L2 PySem.Calls
theorem look_rev : ∀ (ps : List Str) (us : List Value) (i : Nat) (x : Str) (u : Value), ps.Nodup → ps[i]? = some x → us[i]? = some u → (ps.zip us).reverse.lookup x = some u
  | [], _, _, _, _, _, h, _ => by simp at h
  | _ :: _, [], _, _, _, _, _, h => by simp at h
  | p :: ps, v :: us, i, x, u, nd, h1, h2 => by
    obtain ⟨n1, n2⟩ := List.nodup_cons.mp nd
    rw [List.zip_cons_cons, List.reverse_cons, List.lookup_append]
    cases i with
    | zero =>
      have e1 : p = x := by simpa using h1
      have e2 : v = u := by simpa using h2
      subst e1 e2
      have e3 : (ps.zip us).reverse.lookup p = none := by
        rw [List.lookup_eq_none_iff]
        intro q hq
        have h3 := (List.of_mem_zip (List.mem_reverse.mp hq : (q.1, q.2) ∈ ps.zip us)).1
        have h4 : p ≠ q.1 := fun z => n1 (by rw [z]; exact h3)
        simpa using h4
      rw [e3]
      simp [List.lookup]
    | succ i => rw [look_rev ps us i x u n2 (by simpa using h1) (by simpa using h2)]; rfl
section
variable {CX : CXT} {P : Program} {w : World} {K : PySem.W.Frag} {mg : Str → Option Value} {base : Heap} {ps : List Str} {q nm : Str} {scope : Scope} {C fI cda cc : Addr}
  {params : Arguments} {rest : List Stmt} {fd : FuncData} {p0 p1 p2 p3 p4 : Pos} {arg : Expr} {ar : Arg} {pl : Sem Bool} {sp : Sp} {k : Nat}
theorem sup_start {body : List Stmt} {A : Around} {outer : List Env} {s : Shared} {H : Hp} {E : XK} {us : List Value} {vs : List V} {h0 : Heap} {tk : Nat} (S : SupC P K mg C fI cc cda nm q params body scope fd) (Z : ScSup scope ps)
    (hd : A.handled = none) (e0 : Env0 P w K mg base A outer s H) (hl : vs.length = ps.length) (r : Vals vs us) (hns : h0.Ns s.heap.objs.size (fun x => (ps.zip us).reverse.lookup x)) (hk : ∀ b o, s.heap.get? b = some o → h0.get? b = some o) :
    Inv (cxSup CX P w K mg base ps q scope fI cda cc A outer s H E) [] (start ps vs) H { s with heap := h0, toks := tk } := by
  obtain ⟨cl2, cd2, sl2, hcell⟩ := S.cell
  have hc0 := e0.bs _ _ (e0.mod.kin _ _ hcell)
  have none_in : ∀ b : Addr, b ∉ (cxSup CX P w K mg base ps q scope fI cda cc A outer s H E).ex := fun b z => absurd (show b ∈ ([] : List Addr) from z) List.not_mem_nil
  have cells : ∀ y c, (cxSup CX P w K mg base ps q scope fI cda cc A outer s H E).env.cells.lookup y = some c → y = ("__class__" : Str) ∧ c = cc := fun y c z => by
    have z1 : List.lookup y [(("__class__" : Str), cc)] = some c := z
    by_cases hy : y = ("__class__" : Str)
    · subst hy
      have z2 : List.lookup ("__class__" : Str) [(("__class__" : Str), cc)] = some cc := by simp [List.lookup]
      rw [z2] at z1
      exact ⟨rfl, (Option.some.inj z1).symm⟩
    · have q1 : (y == ("__class__" : Str)) = false := by simpa using hy
      simp [List.lookup, q1] at z1
  have upto : ∀ i v, (start ps vs)[i]? = some (some v) → vs[i]? = some v := fun i v z => by
    unfold L2.start at z
    rw [hl, Nat.sub_self, List.replicate_zero, List.append_nil, List.getElem?_map] at z
    cases n : vs[i]? with
    | none => rw [n] at z; cases z
    | some a => rw [n] at z; cases z; rfl
  refine ⟨⟨e0.mod, Z.kind, rfl, rfl, Nat.le_refl _, fun y z c h1 h2 => by rw [(cells _ _ h1).1, (cells _ _ h2).1], fun y hy => ?_, fun y c h1 h2 => ?_, fun _ => hd, Around.frames_deeper e0.frames, .inr ⟨rfl, rfl⟩, fun b z => absurd z (none_in b), e0.bs, e0.bsz, fun b _ _ => none_in b,
      fun b z => absurd z (none_in b), e0.funs, e0.frf⟩, rfl, e0.bare, Un.kept hk, ⟨_, hns, fun i y v h1 h2 h3 => ?_⟩, fun y c h => ?_, e0.hok.fresh (Nat.le_refl _), fun y c h => ?_, fun p hp => absurd (show p ∈ ([] : List (Addr × Obj)) from hp) List.not_mem_nil, e0.hok.kept hk, ?_⟩
  · have hy' : scope.names.lookup y = some .cell ∨ scope.names.lookup y = some .free := hy
    rcases hy' with z | z
    · exact absurd rfl (Z.nocell _ (PySem.mem_of_lookup z))
    · have e1 := Z.fre _ (PySem.mem_of_lookup z) rfl
      have e2 : y = ("__class__" : Str) := e1
      subst e2
      exact ⟨cc, by show List.lookup ("__class__" : Str) [(("__class__" : Str), cc)] = some cc; simp [List.lookup]⟩
  · have h1' : (!(y == ("__class__" : Str))) = true := h1
    rw [(cells _ _ h2).1] at h1'
    simp at h1'
  · obtain ⟨u, hu, rv⟩ := r.get (upto i v h2)
    exact ⟨u, rv, .inl ⟨Z.par y (List.mem_of_getElem? h1), look_rev ps us i y u Z.nd h1 hu⟩⟩
  · rw [(cells _ _ h).2]
    exact ⟨_, _, hk _ _ hc0.1, rfl⟩
  · rw [(cells _ _ h).2]
    exact hc0.2
  · unfold L2.start
    show _ = ps.length
    rw [List.length_append, List.length_map, List.length_replicate]
    omega
theorem fn_sup (S : SupC P K mg C fI cc cda nm q params (.Expr (.Call (.Attribute (.Call (.Name "super" p0) [] [] p1) "__init__" p2) [arg] [] p3) p4 :: rest) scope fd) (Z : ScSup scope ps)
    (hp : (params.posonlyargs ++ params.args).head? = some ar) (hps : ps[0]? = some ar.arg) (len : ∀ vs H Q E, sp vs H Q E → vs.length = ps.length)
    (body : ∀ (A : Around) (outer : List Env) (s : Shared) (H : Hp) (vs : List V) (Q : VK) (E : XK), Room k (A.deeper (PySem.W.ksEnv q scope s.heap.objs.size fI (.ref cda) cc)) → sp vs H Q E →
      ∃ (t : TA) (t2 : TS) (a : Addr) (vr : List V), PA (cxSup CX P w K mg base ps q scope fI cda cc A outer s H E) [arg] t ∧ PSs (cxSup CX P w K mg base ps q scope fI cda cc A outer s H E) rest t2 ∧ vs = .ref a :: vr ∧ H a = some (exo a C none) ∧
        t (start ps vs) H fun us H1 => us.length ≤ 1000 ∧ H1 a = some (exo a C none) ∧ t2 { nx := fun _ H' => Q .non H', rt := Q } (start ps vs) H1)
    (hs : ∀ L, starEach [arg] (PySem.W.ksEnv q scope L fI (.ref cda) cc) = (false, eval arg (PySem.W.ksEnv q scope L fI (.ref cda) cc)) :: starEach [] (PySem.W.ksEnv q scope L fI (.ref cda) cc))
    (hi : ∀ L, interactive (PySem.W.ksEnv q scope L fI (.ref cda) cc) = false)
    (hsw : ∀ L, swapsWith (.Call (.Attribute (.Call (.Name "super" p0) [] [] p1) "__init__" p2) [arg] [] p3) none p4.line (PySem.W.ksEnv q scope L fI (.ref cda) cc) = pure false)
    (hev : ∀ L, eval (.Call (.Attribute (.Call (.Name "super" p0) [] [] p1) "__init__" p2) [arg] [] p3) (PySem.W.ksEnv q scope L fI (.ref cda) cc) = (do
      let ov ← attributeBase (.Call (.Name "super" p0) [] [] p1) "__init__" (PySem.W.ksEnv q scope L fI (.ref cda) cc) (eval (.Call (.Name "super" p0) [] [] p1) (PySem.W.ksEnv q scope L fI (.ref cda) cc))
      standAt p2.atName
      let (f, first) ← holding [ov] (getMethod ov "__init__" pl)
      callWith p3 f first (backTo p3 (starEach [arg] (PySem.W.ksEnv q scope L fI (.ref cda) cc))) [])) : FnOk P w K mg base CX (k + 1) fI fd ps sp := by
  refine ⟨len, fun A outer s H args us vs Q E hr e0 hb r hsp => ?_⟩
  have hl := len _ _ _ _ hsp
  obtain ⟨t, t2, a, vr, ha, hr2, evs, he, hq⟩ := body A outer s H vs Q E (hr.deeper _) hsp
  have KX : K.In s.heap := e0.mod.kin.keeps fun b o e => (e0.bs b o e).1
  have lim : s.heap.NoLimit := e0.mod.nolimit.keeps fun b o e => (e0.bs b o e).1
  obtain ⟨u0, hu0, ru0⟩ := r.get (i := 0) (x := V.ref a) (by rw [evs]; rfl)
  obtain rfl : u0 = Value.ref a := ru0
  obtain ⟨oc, od, kV, doc, pm, an, ct, osl, efd, hf⟩ := id S.fn
  refine ks_codeAny_call_defAt (fd := fd) (body := .Expr (.Call (.Attribute (.Call (.Name "super" p0) [] [] p1) "__init__" p2) [arg] [] p3) p4 :: rest) (binds := ps.zip us) hr.depth (KX _ _ hf) rfl lim
    (by rw [efd]; exact PySem.W.codeRec_of KX S.cod) (by rw [efd]) hb (by rw [efd]; exact Z.nocell) (by rw [efd]; exact fun y hy => Z.par _ (List.of_mem_zip (show (y.1, y.2) ∈ ps.zip us from hy)).1) (fun h0 hns hk => ?_) (by rw [efd]; exact Z.co) (by rw [efd]; exact Z.gen) (by rw [efd]; exact Z.kind)
  have I : Inv (cxSup CX P w K mg base ps q scope fI cda cc A outer s H E) [] (start ps vs) H { s with heap := h0, toks := s.toks + (ps.zip us).length } := sup_start S Z hr.hd e0 hl r hns hk
  have ee : callEnv fd s.heap.objs.size fI = PySem.W.ksEnv q scope s.heap.objs.size fI (.ref cda) cc := by rw [efd]; rfl
  rw [ee]
  refine ks_wpAt_execs_cons (ks_wpAt_mono (sup_first S Z hp (List.mem_of_getElem? hps) I hns (look_rev ps us 0 _ _ Z.nd hps hu0) he ha hq (hs _) (hi _) (hsw _) (hev _)) (fun f s1 h1 => ?_) fun e s1 h1 => h1)
  obtain ⟨rfl, H1, I1, e1, q1⟩ := h1
  refine wpAt_of_wpAny (wpAny_mono (hr2.run [] s1 (start ps vs) H1 _ I1 q1) (fun fl s2 h2 => ?_) fun e s2 h2 => h2)
  cases fl with
  | ret u =>
    obtain ⟨v, σ', H', J, rv, z⟩ := h2
    exact ⟨v, H', J.os, J.bare, J.base, J.hok, rv, z⟩
  | next =>
    obtain ⟨σ', H', J, z⟩ := h2
    exact ⟨V.non, H', J.os, J.bare, J.base, J.hok, rfl, z⟩
  | brk => obtain ⟨_, _, _, z⟩ := h2; exact z.elim
  | cont => obtain ⟨_, _, _, z⟩ := h2; exact z.elim
end
end SxK

set_option Elab.async false
set_option linter.all false
set_option maxRecDepth 100000
set_option maxHeartbeats 2000000
namespace SxK
open PySem PySem.Spec PyProof.Rows L2
/-! ### facts of own exceptions, read at the head -/
def oexB (K : PySem.W.Frag) (C : Addr) : Bool := match K.lookup C with
  | some ⟨.type "type", _, .cls cd, sl⟩ => (match cd.mro, sl.toList with
    | .ref C' :: bm, [_, _, _, _, some (.builtin n), _] => decide (C' = C) && (decide (n = "ValueError.__new__") && (!cd.hasDel && (cd.hasDict && PySem.HandSPX.refsVE bm)))
    | _, _ => false)
  | _ => false
theorem oexB_ok {K : PySem.W.Frag} {C : Addr} (h : oexB K C = true) :
    ∃ nm q N bs bm sn sub ab col dd k0 k1 k2 k3 k5, K.lookup C = some (excClassObj nm q C N bs bm true sn sub ab col dd k0 k1 k2 k3 k5 "ValueError.__new__") ∧ PySem.HandSPX.refsVE bm = true := by
  unfold oexB at h
  split at h
  · rename_i dd cd sl ho
    split at h
    · rename_i C' bm k0 k1 k2 k3 n k5 hm hs
      obtain ⟨nm, bs, mro, ns, qn, hd, sn, sb, ab, col, del⟩ := cd
      obtain ⟨l⟩ := sl
      have hs' : l = [k0, k1, k2, k3, some (.builtin n), k5] := hs
      have hm' : mro = .ref C' :: bm := hm
      subst hs' hm'
      obtain ⟨h1, h⟩ := Bool.and_eq_true_iff.mp h
      obtain ⟨h2, h⟩ := Bool.and_eq_true_iff.mp h
      obtain ⟨h3, h⟩ := Bool.and_eq_true_iff.mp h
      obtain ⟨h4, h5⟩ := Bool.and_eq_true_iff.mp h
      have h1' := of_decide_eq_true h1
      have h2' := of_decide_eq_true h2
      have h3' : del = false := by simpa using h3
      have h4' : hd = true := h4
      subst h1' h2' h3' h4'
      exact ⟨_, _, _, _, _, _, _, _, _, _, _, _, _, _, _, ho, h5⟩
    · cases h
  · cases h
abbrev FnS : Type := Option (Str × Str × Arguments × FuncBody × Scope × Addr × Addr)
/-- one such class: its name, its __init__ -/
structure SupD where
  cls : Str
  qual : Str
  params : Arguments
  body : List Stmt
  scope : Scope
  file : Str
  ats : List Str
def SupD.I (K : PySem.W.Frag) (d : SupD) : Addr := He.ma K (He.ga K d.cls) "__init__"
def SupD.obs (K : PySem.W.Frag) (d : SupD) : FnS := match K.lookup (d.I K) with
  | some ⟨_, _, .func fd, _⟩ => some (fd.name, fd.qualname, fd.params, fd.body, fd.scope, fd.globals, fd.builtins)
  | _ => none
def SupD.val (d : SupD) : FnS := some ("__init__", d.qual, d.params, .stmts d.body, d.scope, mainGlobals, builtinsNs)
def SupD.fnB (K : PySem.W.Frag) (d : SupD) : Bool := match K.lookup (d.I K) with
  | some ⟨_, _, .func fd, _⟩ => (match fd.defaults, fd.code, fd.closure with
    | .none, .ref cda, [(n, cc)] => decide (n = "__class__") && (PySem.W.codeIn K (.ref cda) d.qual && ((match K.lookup cda with
        | some ⟨_, _, .fields vs, _⟩ => (match vs[2]? with
          | some (Value.str f _) => decide (f = d.file)
          | _ => false)
        | _ => false) && (match K.lookup cc with
        | some ⟨_, _, .cell (some (.ref D)), _⟩ => decide (D = He.ga K d.cls)
        | _ => false)))
    | _, _, _ => false)
  | _ => false
def SupD.ok (K : PySem.W.Frag) (d : SupD) : Bool :=
  oexB K (He.ga K d.cls) && (xfB K (He.ga K d.cls) && (d.fnB K && (He.eqO (PySem.W.findIn K (.ref (He.ga K d.cls)) "__setattr__") (some (some (.builtin "object.__setattr__"))) && (
  decide (PySem.W.subIn K (.ref (He.ga K d.cls)) (.type "BaseException") = some true) && (decide (PySem.W.typeIn K (.ref (He.ga K d.cls)) = some (.type "type")) && (PySem.W.keepIn K (.ref (He.ga K d.cls)) && (
  He.eqO (PySem.W.nsIn K cStatics "thirdparty.any") (some none) && (He.eqO (PySem.W.ks_superIn K (He.ga K d.cls) (He.ga K d.cls) "__init__") (some (some (.builtin "ValueError.__init__"))) && (
  decide (PySem.W.mroIn K (He.ga K d.cls) (.ref (He.ga K d.cls)) = some true) && (decide (PySem.W.subIn K (.ref (He.ga K d.cls)) (.type "ValueError") = some true) && (He.eqO (PySem.W.nsIn K mainGlobals "super") (some none) && (
  He.eqO (PySem.W.findIn K (.ref (He.ga K d.cls)) "__init__") (some (some (.ref (d.I K)))) && (decide (PySem.W.typeIn K (.ref (d.I K)) = some (.type "function")) && (He.eqO (PySem.W.nsIn K mainGlobals d.cls) (some (some (.ref (He.ga K d.cls)))) && (
  decide (PySem.W.exmOne K (.ref (He.ga K d.cls)) (.ref (He.ga K d.cls)) = some true) &&
  d.ats.all fun f => He.eqO (PySem.W.findIn K (.ref (He.ga K d.cls)) f) (some none))))))))))))))))
/-- what is known of such a class -/
structure ErrC (P : Program) (K : PySem.W.Frag) (mg : Str → Option Value) (d : SupD) : Prop where
  sup : ∃ cc cda fd, SupC P K mg (He.ga K d.cls) (d.I K) cc cda "__init__" d.qual d.params d.body d.scope fd
  xf : XfC K (He.ga K d.cls)
  glob : mg d.cls = some (.ref (He.ga K d.cls))
  exm : PySem.W.exmOne K (.ref (He.ga K d.cls)) (.ref (He.ga K d.cls)) = some true
  ats : ∀ f ∈ d.ats, PySem.W.findIn K (.ref (He.ga K d.cls)) f = some none
theorem SupD.err {P : Program} {K : PySem.W.Frag} {mg : Str → Option Value} {d : SupD} {h : Heap} (X : K.In h) (G : h.Ns mainGlobals mg) (e : d.obs K = d.val) (c : d.ok K = true) (hfile : P.main.file = d.file)
    (htop : (P.main.scope.names.lookup ("super" : Str)).isSome = false) : ErrC P K mg d := by
  unfold SupD.ok at c
  obtain ⟨c1, c⟩ := He.ba c
  obtain ⟨c2, c⟩ := He.ba c
  obtain ⟨c3, c⟩ := He.ba c
  obtain ⟨c4, c⟩ := He.ba c
  obtain ⟨c5, c⟩ := He.ba c
  obtain ⟨c6, c⟩ := He.ba c
  obtain ⟨c7, c⟩ := He.ba c
  obtain ⟨c8, c⟩ := He.ba c
  obtain ⟨c9, c⟩ := He.ba c
  obtain ⟨c10, c⟩ := He.ba c
  obtain ⟨c11, c⟩ := He.ba c
  obtain ⟨c12, c⟩ := He.ba c
  obtain ⟨c13, c⟩ := He.ba c
  obtain ⟨c14, c⟩ := He.ba c
  obtain ⟨c15, c⟩ := He.ba c
  obtain ⟨c16, c17⟩ := He.ba c
  refine ⟨?_, xfB_ok c2, PySem.W.mg_of X G (He.eqO_ok c15), of_decide_eq_true c16, fun f hf => He.eqO_ok (List.all_eq_true.mp c17 f hf)⟩
  have ex : OexC K (He.ga K d.cls) := ⟨oexB_ok c1, He.eqO_ok c4, of_decide_eq_true c5, of_decide_eq_true c6, c7⟩
  unfold SupD.fnB at c3
  unfold SupD.obs at e
  split at c3
  · rename_i o1 o2 fd o3 ho
    rw [ho] at e
    split at c3
    · rename_i cda n cc e1 e2 e3
      obtain ⟨d1, c3⟩ := He.ba c3
      obtain ⟨d2, c3⟩ := He.ba c3
      obtain ⟨d3, d4⟩ := He.ba c3
      obtain ⟨n1, n2, n3, n4, n5, n6, n7, n8, n9, n10, n11, n12, n13, n14, n15⟩ := fd
      have e4 : (some (n1, n2, n3, n4, n5, n6, n15) : FnS) = (some ("__init__", d.qual, d.params, .stmts d.body, d.scope, mainGlobals, builtinsNs) : FnS) := e
      simp only [Option.some.injEq, Prod.mk.injEq] at e4
      obtain ⟨h1, h2, h3, h4, h5, h6, h7⟩ := e4
      have e1' : n8 = .none := e1
      have e2' : n13 = .ref cda := e2
      have e3' : n7 = [(n, cc)] := e3
      have d1' := of_decide_eq_true d1
      subst h1 h2 h3 h4 h5 h6 h7 e1' e2' e3' d1'
      refine ⟨cc, cda, _, ex, ⟨_, _, _, _, _, _, _, _, rfl, ho⟩, d2, ?_, ?_, He.eqO_ok c8, He.eqO_ok c9, of_decide_eq_true c10, of_decide_eq_true c11, PySem.W.mg_none_of X G (He.eqO_ok c12), htop, He.eqO_ok c13, of_decide_eq_true c14⟩
      · split at d3
        · rename_i a1 a2 vs a3 ha
          split at d3
          · rename_i f t hv
            exact ⟨_, _, _, _, t, f, ha, hv, by rw [hfile, of_decide_eq_true d3]; simp⟩
          · cases d3
        · cases d3
      · split at d4
        · rename_i a1 a2 D a3 ha
          have eD := of_decide_eq_true d4
          subst eD
          exact ⟨_, _, _, ha⟩
        · cases d4
    · cases c3
  · cases c3
/-! ### the Hook with such classes -/
abbrev AlX : Type := He.AlD × (Bool × List FnS)
def obsX (fa : List He.Fa) (fn : List He.DefD) (xs : List SupD) (K : PySem.W.Frag) : AlX := (He.obsD fa fn K, xs.all fun d => d.ok K, xs.map fun d => d.obs K)
def valX (fn : List He.DefD) (xs : List SupD) : AlX := (He.valD fn, true, xs.map SupD.val)
def SaysX (fa : List He.Fa) (fn : List He.DefD) (xs : List SupD) (K : PySem.W.Frag) : Prop := obsX fa fn xs K = valX fn xs
def obsXG (n : Nat) (fa : List He.Fa) (fn : List He.DefD) (xs : List SupD) (g : Addr → Option Obj) : AlX := obsX fa fn xs (He.frG g (He.asD g n ++ [cStatics]))
def hookX (n : Nat) (fa : List He.Fa) (fn : List He.DefD) (xs : List SupD) : PySem.W.Hook where
  α := AlX
  obs := fun s => obsXG n fa fn xs s.heap.get?
  val := fun _ => valX fn xs
  says := fun _ h => ∃ K : PySem.W.Frag, K.In h ∧ SaysX fa fn xs K
  of := fun _ _ e => ⟨_, He.frG_in, e⟩
  keeps := fun _ _ _ ⟨K, hK, c⟩ k => ⟨K, PySem.W.Frag.In.keeps hK k, c⟩
theorem obsXG_eq {n : Nat} {fa : List He.Fa} {fn : List He.DefD} {xs : List SupD} {g : Addr → Option Obj} {s : Shared} (h : ∀ a, g a = s.heap.get? a) : obsXG n fa fn xs g = (hookX n fa fn xs).obs s := by
  have e : g = s.heap.get? := funext h
  rw [e] <;> rfl
section
variable {fa : List He.Fa} {fn : List He.DefD} {xs : List SupD} {K : PySem.W.Frag}
theorem SaysX.d (c : SaysX fa fn xs K) : He.SaysD fa fn K := congrArg (fun z : AlX => z.1) c
theorem SaysX.sup (c : SaysX fa fn xs K) (i : Nat) {d : SupD} (h : xs[i]? = some d := by rfl) : d.obs K = d.val ∧ d.ok K = true := by
  have c1 : (xs.all fun d => d.ok K) = true := congrArg (fun z : AlX => z.2.1) c
  have c2 : xs.map (fun d => d.obs K) = xs.map SupD.val := congrArg (fun z : AlX => z.2.2) c
  have e2 : (xs.map fun d => d.obs K)[i]? = (xs.map SupD.val)[i]? := by rw [c2]
  rw [List.getElem?_map, List.getElem?_map, h] at e2
  exact ⟨Option.some.inj e2, List.all_eq_true.mp c1 d (List.mem_of_getElem? h)⟩
end
end SxK

set_option Elab.async false
set_option linter.all false
set_option maxRecDepth 100000
set_option maxHeartbeats 2000000
namespace Sx
open PySem PySem.Spec PyProof.Rows L2 SxA SxK
/-! ### defs and methods that may raise -/
def OkX (P : Program) (w : World) (K : PySem.W.Frag) (mg : Str → Option Value) (base : Heap) (k : Nat) (x : Str) (ps : List Str) (sp : Sp) : Prop :=
  ∃ fd, FnOk P w K mg base (L2.CX P w) k (He.ga K x) fd ps sp ∧ Binds K fd ps [] ∧ PySem.W.keepIn K (.ref (He.ga K x)) = true ∧ mg x = some (.ref (He.ga K x))
def MetX (P : Program) (w : World) (K : PySem.W.Frag) (mg : Str → Option Value) (base : Heap) (k : Nat) (C m : Str) (ps : List Str) (sp : Sp) : Prop :=
  ∃ fd, FnOk P w K mg base (L2.CX P w) k (He.ma K (He.ga K C) m) fd ps sp ∧ Binds K fd ps []
section
variable {P : Program} {w : World} {K : PySem.W.Frag} {mg : Str → Option Value} {base : Heap}
theorem mkOkX {x : Str} {st : Stmt} {N ps : List Str} {k : Nat} {sp : Sp} (d : Fd K x st) (hx : mg x = some (.ref (He.ga K x))) (S : FnScope N ps (defScope st)) (len : ∀ vs H Q E, sp vs H Q E → vs.length = ps.length)
    (bnd : ∀ (kV doc pm : Value) (an : Option Addr) (cdv ct : Value) (us : List Value), us.length = ps.length → bindArgs (PySem.W.fnOf x x (defArgs st) (defBody st) (defScope st) .none kV doc pm an cdv ct) ⟨us, []⟩ = pure (ps.zip us))
    (body : ∀ (cdv : Value) (A : Around) (outer : List Env) (s : Shared) (H0 : Hp) (vs : List V) (Q : VK) (E : XK), Room k (A.deeper (envOfC x (defScope st) s.heap.objs.size (He.ga K x) cdv)) → sp vs H0 Q E →
      ∃ t, PSs (cxOf (L2.CX P w) P w K mg base N x (defScope st) (He.ga K x) cdv A outer s H0 E) (defBody st) t ∧ t { nx := fun _ H' => Q .non H', rt := Q } (start N vs) H0) : OkX P w K mg base (k + 1) x ps sp := by
  obtain ⟨fd, F⟩ := d
  exact ⟨fd, F.ok S len body, F.bindsN bnd, F.kp, hx⟩
theorem pe_okX {X : Cx} {W : WX} {k : Nat} {x : Str} {ps : List Str} {sp : Sp} {p pos : Pos} {e : Expr} {es : List Expr} {t : TA} (o : OkX X.prog X.w X.K X.mg X.base k x ps sp) (hr : Room k X.A) (hg : Gl X x) (tk : Takes X W) (ha : PA X (e :: es) t)
    (hdb : (x == ("__debug__" : Str)) = false := by decide) (hs : starEach (e :: es) X.env = (false, eval e X.env) :: starEach es X.env := by rfl) (hpl : ((backTo pos (starEach es X.env)).any (·.1)) = false := by rfl) :
    PE X (.Call (.Name x p) (e :: es) [] pos) (tCallS sp (WE W) t) := by
  obtain ⟨fd, F, b, kp, hm⟩ := o
  exact pe_callS F hr hg hm kp b (fun σ => passAt tk σ) ha hdb hs hpl
theorem mkMetX {C m qual : Str} {st : Stmt} {N ps : List Str} {k : Nat} {sp : Sp} (d : ∃ fd, FunD K m qual (defArgs st) (defBody st) (defScope st) [] [] (He.ma K (He.ga K C) m) fd) (S : FnScope N ps (defScope st)) (len : ∀ vs H Q E, sp vs H Q E → vs.length = ps.length)
    (bnd : ∀ (kV doc pm : Value) (an : Option Addr) (cdv ct : Value) (us : List Value), us.length = ps.length → bindArgs (PySem.W.fnOf m qual (defArgs st) (defBody st) (defScope st) .none kV doc pm an cdv ct) ⟨us, []⟩ = pure (ps.zip us))
    (body : ∀ (cdv : Value) (A : Around) (outer : List Env) (s : Shared) (H0 : Hp) (vs : List V) (Q : VK) (E : XK), Room k (A.deeper (envOfC qual (defScope st) s.heap.objs.size (He.ma K (He.ga K C) m) cdv)) → sp vs H0 Q E →
      ∃ t, PSs (cxOf (L2.CX P w) P w K mg base N qual (defScope st) (He.ma K (He.ga K C) m) cdv A outer s H0 E) (defBody st) t ∧ t { nx := fun _ H' => Q .non H', rt := Q } (start N vs) H0) : MetX P w K mg base (k + 1) C m ps sp := by
  obtain ⟨fd, F⟩ := d
  exact ⟨fd, F.ok S len body, F.bindsN bnd⟩
theorem pe_metX {X : Cx} {E : XK} {k : Nat} {C m : Str} {ps : List Str} {sp : Sp} {apos pos : Pos} {o e : Expr} {es : List Expr} {ta : TE} {t : TA} {pl : Sem Bool} (M : MetX X.prog X.w X.K X.mg X.base k C m ps sp) (c : Cls X.K (He.ga X.K C)) (hm : Meth X.K (He.ga X.K C) m (He.ma X.K (He.ga X.K C) m))
    (hr : Room k X.A) (hx : Passes (L2.CX X.prog X.w) X E) (he : PE X o ta) (ha : PA X (e :: es) t)
    (hst : starEach (e :: es) X.env = (false, eval e X.env) :: starEach es X.env := by rfl) (hpl : (backTo pos (starEach es X.env)).any (·.1) = false := by rfl)
    (ht : eval (.Call (.Attribute o m apos) (e :: es) [] pos) X.env = (do
      let ov ← eval o X.env
      standAt apos.atName
      let (f, first) ← holding [ov] (getMethod ov m pl)
      callWith pos f first (backTo pos (starEach (e :: es) X.env)) (backToKw pos (keywordEach [] X.env))) := by rfl) :
    PE X (.Call (.Attribute o m apos) (e :: es) [] pos) (tMeth (He.ga X.K C) m sp [] E ta t) := by
  obtain ⟨fd, F, b⟩ := M
  exact pe_meth he c hm F hr b .nil hx ha hst hpl ht
theorem pe_metX0 {X : Cx} {E : XK} {k : Nat} {C m : Str} {ps : List Str} {sp : Sp} {apos pos : Pos} {o : Expr} {ta : TE} {pl : Sem Bool} (M : MetX X.prog X.w X.K X.mg X.base k C m ps sp) (c : Cls X.K (He.ga X.K C)) (hm : Meth X.K (He.ga X.K C) m (He.ma X.K (He.ga X.K C) m))
    (hr : Room k X.A) (hx : Passes (L2.CX X.prog X.w) X E) (he : PE X o ta)
    (ht : eval (.Call (.Attribute o m apos) [] [] pos) X.env = (do
      let ov ← eval o X.env
      standAt apos.atName
      let (f, first) ← holding [ov] (getMethod ov m pl)
      callWith pos f first (backTo pos (starEach [] X.env)) (backToKw pos (keywordEach [] X.env))) := by rfl) :
    PE X (.Call (.Attribute o m apos) [] [] pos) (tMeth (He.ga X.K C) m sp [] E ta tNil) := by
  obtain ⟨fd, F, b⟩ := M
  exact pe_meth0 he c hm F hr b .nil hx ht
/-! ### an exception with one int, told by an f-string -/
def spXInt (K : PySem.W.Frag) (C f : Str) : Sp := fun vs H Q _ => ∃ (a : Addr) (l : Int), vs = [.ref a, .int l] ∧ H a = some (exo a (He.ga K C) none) ∧ (0 ≤ l ∧ l < 10 ^ 10) ∧
  ∀ H1 d, Same H H1 → H1 d = none → d ≠ a → Q .non (upd (upd H1 a (exo a (He.ga K C) (some d))) d (exd d [(f, .int l)]))
theorem lg10 {l : Int} (h0 : 0 ≤ l) (h : l < 10 ^ 10) : l.natAbs.log2 < 1920 := by
  by_cases n : l.natAbs = 0
  · rw [n]; decide
  · exact (Nat.log2_lt n).mpr (Nat.lt_of_lt_of_le (show l.natAbs < 10 ^ 10 by omega) (by decide))
/-- what such an error lets be known -/
def ErI (K : PySem.W.Frag) (C f : Str) (E : XK) (H : Hp) (l : Int) : Prop := ∀ d H', Same H H' → H' d = some (.xd [(f, .int l)]) → E (.ref (He.ga K C)) (some d) H'
theorem ErI.same {C f : Str} {E : XK} {H H2 : Hp} {l : Int} (e : ErI K C f E H l) (s : Same H H2) : ErI K C f E H2 l := fun d H' s2 h => e d H' (s.trans s2) h
theorem mk_errI {C f : Str} {H : Hp} {l : Int} {Q : XK} (hl : 0 ≤ l ∧ l < 10 ^ 10) (q : ErI K C f Q H l) :
    [V.int l].length ≤ 1000 ∧ ∀ a, H a = none → spXInt K C f (.ref a :: ([V.int l] ++ [])) (upd H a (exo a (He.ga K C) none))
      (fun v H2 => v = .non ∧ ∃ (d : Addr) (fs : List (Str × V)), H2 a = some (exo a (He.ga K C) (some d)) ∧ H2 d = some (exd d fs) ∧ H d = none ∧ Q (.ref (He.ga K C)) (some d) (upd (del H2 a) d (.xd fs))) (fun _ _ _ => False) := by
  refine ⟨(by show 1 ≤ 1000; decide), fun a ha => ⟨a, l, rfl, upd_same, hl, fun H1 d s1 hd ne => ?_⟩⟩
  have hd0 : H d = none := by
    have e := s1.free hd
    rw [upd_ne ne] at e
    exact e
  refine ⟨rfl, d, [(f, .int l)], by rw [upd_ne ne.symm]; exact upd_same, upd_same, hd0, ?_⟩
  refine q d _ (fun b o hb => ?_) upd_same
  have b1 : b ≠ d := ne_of_none hb hd0
  have b2 : b ≠ a := ne_of_none hb ha
  rw [upd_ne b1, del_ne b2, upd_ne b1, upd_ne b2]
  exact s1 b o (by rw [upd_ne b2]; exact hb)
end
end Sx

set_option Elab.async false
set_option linter.all false
set_option maxRecDepth 100000
set_option maxHeartbeats 2000000
namespace SxK
open PySem PySem.Spec PyProof.Rows L2
/-! ### the Hook with dicts of the top, too -/
abbrev TabK : Type := Str × List (Str × He.Dv)
abbrev AlXT : Type := AlX × (Bool × List (Option (List (Option (Str × Int)))))
def obsXT (fa : List He.Fa) (fn : List He.DefD) (xs : List SupD) (ts : List TabK) (K : PySem.W.Frag) : AlXT := (obsX fa fn xs K, ts.all (fun t => He.valsB K (He.ga K t.1) t.2), ts.map fun t => He.dicW K (He.ga K t.1))
def valXT (fn : List He.DefD) (xs : List SupD) (ts : List TabK) (w : World) : AlXT := (valX fn xs, true, ts.map fun t => some (He.keysIn w.params (t.2.map (·.1))))
def SaysXT (fa : List He.Fa) (fn : List He.DefD) (xs : List SupD) (ts : List TabK) (w : World) (K : PySem.W.Frag) : Prop := obsXT fa fn xs ts K = valXT fn xs ts w
def obsXTG (n : Nat) (fa : List He.Fa) (fn : List He.DefD) (xs : List SupD) (ts : List TabK) (g : Addr → Option Obj) : AlXT := obsXT fa fn xs ts (He.frG g (He.asD g n ++ [cStatics]))
def hookXT (n : Nat) (fa : List He.Fa) (fn : List He.DefD) (xs : List SupD) (ts : List TabK) : PySem.W.Hook where
  α := AlXT
  obs := fun s => obsXTG n fa fn xs ts s.heap.get?
  val := fun w => valXT fn xs ts w
  says := fun w h => ∃ K : PySem.W.Frag, K.In h ∧ SaysXT fa fn xs ts w K
  of := fun _ _ e => ⟨_, He.frG_in, e⟩
  keeps := fun _ _ _ ⟨K, hK, c⟩ k => ⟨K, PySem.W.Frag.In.keeps hK k, c⟩
theorem obsXTG_eq {n : Nat} {fa : List He.Fa} {fn : List He.DefD} {xs : List SupD} {ts : List TabK} {g : Addr → Option Obj} {s : Shared} (h : ∀ a, g a = s.heap.get? a) : obsXTG n fa fn xs ts g = (hookXT n fa fn xs ts).obs s := by
  have e : g = s.heap.get? := funext h
  rw [e] <;> rfl
section
variable {fa : List He.Fa} {fn : List He.DefD} {xs : List SupD} {ts : List TabK} {w : World} {K : PySem.W.Frag}
theorem SaysXT.x (c : SaysXT fa fn xs ts w K) : SaysX fa fn xs K := congrArg (fun z : AlXT => z.1) c
theorem SaysXT.tab (c : SaysXT fa fn xs ts w K) (i : Nat) {t : TabK} (h : ts[i]? = some t) {x : Str} {d : He.Dv} (hx : (x, d) ∈ t.2) : KDct K w (He.ga K t.1) x (d.v K) := by
  have e : ts.map (fun t => He.dicW K (He.ga K t.1)) = ts.map fun t => some (He.keysIn w.params (t.2.map (·.1))) := congrArg (fun z : AlXT => z.2.2) c
  have e1 : ts.all (fun t => He.valsB K (He.ga K t.1) t.2) = true := congrArg (fun z : AlXT => z.2.1) c
  have e2 : (ts.map (fun t => He.dicW K (He.ga K t.1)))[i]? = (ts.map fun t => some (He.keysIn w.params (t.2.map (·.1))))[i]? := by rw [e]
  rw [List.getElem?_map, List.getElem?_map, h] at e2
  obtain ⟨es, n, k⟩ := He.dicW_ok (Option.some.inj e2)
  obtain ⟨u, q1, q2⟩ := He.valsB_ok (List.all_eq_true.mp e1 t (List.mem_of_getElem? h)) hx
  exact ⟨es, n, u, k.at_, k.lit, q1, q2⟩
end
end SxK

set_option Elab.async false
set_option linter.all false
set_option maxRecDepth 100000
set_option maxHeartbeats 2000000
/-! sep.join(reversed(x)), x a list of texts -/
namespace SxA
open PySem PySem.Spec PyProof.Rows L2
section
variable {prog : Program} {w : World} {A : Around} {E : Value → Shared → Prop} {s : Shared}
theorem call_join_rev {it l : Addr} {items : Array Value} {x : Str} {t : Tok} {ys : List Str} {Q : Value → Shared → Prop} (hh : A.handled = none) (hit : s.heap.IsRevIter it l ((items.size : Int) - 1)) (hl : s.heap.IsList l items) (hne : l ≠ it) (hn : items.size ≤ sizeLine)
    (hs : ∀ acc : Array Value, ItemsOf (fun i v => items[items.size - 1 - i]? = some v) acc items.size → StrsAre acc.toList ys) (hok : (ys.map (·.length)).sum + ys.length * x.length ≤ 16777216)
    (hQ : ∀ (h' : Heap) (tk : Nat) (u : Tok), (∀ b o, b ≠ it → s.heap.get? b = some o → h'.get? b = some o) → Q (.str (Txt.join x ys) u) { s with heap := h', toks := tk }) :
    wpAny (model prog w) A (call (.builtin "str.join") [.str x t, .ref it]) Q E s := by
  have hT : s.TypeIs (.ref it) "list_reverseiterator" := hit.typeIs
  have hh1 : A.in1.in1.handled = none := hh
  refine wpAny_call (codeAny_call_builtin F.slot_str_join.plain F.entry_str_join (F.slot_str_join.check _ _ _ _ _ _ _ _ (typeIs_str _ _ _) (F.args_str_join_2 _ _) ?_))
  rw [join_tree_other]
  refine wpAny_bind (wpAny_typeOf hT ?_)
  show wpAny _ A.in1 ((pyIter (.ref it)).tryCatch _ >>= fun i2 => collect i2 >>= fun found => joinTail x found) _ _ s
  refine wpAny_bind (wpAny_tryCatch (wpAny_pyIter_revIter hit ?_))
  refine wpAny_bind (RT.collect_rev (A := A.in1) hh hit hl hne hn fun h' tk acc hk hacc => ?_)
  obtain ⟨lv, e1, e2⟩ := strsAre_values (hs acc hacc)
  rw [e1]
  have j1 : JoinOk x (lv.map (·.1)) = true := by rw [e2]; exact joinOk_of hok
  have j2 := j1
  unfold JoinOk at j2
  rw [Bool.not_eq_true'] at j2
  have g : Gives (joinTail x (strValues lv)) (joinMade x lv) := by
    have g1 := gives_joinTail x lv j2
    cases lv with
    | nil => exact g1
    | cons p r => cases r with
      | nil => exact g1
      | cons p2 r2 => exact g1
  exact g prog w A (wants Q E) _ (post_join lv ⟨joinFit_length j2, fun u k => by rw [e2]; exact hQ h' k u hk⟩)
end
def tJoinRev (K : PySem.W.Frag) (to te : TE) : TE := fun σ H Q => to σ H fun x H1 => (∃ a, x = .str a) ∧ te σ H1 fun v H2 => ∃ (a : Str) (l : Addr) (ys : List Str), x = .str a ∧ v = .ref l ∧ SqL K H2 l (ys.map V.str) ∧ (ys.map (·.length)).sum + ys.length * a.length ≤ 16777216 ∧ Q (.str (Txt.join a ys.reverse)) H2
theorem pe_joinRev {X : Cx} {o e : Expr} {to te : TE} {apos pos p2 pos2 : Pos} (hg2 : Gl X "reversed") (hm2 : X.mg "reversed" = none) (ho : PE X o to) (he : PE X e te) (hc : X.calm = true := by rfl)
    (hs : starEach [.Call (.Name "reversed" p2) [e] [] pos2] X.env = [(false, eval (.Call (.Name "reversed" p2) [e] [] pos2) X.env)] := by rfl)
    (hs2 : starEach [e] X.env = (false, eval e X.env) :: starEach [] X.env := by rfl)
    (hbase : attributeBase o "join" X.env (eval o X.env) = eval o X.env := by rfl) (hline : (apos.endLine == pos.line) = true := by rfl) :
    PE X (.Call (.Attribute o "join" apos) [.Call (.Name "reversed" p2) [e] [] pos2] [] pos) (tJoinRev X.K to te) := by
  refine ⟨fun pins s σ H Q I h => ?_⟩
  refine PySem.Call_method1 hbase hs hline (thn (ho.run pins s σ H _ I h) fun v s1 ⟨x, H1, I1, r1, q1⟩ => ?_)
  obtain ⟨⟨a, rfl⟩, q1⟩ := q1
  obtain ⟨t, rfl⟩ := _root_.id r1
  refine ⟨"str", _, F.plainAttrs_str, F.slot_str_join, F.type_str_join, typeIs_str _ _ _, (fun _ e => nomatch e), Calls.callWith_builtin rfl (Calls.evalArgs_plain (Calls.spliced_cons ?_))⟩
  refine Call_ (ld_blt I1 hg2 hm2 PyProof.Rows.boot_reversed (PyProof.Rows.callWith_type1 (args_cons (thn (he.run pins s1 σ H1 _ I1 q1) fun u s2 ⟨y, H2, I2, r2, q2⟩ => args_nil ?_) hs2) hs2 rfl))
  obtain ⟨a', l, ys, ex, rfl, hq, hz, q⟩ := q2
  cases ex
  obtain rfl : u = Value.ref l := r2
  obtain ⟨its, rv, p', hlen⟩ := I2.list hq
  refine call_reversed_list p'.isList (Calls.spliced_nil ?_)
  have k0 : ∀ b o, s2.heap.get? b = some o → (s2.heap.push (revObj l ((its.toArray.size : Int) - 1))).get? b = some o := fun b o e => Heap.get?_push_of_some _ e
  have I3 : Inv X pins σ H2 { s2 with heap := s2.heap.push (revObj l ((its.toArray.size : Int) - 1)) } := I2.kept (t' := s2.toks) k0
  obtain ⟨f0, f1, f2, f3, f4, f5⟩ := I2.fpOk (H' := H2) (b := s2.heap.objs.size) (Nat.le_refl _) (I2.hok.fresh (Nat.le_refl _))
  have hl := p'.isList
  obtain ⟨ol, hol, _⟩ := id hl
  have hne : l ≠ s2.heap.objs.size := Nat.ne_of_lt (Heap.lt_size hol)
  have hn : its.toArray.size ≤ sizeLine := by rw [List.size_toArray, ← rv.length]; exact hlen
  refine call_join_rev (ys := ys.reverse) (s := { s2 with heap := s2.heap.push (revObj l ((its.toArray.size : Int) - 1)) }) (I2.ok.hd hc) ⟨_, Heap.get?_push_size _ rfl, rfl, rfl⟩ (hl.push _) hne hn (fun acc ha => ?_) (by rw [List.map_reverse, List.sum_reverse, List.length_reverse]; exact hz) fun h' tk u hk => ?_
  · have r2 := RT.vals_rev rv ha
    rw [← List.map_reverse] at r2
    exact strs_of_vals r2
  · have I4 : Inv X pins σ H2 { s2 with heap := h', toks := tk } := I3.turned (t' := tk) (fun b o hb e => hk b o hb e) f0 f1 f3 f4 f5
    exact ⟨.str _, H2, I4, ⟨u, rfl⟩, q⟩
end SxA

set_option Elab.async false
set_option linter.all false
set_option maxRecDepth 100000
set_option maxHeartbeats 0
namespace Sx
open PySem PySem.Spec PyProof.Rows L2
/-! ### the text by places -/
def top (i : Nat) : Stmt := PySem.Challenge.pw_sixdot_k25_lines_put_together.main.body.getD i (.Pass ⟨0, 0, 0, 0⟩)
abbrev sUnreadableInit : Stmt := inClass (top 9) 0
abbrev sMarksInit : Stmt := inClass (top 18) 0
abbrev sShapeInit : Stmt := inClass (top 19) 0
abbrev sNumberWord : Stmt := top 5
abbrev sPointWord : Stmt := top 6
abbrev sCopyOfMarks : Stmt := top 20
abbrev sAreSizes : Stmt := top 21
abbrev sRowsOfMarks : Stmt := top 22
abbrev sIsMark : Stmt := top 23
abbrev sAreApart : Stmt := top 24
abbrev sAreMarks : Stmt := top 25
abbrev sUnbroken : Stmt := top 28
abbrev sIsBroken : Stmt := top 29
abbrev sCostOf : Stmt := top 30
abbrev sLawDeck : Stmt := top 32
abbrev sLawDraw : Stmt := top 33
abbrev sLawSame : Stmt := top 34
abbrev sLawShape : Stmt := top 35
abbrev sLawShaped : Stmt := top 36
abbrev sLawRow : Stmt := top 37
abbrev sLawMark : Stmt := top 38
abbrev sLawFollowing : Stmt := top 39
abbrev sLawAnyLines : Stmt := top 40
abbrev sLawUnbroken : Stmt := top 41
abbrev sLawTold : Stmt := top 42
abbrev sLawBent : Stmt := top 43
abbrev sLaw : Stmt := top 44
/-! ### the head: facts by names, the run -/
def dMarksInit : He.DefD := ⟨("Marks", some "__init__"), "__init__", "Marks.__init__", defArgs sMarksInit, defBody sMarksInit, defScope sMarksInit, [], []⟩
def dShapeInit : He.DefD := ⟨("Shape", some "__init__"), "__init__", "Shape.__init__", defArgs sShapeInit, defBody sShapeInit, defScope sShapeInit, [], []⟩
def dNumberWord : He.DefD := ⟨("number_word", none), "number_word", "number_word", defArgs sNumberWord, defBody sNumberWord, defScope sNumberWord, [], []⟩
def dPointWord : He.DefD := ⟨("point_word", none), "point_word", "point_word", defArgs sPointWord, defBody sPointWord, defScope sPointWord, [], []⟩
def dCopyOfMarks : He.DefD := ⟨("copy_of_marks", none), "copy_of_marks", "copy_of_marks", defArgs sCopyOfMarks, defBody sCopyOfMarks, defScope sCopyOfMarks, [], []⟩
def dAreSizes : He.DefD := ⟨("are_sizes", none), "are_sizes", "are_sizes", defArgs sAreSizes, defBody sAreSizes, defScope sAreSizes, [], []⟩
def dRowsOfMarks : He.DefD := ⟨("rows_of_marks", none), "rows_of_marks", "rows_of_marks", defArgs sRowsOfMarks, defBody sRowsOfMarks, defScope sRowsOfMarks, [], []⟩
def dIsMark : He.DefD := ⟨("is_mark", none), "is_mark", "is_mark", defArgs sIsMark, defBody sIsMark, defScope sIsMark, [], []⟩
def dAreApart : He.DefD := ⟨("are_apart", none), "are_apart", "are_apart", defArgs sAreApart, defBody sAreApart, defScope sAreApart, [], []⟩
def dAreMarks : He.DefD := ⟨("are_marks", none), "are_marks", "are_marks", defArgs sAreMarks, defBody sAreMarks, defScope sAreMarks, [], []⟩
def dUnbroken : He.DefD := ⟨("unbroken", none), "unbroken", "unbroken", defArgs sUnbroken, defBody sUnbroken, defScope sUnbroken, [], []⟩
def dIsBroken : He.DefD := ⟨("is_broken", none), "is_broken", "is_broken", defArgs sIsBroken, defBody sIsBroken, defScope sIsBroken, [], []⟩
def dCostOf : He.DefD := ⟨("cost_of", none), "cost_of", "cost_of", defArgs sCostOf, defBody sCostOf, defScope sCostOf, [], []⟩
def dLawDeck : He.DefD := ⟨("_law_deck", none), "_law_deck", "_law_deck", defArgs sLawDeck, defBody sLawDeck, defScope sLawDeck, [], []⟩
def dLawDraw : He.DefD := ⟨("_law_draw", none), "_law_draw", "_law_draw", defArgs sLawDraw, defBody sLawDraw, defScope sLawDraw, [], []⟩
def dLawSame : He.DefD := ⟨("_law_same", none), "_law_same", "_law_same", defArgs sLawSame, defBody sLawSame, defScope sLawSame, [], []⟩
def dLawShape : He.DefD := ⟨("_law_shape", none), "_law_shape", "_law_shape", defArgs sLawShape, defBody sLawShape, defScope sLawShape, [], []⟩
def dLawShaped : He.DefD := ⟨("_law_shaped", none), "_law_shaped", "_law_shaped", defArgs sLawShaped, defBody sLawShaped, defScope sLawShaped, [], []⟩
def dLawRow : He.DefD := ⟨("_law_row", none), "_law_row", "_law_row", defArgs sLawRow, defBody sLawRow, defScope sLawRow, [], []⟩
def dLawMark : He.DefD := ⟨("_law_mark", none), "_law_mark", "_law_mark", defArgs sLawMark, defBody sLawMark, defScope sLawMark, [], []⟩
def dLawFollowing : He.DefD := ⟨("_law_following", none), "_law_following", "_law_following", defArgs sLawFollowing, defBody sLawFollowing, defScope sLawFollowing, [], []⟩
def dLawAnyLines : He.DefD := ⟨("_law_any_lines", none), "_law_any_lines", "_law_any_lines", defArgs sLawAnyLines, defBody sLawAnyLines, defScope sLawAnyLines, [], []⟩
def dLawUnbroken : He.DefD := ⟨("_law_unbroken", none), "_law_unbroken", "_law_unbroken", defArgs sLawUnbroken, defBody sLawUnbroken, defScope sLawUnbroken, [], []⟩
def dLawTold : He.DefD := ⟨("_law_told", none), "_law_told", "_law_told", defArgs sLawTold, defBody sLawTold, defScope sLawTold, [], []⟩
def dLawBent : He.DefD := ⟨("_law_bent", none), "_law_bent", "_law_bent", defArgs sLawBent, defBody sLawBent, defScope sLawBent, [], []⟩
def dLaw : He.DefD := ⟨("law", none), "law", "law", defArgs sLaw, defBody sLaw, defScope sLaw, [], []⟩
def xUnreadable : SxK.SupD := ⟨"Unreadable", "Unreadable.__init__", defArgs sUnreadableInit, defBody sUnreadableInit, defScope sUnreadableInit, "/claim/cut.py", ["place", "reason"]⟩
def xs : List SxK.SupD := [xUnreadable]
def fn : List He.DefD := [dMarksInit, dShapeInit, dNumberWord, dPointWord, dCopyOfMarks, dAreSizes, dRowsOfMarks, dIsMark, dAreApart, dAreMarks, dUnbroken, dIsBroken, dCostOf, dLawDeck, dLawDraw, dLawSame, dLawShape, dLawShaped, dLawRow, dLawMark, dLawFollowing, dLawAnyLines, dLawUnbroken, dLawTold, dLawBent, dLaw]
def fa : List He.Fa := [.glo "number_word", .glo "point_word", .glo "copy_of_marks", .glo "are_sizes", .glo "rows_of_marks", .glo "is_mark", .glo "are_apart", .glo "are_marks", .glo "unbroken", .glo "is_broken", .glo "cost_of", .glo "_law_deck", .glo "_law_draw", .glo "_law_same", .glo "_law_shape", .glo "_law_shaped", .glo "_law_row", .glo "_law_mark", .glo "_law_following", .glo "_law_any_lines", .glo "_law_unbroken", .glo "_law_told", .glo "_law_bent", .glo "law", .free "ValueError", .free "abs", .free "all", .free "any", .free "bool", .free "divmod", .free "enumerate", .free "int", .free "isinstance", .free "len", .free "list", .free "min", .free "range", .free "reversed", .free "str", .free "sum", .free "super", .free "tuple", .int "MOST_CELL" 63, .int "PART_DIGITS" 64, .int "PART" 10000000000000000000000000000000000000000000000000000000000000000, .int "LEAST_WIDTH" 8, .int "MOST_WIDTH" 40, .int "LEAST_HEIGHT" 3, .int "MOST_HEIGHT" 30, .int "MOST_SIZE" 50, .int "MOST_MARK_CELLS" 2, .int "JOINED_COST" 50, .glo "MOST_NUMBERS", .glo "SixdotError", .glo "Unreadable", .glo "InvalidShape", .glo "Marks", .cls "Marks", .mkr "Marks", .noat "Marks" "head", .noat "Marks" "par", .noat "Marks" "depths", .noat "Marks" "note", .noat "Marks" "stop", .noat "Marks" "on", .noat "Marks" "joined", .noat "Marks" "number", .glo "Shape", .cls "Shape", .mkr "Shape", .noat "Shape" "width", .noat "Shape" "height", .noat "Shape" "size", .noat "Shape" "marks"]
def loose0 : List Str := ["MOST_CELL", "MOST_NUMBERS", "PART_DIGITS", "PART", "number_word", "point_word", "SixdotError", "Unreadable", "InvalidShape", "LEAST_WIDTH", "MOST_WIDTH", "LEAST_HEIGHT", "MOST_HEIGHT", "MOST_SIZE", "MOST_MARK_CELLS", "Marks", "Shape", "copy_of_marks", "are_sizes", "rows_of_marks", "is_mark", "are_apart", "are_marks", "JOINED_COST", "unbroken", "is_broken", "cost_of", "_law_deck", "_law_draw", "_law_same"]
def loose1 : List Str := ["_law_shape", "_law_shaped", "_law_row", "_law_mark", "_law_following", "_law_any_lines", "_law_unbroken", "_law_told", "_law_bent"]
abbrev loose : List Str := loose0 ++ loose1
abbrev R : PySem.W.OpenRow := PySem.W.OpenLaw.row PySem.Challenge.rw_sixdot_k25_lines_put_together
def ts : List SxK.TabK := [("MOST_NUMBERS", [("item", .int 3), ("note", .int 99)])]
abbrev hk : PySem.W.Hook := SxK.hookXT 5 fa fn xs ts
def ob (s : PySem.W.SharedT) : SxK.AlXT := SxK.obsXTG 5 fa fn xs ts (HandSHeadRun.getT s)
theorem ob_eq (s : PySem.W.SharedT) : ob s = hk.obs s.abs := SxK.obsXTG_eq (HandSHeadRun.getT_eq s)
abbrev RP (w : World) : Prop := HandSHeadRun.RunEq R (PySem.W.view R.prog [44]) hk ob 4000 loose w
theorem runF (w : World) : RP (w.withFollow "special-get-raises" false) := by
  intro os
  kernel_rfl
theorem runT (w : World) : RP (w.withFollow "special-get-raises" true) := by
  intro os
  kernel_rfl
theorem run (w : World) : RP w := PySem.W.byRow2 "special-get-raises" (P := RP) runF runT w
end Sx

set_option Elab.async false
set_option linter.all false
set_option maxRecDepth 100000
set_option maxHeartbeats 4000000
namespace Sx
open PySem PySem.Spec PyProof.Rows L2
/-- what stands behind the top -/
structure T (K : PySem.W.Frag) (mg : Str → Option Value) : Prop where
  c : SxK.SaysX fa fn xs K
  g : ∃ h : Heap, K.In h ∧ h.Ns mainGlobals mg
section
variable {K : PySem.W.Frag} {mg : Str → Option Value}

theorem T.g_number_word (t : T K mg) : mg "number_word" = some (.ref (He.ga K "number_word")) := by
  obtain ⟨h, X, G⟩ := t.g
  exact He.glo_ok X G (t.c.d.fact 0 (f := .glo "number_word") rfl)
theorem T.g_point_word (t : T K mg) : mg "point_word" = some (.ref (He.ga K "point_word")) := by
  obtain ⟨h, X, G⟩ := t.g
  exact He.glo_ok X G (t.c.d.fact 1 (f := .glo "point_word") rfl)
theorem T.g_copy_of_marks (t : T K mg) : mg "copy_of_marks" = some (.ref (He.ga K "copy_of_marks")) := by
  obtain ⟨h, X, G⟩ := t.g
  exact He.glo_ok X G (t.c.d.fact 2 (f := .glo "copy_of_marks") rfl)
theorem T.g_are_sizes (t : T K mg) : mg "are_sizes" = some (.ref (He.ga K "are_sizes")) := by
  obtain ⟨h, X, G⟩ := t.g
  exact He.glo_ok X G (t.c.d.fact 3 (f := .glo "are_sizes") rfl)
theorem T.g_rows_of_marks (t : T K mg) : mg "rows_of_marks" = some (.ref (He.ga K "rows_of_marks")) := by
  obtain ⟨h, X, G⟩ := t.g
  exact He.glo_ok X G (t.c.d.fact 4 (f := .glo "rows_of_marks") rfl)
theorem T.g_is_mark (t : T K mg) : mg "is_mark" = some (.ref (He.ga K "is_mark")) := by
  obtain ⟨h, X, G⟩ := t.g
  exact He.glo_ok X G (t.c.d.fact 5 (f := .glo "is_mark") rfl)
theorem T.g_are_apart (t : T K mg) : mg "are_apart" = some (.ref (He.ga K "are_apart")) := by
  obtain ⟨h, X, G⟩ := t.g
  exact He.glo_ok X G (t.c.d.fact 6 (f := .glo "are_apart") rfl)
theorem T.g_are_marks (t : T K mg) : mg "are_marks" = some (.ref (He.ga K "are_marks")) := by
  obtain ⟨h, X, G⟩ := t.g
  exact He.glo_ok X G (t.c.d.fact 7 (f := .glo "are_marks") rfl)
theorem T.g_unbroken (t : T K mg) : mg "unbroken" = some (.ref (He.ga K "unbroken")) := by
  obtain ⟨h, X, G⟩ := t.g
  exact He.glo_ok X G (t.c.d.fact 8 (f := .glo "unbroken") rfl)
theorem T.g_is_broken (t : T K mg) : mg "is_broken" = some (.ref (He.ga K "is_broken")) := by
  obtain ⟨h, X, G⟩ := t.g
  exact He.glo_ok X G (t.c.d.fact 9 (f := .glo "is_broken") rfl)
theorem T.g_cost_of (t : T K mg) : mg "cost_of" = some (.ref (He.ga K "cost_of")) := by
  obtain ⟨h, X, G⟩ := t.g
  exact He.glo_ok X G (t.c.d.fact 10 (f := .glo "cost_of") rfl)
theorem T.g_law_deck (t : T K mg) : mg "_law_deck" = some (.ref (He.ga K "_law_deck")) := by
  obtain ⟨h, X, G⟩ := t.g
  exact He.glo_ok X G (t.c.d.fact 11 (f := .glo "_law_deck") rfl)
theorem T.g_law_draw (t : T K mg) : mg "_law_draw" = some (.ref (He.ga K "_law_draw")) := by
  obtain ⟨h, X, G⟩ := t.g
  exact He.glo_ok X G (t.c.d.fact 12 (f := .glo "_law_draw") rfl)
theorem T.g_law_same (t : T K mg) : mg "_law_same" = some (.ref (He.ga K "_law_same")) := by
  obtain ⟨h, X, G⟩ := t.g
  exact He.glo_ok X G (t.c.d.fact 13 (f := .glo "_law_same") rfl)
theorem T.g_law_shape (t : T K mg) : mg "_law_shape" = some (.ref (He.ga K "_law_shape")) := by
  obtain ⟨h, X, G⟩ := t.g
  exact He.glo_ok X G (t.c.d.fact 14 (f := .glo "_law_shape") rfl)
theorem T.g_law_shaped (t : T K mg) : mg "_law_shaped" = some (.ref (He.ga K "_law_shaped")) := by
  obtain ⟨h, X, G⟩ := t.g
  exact He.glo_ok X G (t.c.d.fact 15 (f := .glo "_law_shaped") rfl)
theorem T.g_law_row (t : T K mg) : mg "_law_row" = some (.ref (He.ga K "_law_row")) := by
  obtain ⟨h, X, G⟩ := t.g
  exact He.glo_ok X G (t.c.d.fact 16 (f := .glo "_law_row") rfl)
theorem T.g_law_mark (t : T K mg) : mg "_law_mark" = some (.ref (He.ga K "_law_mark")) := by
  obtain ⟨h, X, G⟩ := t.g
  exact He.glo_ok X G (t.c.d.fact 17 (f := .glo "_law_mark") rfl)
theorem T.g_law_following (t : T K mg) : mg "_law_following" = some (.ref (He.ga K "_law_following")) := by
  obtain ⟨h, X, G⟩ := t.g
  exact He.glo_ok X G (t.c.d.fact 18 (f := .glo "_law_following") rfl)
theorem T.g_law_any_lines (t : T K mg) : mg "_law_any_lines" = some (.ref (He.ga K "_law_any_lines")) := by
  obtain ⟨h, X, G⟩ := t.g
  exact He.glo_ok X G (t.c.d.fact 19 (f := .glo "_law_any_lines") rfl)
theorem T.g_law_unbroken (t : T K mg) : mg "_law_unbroken" = some (.ref (He.ga K "_law_unbroken")) := by
  obtain ⟨h, X, G⟩ := t.g
  exact He.glo_ok X G (t.c.d.fact 20 (f := .glo "_law_unbroken") rfl)
theorem T.g_law_told (t : T K mg) : mg "_law_told" = some (.ref (He.ga K "_law_told")) := by
  obtain ⟨h, X, G⟩ := t.g
  exact He.glo_ok X G (t.c.d.fact 21 (f := .glo "_law_told") rfl)
theorem T.g_law_bent (t : T K mg) : mg "_law_bent" = some (.ref (He.ga K "_law_bent")) := by
  obtain ⟨h, X, G⟩ := t.g
  exact He.glo_ok X G (t.c.d.fact 22 (f := .glo "_law_bent") rfl)
theorem T.g_law (t : T K mg) : mg "law" = some (.ref (He.ga K "law")) := by
  obtain ⟨h, X, G⟩ := t.g
  exact He.glo_ok X G (t.c.d.fact 23 (f := .glo "law") rfl)
theorem T.f_ValueError (t : T K mg) : mg "ValueError" = none := by
  obtain ⟨h, X, G⟩ := t.g
  exact He.free_ok X G (t.c.d.fact 24 (f := .free "ValueError") rfl)
theorem T.f_abs (t : T K mg) : mg "abs" = none := by
  obtain ⟨h, X, G⟩ := t.g
  exact He.free_ok X G (t.c.d.fact 25 (f := .free "abs") rfl)
theorem T.f_all (t : T K mg) : mg "all" = none := by
  obtain ⟨h, X, G⟩ := t.g
  exact He.free_ok X G (t.c.d.fact 26 (f := .free "all") rfl)
theorem T.f_any (t : T K mg) : mg "any" = none := by
  obtain ⟨h, X, G⟩ := t.g
  exact He.free_ok X G (t.c.d.fact 27 (f := .free "any") rfl)
theorem T.f_bool (t : T K mg) : mg "bool" = none := by
  obtain ⟨h, X, G⟩ := t.g
  exact He.free_ok X G (t.c.d.fact 28 (f := .free "bool") rfl)
theorem T.f_divmod (t : T K mg) : mg "divmod" = none := by
  obtain ⟨h, X, G⟩ := t.g
  exact He.free_ok X G (t.c.d.fact 29 (f := .free "divmod") rfl)
theorem T.f_enumerate (t : T K mg) : mg "enumerate" = none := by
  obtain ⟨h, X, G⟩ := t.g
  exact He.free_ok X G (t.c.d.fact 30 (f := .free "enumerate") rfl)
theorem T.f_int (t : T K mg) : mg "int" = none := by
  obtain ⟨h, X, G⟩ := t.g
  exact He.free_ok X G (t.c.d.fact 31 (f := .free "int") rfl)
theorem T.f_isinstance (t : T K mg) : mg "isinstance" = none := by
  obtain ⟨h, X, G⟩ := t.g
  exact He.free_ok X G (t.c.d.fact 32 (f := .free "isinstance") rfl)
theorem T.f_len (t : T K mg) : mg "len" = none := by
  obtain ⟨h, X, G⟩ := t.g
  exact He.free_ok X G (t.c.d.fact 33 (f := .free "len") rfl)
theorem T.f_list (t : T K mg) : mg "list" = none := by
  obtain ⟨h, X, G⟩ := t.g
  exact He.free_ok X G (t.c.d.fact 34 (f := .free "list") rfl)
theorem T.f_min (t : T K mg) : mg "min" = none := by
  obtain ⟨h, X, G⟩ := t.g
  exact He.free_ok X G (t.c.d.fact 35 (f := .free "min") rfl)
theorem T.f_range (t : T K mg) : mg "range" = none := by
  obtain ⟨h, X, G⟩ := t.g
  exact He.free_ok X G (t.c.d.fact 36 (f := .free "range") rfl)
theorem T.f_reversed (t : T K mg) : mg "reversed" = none := by
  obtain ⟨h, X, G⟩ := t.g
  exact He.free_ok X G (t.c.d.fact 37 (f := .free "reversed") rfl)
theorem T.f_str (t : T K mg) : mg "str" = none := by
  obtain ⟨h, X, G⟩ := t.g
  exact He.free_ok X G (t.c.d.fact 38 (f := .free "str") rfl)
theorem T.f_sum (t : T K mg) : mg "sum" = none := by
  obtain ⟨h, X, G⟩ := t.g
  exact He.free_ok X G (t.c.d.fact 39 (f := .free "sum") rfl)
theorem T.f_super (t : T K mg) : mg "super" = none := by
  obtain ⟨h, X, G⟩ := t.g
  exact He.free_ok X G (t.c.d.fact 40 (f := .free "super") rfl)
theorem T.f_tuple (t : T K mg) : mg "tuple" = none := by
  obtain ⟨h, X, G⟩ := t.g
  exact He.free_ok X G (t.c.d.fact 41 (f := .free "tuple") rfl)
theorem T.i_MOST_CELL (t : T K mg) : ∃ k, mg "MOST_CELL" = some (.int 63 k) := by
  obtain ⟨h, X, G⟩ := t.g
  exact He.int_ok X G (t.c.d.fact 42 (f := .int "MOST_CELL" 63) rfl)
theorem T.i_PART_DIGITS (t : T K mg) : ∃ k, mg "PART_DIGITS" = some (.int 64 k) := by
  obtain ⟨h, X, G⟩ := t.g
  exact He.int_ok X G (t.c.d.fact 43 (f := .int "PART_DIGITS" 64) rfl)
theorem T.i_PART (t : T K mg) : ∃ k, mg "PART" = some (.int 10000000000000000000000000000000000000000000000000000000000000000 k) := by
  obtain ⟨h, X, G⟩ := t.g
  exact He.int_ok X G (t.c.d.fact 44 (f := .int "PART" 10000000000000000000000000000000000000000000000000000000000000000) rfl)
theorem T.i_LEAST_WIDTH (t : T K mg) : ∃ k, mg "LEAST_WIDTH" = some (.int 8 k) := by
  obtain ⟨h, X, G⟩ := t.g
  exact He.int_ok X G (t.c.d.fact 45 (f := .int "LEAST_WIDTH" 8) rfl)
theorem T.i_MOST_WIDTH (t : T K mg) : ∃ k, mg "MOST_WIDTH" = some (.int 40 k) := by
  obtain ⟨h, X, G⟩ := t.g
  exact He.int_ok X G (t.c.d.fact 46 (f := .int "MOST_WIDTH" 40) rfl)
theorem T.i_LEAST_HEIGHT (t : T K mg) : ∃ k, mg "LEAST_HEIGHT" = some (.int 3 k) := by
  obtain ⟨h, X, G⟩ := t.g
  exact He.int_ok X G (t.c.d.fact 47 (f := .int "LEAST_HEIGHT" 3) rfl)
theorem T.i_MOST_HEIGHT (t : T K mg) : ∃ k, mg "MOST_HEIGHT" = some (.int 30 k) := by
  obtain ⟨h, X, G⟩ := t.g
  exact He.int_ok X G (t.c.d.fact 48 (f := .int "MOST_HEIGHT" 30) rfl)
theorem T.i_MOST_SIZE (t : T K mg) : ∃ k, mg "MOST_SIZE" = some (.int 50 k) := by
  obtain ⟨h, X, G⟩ := t.g
  exact He.int_ok X G (t.c.d.fact 49 (f := .int "MOST_SIZE" 50) rfl)
theorem T.i_MOST_MARK_CELLS (t : T K mg) : ∃ k, mg "MOST_MARK_CELLS" = some (.int 2 k) := by
  obtain ⟨h, X, G⟩ := t.g
  exact He.int_ok X G (t.c.d.fact 50 (f := .int "MOST_MARK_CELLS" 2) rfl)
theorem T.i_JOINED_COST (t : T K mg) : ∃ k, mg "JOINED_COST" = some (.int 50 k) := by
  obtain ⟨h, X, G⟩ := t.g
  exact He.int_ok X G (t.c.d.fact 51 (f := .int "JOINED_COST" 50) rfl)
theorem T.g_MOST_NUMBERS (t : T K mg) : mg "MOST_NUMBERS" = some (.ref (He.ga K "MOST_NUMBERS")) := by
  obtain ⟨h, X, G⟩ := t.g
  exact He.glo_ok X G (t.c.d.fact 52 (f := .glo "MOST_NUMBERS") rfl)
theorem T.g_SixdotError (t : T K mg) : mg "SixdotError" = some (.ref (He.ga K "SixdotError")) := by
  obtain ⟨h, X, G⟩ := t.g
  exact He.glo_ok X G (t.c.d.fact 53 (f := .glo "SixdotError") rfl)
theorem T.g_Unreadable (t : T K mg) : mg "Unreadable" = some (.ref (He.ga K "Unreadable")) := by
  obtain ⟨h, X, G⟩ := t.g
  exact He.glo_ok X G (t.c.d.fact 54 (f := .glo "Unreadable") rfl)
theorem T.g_InvalidShape (t : T K mg) : mg "InvalidShape" = some (.ref (He.ga K "InvalidShape")) := by
  obtain ⟨h, X, G⟩ := t.g
  exact He.glo_ok X G (t.c.d.fact 55 (f := .glo "InvalidShape") rfl)
theorem T.g_Marks (t : T K mg) : mg "Marks" = some (.ref (He.ga K "Marks")) := by
  obtain ⟨h, X, G⟩ := t.g
  exact He.glo_ok X G (t.c.d.fact 56 (f := .glo "Marks") rfl)
theorem T.c_Marks (t : T K mg) : Cls K (He.ga K "Marks") := He.cls_ok (t.c.d.fact 57 (f := .cls "Marks") rfl)
theorem T.m_Marks (t : T K mg) : Mk K (He.ga K "Marks") (He.ma K (He.ga K "Marks") "__init__") := He.mkr_ok (t.c.d.fact 58 (f := .mkr "Marks") rfl)
theorem T.n_Marks_head (t : T K mg) : NoAttr K (He.ga K "Marks") "head" := He.noat_ok (t.c.d.fact 59 (f := .noat "Marks" "head") rfl)
theorem T.n_Marks_par (t : T K mg) : NoAttr K (He.ga K "Marks") "par" := He.noat_ok (t.c.d.fact 60 (f := .noat "Marks" "par") rfl)
theorem T.n_Marks_depths (t : T K mg) : NoAttr K (He.ga K "Marks") "depths" := He.noat_ok (t.c.d.fact 61 (f := .noat "Marks" "depths") rfl)
theorem T.n_Marks_note (t : T K mg) : NoAttr K (He.ga K "Marks") "note" := He.noat_ok (t.c.d.fact 62 (f := .noat "Marks" "note") rfl)
theorem T.n_Marks_stop (t : T K mg) : NoAttr K (He.ga K "Marks") "stop" := He.noat_ok (t.c.d.fact 63 (f := .noat "Marks" "stop") rfl)
theorem T.n_Marks_on (t : T K mg) : NoAttr K (He.ga K "Marks") "on" := He.noat_ok (t.c.d.fact 64 (f := .noat "Marks" "on") rfl)
theorem T.n_Marks_joined (t : T K mg) : NoAttr K (He.ga K "Marks") "joined" := He.noat_ok (t.c.d.fact 65 (f := .noat "Marks" "joined") rfl)
theorem T.n_Marks_number (t : T K mg) : NoAttr K (He.ga K "Marks") "number" := He.noat_ok (t.c.d.fact 66 (f := .noat "Marks" "number") rfl)
theorem T.g_Shape (t : T K mg) : mg "Shape" = some (.ref (He.ga K "Shape")) := by
  obtain ⟨h, X, G⟩ := t.g
  exact He.glo_ok X G (t.c.d.fact 67 (f := .glo "Shape") rfl)
theorem T.c_Shape (t : T K mg) : Cls K (He.ga K "Shape") := He.cls_ok (t.c.d.fact 68 (f := .cls "Shape") rfl)
theorem T.m_Shape (t : T K mg) : Mk K (He.ga K "Shape") (He.ma K (He.ga K "Shape") "__init__") := He.mkr_ok (t.c.d.fact 69 (f := .mkr "Shape") rfl)
theorem T.n_Shape_width (t : T K mg) : NoAttr K (He.ga K "Shape") "width" := He.noat_ok (t.c.d.fact 70 (f := .noat "Shape" "width") rfl)
theorem T.n_Shape_height (t : T K mg) : NoAttr K (He.ga K "Shape") "height" := He.noat_ok (t.c.d.fact 71 (f := .noat "Shape" "height") rfl)
theorem T.n_Shape_size (t : T K mg) : NoAttr K (He.ga K "Shape") "size" := He.noat_ok (t.c.d.fact 72 (f := .noat "Shape" "size") rfl)
theorem T.n_Shape_marks (t : T K mg) : NoAttr K (He.ga K "Shape") "marks" := He.noat_ok (t.c.d.fact 73 (f := .noat "Shape" "marks") rfl)
theorem T.d_Marks_init (t : T K mg) : ∃ fd, FunD K "__init__" "Marks.__init__" (defArgs sMarksInit) (defBody sMarksInit) (defScope sMarksInit) [] [] (He.ma K (He.ga K "Marks") "__init__") fd := t.c.d.def_ 0 (d := dMarksInit) rfl
theorem T.d_Shape_init (t : T K mg) : ∃ fd, FunD K "__init__" "Shape.__init__" (defArgs sShapeInit) (defBody sShapeInit) (defScope sShapeInit) [] [] (He.ma K (He.ga K "Shape") "__init__") fd := t.c.d.def_ 1 (d := dShapeInit) rfl
theorem T.d_number_word (t : T K mg) : Fd K "number_word" sNumberWord := t.c.d.def_ 2 (d := dNumberWord) rfl
theorem T.d_point_word (t : T K mg) : Fd K "point_word" sPointWord := t.c.d.def_ 3 (d := dPointWord) rfl
theorem T.d_copy_of_marks (t : T K mg) : Fd K "copy_of_marks" sCopyOfMarks := t.c.d.def_ 4 (d := dCopyOfMarks) rfl
theorem T.d_are_sizes (t : T K mg) : Fd K "are_sizes" sAreSizes := t.c.d.def_ 5 (d := dAreSizes) rfl
theorem T.d_rows_of_marks (t : T K mg) : Fd K "rows_of_marks" sRowsOfMarks := t.c.d.def_ 6 (d := dRowsOfMarks) rfl
theorem T.d_is_mark (t : T K mg) : Fd K "is_mark" sIsMark := t.c.d.def_ 7 (d := dIsMark) rfl
theorem T.d_are_apart (t : T K mg) : Fd K "are_apart" sAreApart := t.c.d.def_ 8 (d := dAreApart) rfl
theorem T.d_are_marks (t : T K mg) : Fd K "are_marks" sAreMarks := t.c.d.def_ 9 (d := dAreMarks) rfl
theorem T.d_unbroken (t : T K mg) : Fd K "unbroken" sUnbroken := t.c.d.def_ 10 (d := dUnbroken) rfl
theorem T.d_is_broken (t : T K mg) : Fd K "is_broken" sIsBroken := t.c.d.def_ 11 (d := dIsBroken) rfl
theorem T.d_cost_of (t : T K mg) : Fd K "cost_of" sCostOf := t.c.d.def_ 12 (d := dCostOf) rfl
theorem T.d_law_deck (t : T K mg) : Fd K "_law_deck" sLawDeck := t.c.d.def_ 13 (d := dLawDeck) rfl
theorem T.d_law_draw (t : T K mg) : Fd K "_law_draw" sLawDraw := t.c.d.def_ 14 (d := dLawDraw) rfl
theorem T.d_law_same (t : T K mg) : Fd K "_law_same" sLawSame := t.c.d.def_ 15 (d := dLawSame) rfl
theorem T.d_law_shape (t : T K mg) : Fd K "_law_shape" sLawShape := t.c.d.def_ 16 (d := dLawShape) rfl
theorem T.d_law_shaped (t : T K mg) : Fd K "_law_shaped" sLawShaped := t.c.d.def_ 17 (d := dLawShaped) rfl
theorem T.d_law_row (t : T K mg) : Fd K "_law_row" sLawRow := t.c.d.def_ 18 (d := dLawRow) rfl
theorem T.d_law_mark (t : T K mg) : Fd K "_law_mark" sLawMark := t.c.d.def_ 19 (d := dLawMark) rfl
theorem T.d_law_following (t : T K mg) : Fd K "_law_following" sLawFollowing := t.c.d.def_ 20 (d := dLawFollowing) rfl
theorem T.d_law_any_lines (t : T K mg) : Fd K "_law_any_lines" sLawAnyLines := t.c.d.def_ 21 (d := dLawAnyLines) rfl
theorem T.d_law_unbroken (t : T K mg) : Fd K "_law_unbroken" sLawUnbroken := t.c.d.def_ 22 (d := dLawUnbroken) rfl
theorem T.d_law_told (t : T K mg) : Fd K "_law_told" sLawTold := t.c.d.def_ 23 (d := dLawTold) rfl
theorem T.d_law_bent (t : T K mg) : Fd K "_law_bent" sLawBent := t.c.d.def_ 24 (d := dLawBent) rfl
theorem T.d_law (t : T K mg) : Fd K "law" sLaw := t.c.d.def_ 25 (d := dLaw) rfl
theorem T.e_Unreadable (t : T K mg) {P : Program} (hf : P.main.file = xUnreadable.file) (ht : (P.main.scope.names.lookup ("super" : Str)).isSome = false) : SxK.ErrC P K mg xUnreadable := by
  obtain ⟨h, X, G⟩ := t.g
  exact SxK.SupD.err X G (t.c.sup 0 (d := xUnreadable) rfl).1 (t.c.sup 0 (d := xUnreadable) rfl).2 hf ht
end
end Sx

set_option Elab.async false
set_option linter.all false
set_option maxRecDepth 100000
set_option maxHeartbeats 2000000
namespace Sx
open PySem PySem.Spec PyProof.Rows L2 SxA SxK
/-! ### the digits of a number of at most ten -/
def spNumberWord : Sp := fun vs H Q _ => ∃ (n : Int), vs = [.int n] ∧ (0 ≤ n ∧ n < 10 ^ 10) ∧ ∀ H', Same H H' → Q (.str (Str.ofString (toString n))) H'
theorem nw_log {l : Int} (h0 : 0 ≤ l) (h : l < 10 ^ 10) : l.natAbs.log2 < 1920 := by
  by_cases n : l.natAbs = 0
  · rw [n]; decide
  · exact (Nat.log2_lt n).mpr (Nat.lt_of_lt_of_le (show l.natAbs < 10 ^ 10 by omega) (by decide))
section
variable {P : Program} {w : World} {K : PySem.W.Frag} {mg : Str → Option Value} {base : Heap}
abbrev nsNumberWord : List Str := ["number", "parts", "rest", "part"]
theorem scNumberWord : FnScope nsNumberWord ["number"] (defScope sNumberWord) := ⟨rfl, rfl, rfl, by decide +kernel, rfl, by decide +kernel, by decide +kernel⟩
theorem ok_number_word (t : T K mg) : Ok P w K mg base 1 "number_word" ["number"] spNumberWord := by
  refine mkOk t.d_number_word t.g_number_word scNumberWord (fun vs H Q E h => ?_) (fun _ _ _ _ _ _ us hl => match us, hl with | [_], _ => rfl) fun cdv A outer s H vs Q E hr h => ?_
  · obtain ⟨n, rfl, _⟩ := h; rfl
  obtain ⟨n, rfl, hn, k⟩ := h
  obtain ⟨kP, iP⟩ := t.i_PART
  obtain ⟨kD, iD⟩ := t.i_PART_DIGITS
  refine ⟨_, pss_cons (ps_set (i := 1) scNumberWord.nd rfl (Or.inl rfl) (pe_lst pa_nil))
    (pss_cons (ps_set (i := 2) scNumberWord.nd rfl (Or.inl rfl) (pe_callB call_abs rfl t.f_abs (by decide +kernel) (pa_cons (pv 0) pa_nil)))
    (pss_cons (ps_while PassesOwn.never (pt_cmpR op_ge (pv 2) (pgi rfl iP) (nomark _))
      (pss_cons (ps_asg (pe_callB call_divmod rfl t.f_divmod (by decide +kernel) (pa_cons (pv 2) (pa_cons (pgi rfl iP) pa_nil))) (pg_tup rfl (pgs_cons (pg_name (i := 2) scNumberWord.nd rfl (Or.inl rfl)) (pgs_cons (pg_name (i := 3) scNumberWord.nd rfl (Or.inl rfl)) pgs_nil))))
    (pss_one (ps_expr (pe_bm PySem.F.plainAttrs_list PySem.F.slot_list_append PySem.F.type_list_append mt_append (pv 1) (pa_cons (pe_bm PySem.F.plainAttrs_str PySem.F.slot_str_zfill PySem.F.type_str_zfill mt_zfill (pe_callTy call_str_int rfl t.f_str (by decide +kernel) (pa_cons (pv 3) pa_nil)) (pa_cons (pgi rfl iD) pa_nil)) pa_nil))))))
    (pss_cons (ps_expr (pe_bm PySem.F.plainAttrs_list PySem.F.slot_list_append PySem.F.type_list_append mt_append (pv 1) (pa_cons (pe_callTy call_str_int rfl t.f_str (by decide +kernel) (pa_cons (pv 2) pa_nil)) pa_nil)))
    (pss_cons (ps_if (pt_cmpR op_lt (pv 0) pe_int (nomark _))
      (pss_one (ps_expr (pe_bm PySem.F.plainAttrs_list PySem.F.slot_list_append PySem.F.type_list_append mt_append (pv 1) (pa_cons pe_str pa_nil))))
      pss_nil)
    (pss_one (ps_ret (pe_joinRev rfl t.f_reversed pe_str (pv 1)))))))), ?_⟩
  have l10 : n.natAbs.log2 < 1920 := nw_log hn.1 hn.2
  have tl : (Str.ofString (toString n)).length ≤ 10 := toString_length_le hn.1 (by decide) hn.2
  refine ⟨(by show 0 ≤ sizeLine; decide), fun D hD => ?_⟩
  refine ⟨_, rfl, n, rfl, ?_⟩
  rw [if_neg (show ¬ n < 0 by omega)]
  refine ⟨fun μ σ' H' => σ' = [some (.int n), some (.ref D), some (.int n), none] ∧ H' = upd H D (.lst []), ⟨0, rfl, rfl⟩, ?_⟩
  rintro μ σ' H' ⟨rfl, rfl⟩
  refine ⟨_, rfl, _, _, rfl, rfl, _, rfl, ite2 (fun h1 => ?_) (fun h1 => ?_)⟩
  · exfalso
    have h2 : (10000000000000000000000000000000000000000000000000000000000000000 : Int) ≤ n := of_decide_eq_true h1
    omega
  refine ⟨_, rfl, .inl ⟨rfl, _, SqL.of upd_same⟩, _, rfl, n, rfl, l10, D, _, _, rfl, rfl, upd_same, (by show 0 < sizeLine; decide), ?_⟩
  refine ⟨_, rfl, _, _, rfl, rfl, _, rfl, ite2 (fun h2 => ?_) (fun h2 => ?_)⟩
  · exfalso
    have h3 : n < 0 := of_decide_eq_true h2
    omega
  have ej : Txt.join (Str.ofString "") [Str.ofString (toString n)] = Str.ofString (toString n) := by first | rfl | simp [Txt.join]
  refine ⟨⟨_, rfl⟩, _, rfl, _, D, [Str.ofString (toString n)], rfl, rfl, SqL.of upd_same, ?_, ?_⟩
  · show ([Str.ofString (toString n)].map (·.length)).sum + 1 * (Str.ofString "").length ≤ 16777216
    have e0 : (Str.ofString "").length = 0 := rfl
    rw [e0, List.map_cons, List.map_nil, List.sum_cons, List.sum_nil]
    omega
  · show Q (.str (Txt.join (Str.ofString "") [Str.ofString (toString n)])) _
    rw [ej]
    exact k _ (Same.put (Same.new hD) hD)
end
end Sx

set_option Elab.async false
set_option linter.all false
set_option maxRecDepth 100000
set_option maxHeartbeats 2000000
namespace Sx
open PySem PySem.Spec PyProof.Rows L2 SxA SxK
/-! ### numbers with a point between them -/
def pointS (ns : List Int) : Str := Txt.join (Str.ofString ".") (ns.map fun n => Str.ofString (toString n))
def spPointWord (K : PySem.W.Frag) : Sp := fun vs H Q _ => ∃ (p : Addr) (ns : List Int), vs = [.ref p] ∧ H p = some (.tup (ns.map V.int)) ∧ ns.length ≤ 100 ∧ (∀ n ∈ ns, 0 ≤ n ∧ n < 10 ^ 10) ∧ ∀ H', Same H H' → Q (.str (pointS ns)) H'
section
variable {P : Program} {w : World} {K : PySem.W.Frag} {mg : Str → Option Value} {base : Heap}
abbrev nsPointWord : List Str := ["numbers", "number"]
theorem scPointWord : FnScope nsPointWord ["numbers"] (defScope sPointWord) := ⟨rfl, rfl, rfl, by decide +kernel, rfl, by decide +kernel, by decide +kernel⟩
theorem ok_point_word (t : T K mg) : Ok P w K mg base 2 "point_word" ["numbers"] (spPointWord K) := by
  refine mkOk t.d_point_word t.g_point_word scPointWord (fun vs H Q E h => ?_) (fun _ _ _ _ _ _ us hl => match us, hl with | [_], _ => rfl) fun cdv A outer s H vs Q E hr h => ?_
  · obtain ⟨p, ns, rfl, _⟩ := h; rfl
  obtain ⟨p, ns, rfl, hp, nl, hn, k⟩ := h
  refine ⟨_, pss_one (ps_ret (pe_join pe_str (pe_lc (own := [("number", 1)]) (g := gName 1) (tt := tYes) rfl scPointWord.nd (pi_tup (pv 0)) (blkOk_by (own := [("number", 1)]) (N := nsPointWord) (sc := defScope sPointWord) (by decide +kernel)) (fun _ _ _ _ _ => pg_name (i := 1) scPointWord.nd rfl (Or.inl rfl)) (fun _ _ _ _ _ => pts_nil) (fun _ _ _ _ _ => (pe_ok (ok_number_word t) hr rfl (pa_cons (pv 1) pa_nil)))))), ?_⟩
  refine ⟨⟨_, rfl⟩, ?_⟩
  refine ⟨_, rfl, p, rfl, ⟨_, SqT.of hp⟩, fun D hD => ?_⟩
  have lm : (ns.map V.int).length = ns.length := List.length_map ..
  refine lc_tup (K := K) (a := p) (xs := ns.map V.int) (g := gName 1) (fun i H' => H' D = some (.lst (((ns.take i).map fun n => Str.ofString (toString n)).map V.str)) ∧ Same H H') ⟨upd_same, Same.new hD⟩ (fun i H5 _ z => SqT.of (z.2 _ _ hp)) ?_ ?_
  · rintro i x H' hx ⟨hD', s1⟩
    obtain ⟨n, hn1, rfl⟩ : ∃ n, ns[i]? = some n ∧ x = V.int n := by
      rw [List.getElem?_map] at hx
      cases z : ns[i]? with
      | none => rw [z] at hx; cases hx
      | some y => rw [z] at hx; exact ⟨y, rfl, (Option.some.inj hx).symm⟩
    refine ⟨rfl, ?_⟩
    refine ⟨_, rfl, n, rfl, hn n (List.mem_of_getElem? hn1), fun H2 s2 => ⟨_, s2 _ _ hD', ?_, ?_, Same.put (s1.trans s2) hD⟩⟩
    · rw [List.length_map, List.length_map, List.length_take]
      exact Nat.lt_of_le_of_lt (show _ ≤ 100 by omega) (by decide)
    · rw [upd_same, List.take_add_one, hn1]
      simp
  · rintro H' ⟨hD', s1⟩
    rw [lm, List.take_length] at hD'
    have ls : ∀ l : List Int, (∀ n ∈ l, 0 ≤ n ∧ n < 10 ^ 10) → ((l.map fun n => Str.ofString (toString n)).map (·.length)).sum ≤ 10 * l.length := fun l => by
      induction l with
      | nil => intro _; exact Nat.le_refl _
      | cons a l ih =>
        intro h
        have h1 := ih fun n hn => h n (.tail _ hn)
        have h2 := h a (.head _)
        have h3 : (Str.ofString (toString a)).length ≤ 10 := toString_length_le h2.1 (by decide) h2.2
        rw [List.map_cons, List.map_cons, List.sum_cons, List.length_cons]
        omega
    have l1 := ls ns hn
    have e1 : (Str.ofString ".").length = 1 := by decide +kernel
    refine ⟨_, D, _, rfl, rfl, .inl (SqL.of hD'), ?_, k H' s1⟩
    rw [e1, List.length_map]
    omega
end
end Sx

set_option Elab.async false
set_option linter.all false
set_option maxRecDepth 100000
set_option maxHeartbeats 1000000
namespace Sx
open PySem PySem.Spec PyProof.Rows L2 SxA
/-! ### a deck: [numbers, place, rest, seed] -/
structure Dk (H : Hp) (d l : Addr) : Prop where
  ex : ∃ (ns : List Int) (a : Nat) (b c : Int), H d = some (.lst [.ref l, .int a, .int b, .int c]) ∧ H l = some (.lst (ns.map V.int)) ∧ l ≠ d
theorem Dk.ne {H : Hp} {d l D : Addr} (h : Dk H d l) (hD : H D = none) : d ≠ D := by
  obtain ⟨ns, a, b, c, e, _⟩ := h.ex
  exact ne_of_none e hD
theorem Dk.neL {H : Hp} {d l D : Addr} (h : Dk H d l) (hD : H D = none) : l ≠ D := by
  obtain ⟨ns, a, b, c, _, e, _⟩ := h.ex
  exact ne_of_none e hD
theorem Dk.same {H H' : Hp} {d l : Addr} (h : Dk H d l) (s : Same H H') : Dk H' d l := by
  obtain ⟨ns, a, b, c, e, e2, n⟩ := h.ex
  exact ⟨ns, a, b, c, s _ _ e, s _ _ e2, n⟩
theorem Dk.upd {H : Hp} {d l D : Addr} {o : HO} (h : Dk H d l) (n1 : d ≠ D) (n2 : l ≠ D) : Dk (L2.upd H D o) d l := by
  obtain ⟨ns, a, b, c, e, e2, n⟩ := h.ex
  exact ⟨ns, a, b, c, by rw [upd_ne n1]; exact e, by rw [upd_ne n2]; exact e2, n⟩
theorem But.new {a : Addr} {H H' : Hp} {p : Addr} {o : HO} (b : But a H H') (hp : H p = Option.none) : But a H (upd H' p o) := fun c u e n => by
  rw [upd_ne (ne_of_none e hp)]
  exact b c u e n
theorem But.same {a : Addr} {H H1 H2 : Hp} (b : But a H H1) (s : Same H1 H2) : But a H H2 := b.trans (But.of s)
/-- the deck with its numbers changed -/
theorem Dk.put {H H' : Hp} {d l : Addr} {ns : List Int} (hl : H l = some (.lst (ns.map V.int))) (n : l ≠ d) (b : But d H H') {a : Nat} {x y : Int} (e : H' d = some (.lst [.ref l, .int a, .int x, .int y])) : Dk H' d l := ⟨ns, a, x, y, e, b _ _ hl n, n⟩
def spDraw : Sp := fun vs H Q _ => ∃ (d l : Addr) (m : Int), vs = [.ref d, .int m] ∧ Dk H d l ∧ 0 < m ∧ m ≤ 1000 ∧ ∀ v H', 0 ≤ v → v < m → Dk H' d l → But d H H' → Q (.int v) H'
def spDeck (K : PySem.W.Frag) : Sp := fun vs H Q _ => ∃ (a : Addr) (ns : List Int), vs = [.ref a] ∧ SqL K H a (ns.map V.int) ∧ ∀ p l H', H p = none → Same H H' → Dk H' p l → Q (.ref p) H'
section
variable {P : Program} {w : World} {K : PySem.W.Frag} {mg : Str → Option Value} {base : Heap}
abbrev nsLawDeck : List Str := ["script"]
theorem scLawDeck : FnScope nsLawDeck ["script"] (defScope sLawDeck) := ⟨rfl, rfl, rfl, by decide +kernel, rfl, by decide +kernel, by decide +kernel⟩
theorem ok_law_deck (t : T K mg) : Ok P w K mg base 1 "_law_deck" ["script"] (spDeck K) := by
  refine mkOk t.d_law_deck t.g_law_deck scLawDeck (fun vs H Q E h => ?_) (fun _ _ _ _ _ _ us hl => match us, hl with | [_], _ => rfl) fun cdv A outer s H vs Q E hr h => ?_
  · obtain ⟨a, ns, rfl, _⟩ := h; rfl
  obtain ⟨a, ns, rfl, hS, k⟩ := h
  refine ⟨_, pss_one (ps_ret (pe_lst (pa_cons (pe_callTy call_list_of rfl t.f_list (by decide +kernel) (pa_cons (pv 0) pa_nil)) (pa_cons pe_int (pa_cons pe_int (pa_cons pe_int pa_nil)))))), ?_⟩
  refine ⟨_, rfl, a, _, rfl, .inl hS, fun l hl => ⟨(by show 4 ≤ sizeLine; decide), fun p hp => ?_⟩⟩
  have hp0 : H p = none := Sx.Same.none (Same.new hl) _ hp
  have nlp : l ≠ p := fun e => by rw [← e, upd_same] at hp; cases hp
  exact k p l _ hp0 (fun b o z => Same.new hp _ _ (Same.new hl _ _ z)) ⟨ns, 0, 0, 7, upd_same, by rw [upd_ne nlp]; exact upd_same, nlp⟩
abbrev nsLawDraw : List Str := ["deck", "most", "value", "cell"]
theorem scLawDraw : FnScope nsLawDraw ["deck", "most"] (defScope sLawDraw) := ⟨rfl, rfl, rfl, by decide +kernel, rfl, by decide +kernel, by decide +kernel⟩
theorem ok_law_draw (t : T K mg) : Ok P w K mg base 1 "_law_draw" ["deck", "most"] spDraw := by
  refine mkOk t.d_law_draw t.g_law_draw scLawDraw (fun vs H Q E h => ?_) (fun _ _ _ _ _ _ us hl => match us, hl with | [_, _], _ => rfl) fun cdv A outer s H vs Q E hr h => ?_
  · obtain ⟨d, l, m, rfl, _⟩ := h; rfl
  obtain ⟨d, l, m, rfl, ⟨ns, a, b, c, hd, hl, nld⟩, m0, m1, k⟩ := h
  refine ⟨_, pss_cons (ps_if (pt_cmpR op_ge (pe_ix ix_list (pv 0) pe_int (fun _ _ => rfl)) (pv 1) (nomark _))
      (pss_cons (ps_set (i := 2) scLawDraw.nd rfl (Or.inl rfl) (pe_op op_mod (pe_callTy call_int1 rfl t.f_int (by decide +kernel) (pa_cons (pe_ix ix_list (pv 0) pe_int (fun _ _ => rfl)) pa_nil)) (pv 1)))
    (pss_cons (ps_asg (pe_op op_fdiv (pe_ix ix_list (pv 0) pe_int (fun _ _ => rfl)) (pv 1)) (pg_sub (pv 0) pe_int set_list))
    (pss_one (ps_ret (pv 2)))))
      pss_nil)
    (pss_cons (ps_set (i := 3) scLawDraw.nd rfl (Or.inl rfl) pe_int)
    (C8.pss_cut (ps_if (pt_cmpR op_lt (pe_ix ix_list (pv 0) pe_int (fun _ _ => rfl)) (pe_callB call_len_seq rfl t.f_len boot_len (pa_cons (pe_ix ix_list (pv 0) pe_int (fun _ _ => rfl)) pa_nil)) (nomark _))
      (pss_one (ps_set (i := 3) scLawDraw.nd rfl (Or.inl rfl) (pe_ix ix_list (pe_ix ix_list (pv 0) pe_int (fun _ _ => rfl)) (pe_ix ix_list (pv 0) pe_int (fun _ _ => rfl)) (fun _ _ => rfl))))
      pss_nil)
    (pss_cons (ps_asg (pe_op op_add (pe_ix ix_list (pv 0) pe_int (fun _ _ => rfl)) pe_int) (pg_sub (pv 0) pe_int set_list))
    (pss_cons (ps_asg pe_int (pg_sub (pv 0) pe_int set_list))
    (pss_cons (ps_if (pt_cmpR op_ge (pv 3) (pe_op op_pow pe_int pe_int) (nomark _))
      (pss_cons (ps_asg (pe_op op_fdiv (pv 3) (pv 1)) (pg_sub (pv 0) pe_int set_list))
    (pss_one (ps_ret (pe_op op_mod (pe_callTy call_int1 rfl t.f_int (by decide +kernel) (pa_cons (pv 3) pa_nil)) (pv 1)))))
      pss_nil)
    (pss_cons (ps_asg (pe_op op_mod (pe_callTy call_int1 rfl t.f_int (by decide +kernel) (pa_cons (pe_op op_add (pe_op op_add (pe_op op_mul (pe_ix ix_list (pv 0) pe_int (fun _ _ => rfl)) pe_int) (pe_op op_mul (pv 3) pe_int)) (pe_op op_mul (pe_ix ix_list (pv 0) pe_int (fun _ _ => rfl)) pe_int)) pa_nil)) pe_int) (pg_sub (pv 0) pe_int set_list))
    (pss_cons (ps_asg (pe_op op_mod (pe_callTy call_int1 rfl t.f_int (by decide +kernel) (pa_cons (pe_op op_add (pe_op op_mul (pe_ix ix_list (pv 0) pe_int (fun _ _ => rfl)) pe_int) pe_int) pa_nil)) pe_int) (pg_sub (pv 0) pe_int set_list))
    (pss_one (ps_ret (pe_op op_mod (pe_callTy call_int1 rfl t.f_int (by decide +kernel) (pa_cons (pe_op op_fdiv (pe_ix ix_list (pv 0) pe_int (fun _ _ => rfl)) pe_int) pa_nil)) (pv 1))))))))))), ?_⟩
  have hS := SqL.of (K := K) hd
  have mle : ∀ z : Int, 0 ≤ z % m ∧ z % m < m := fun z => ⟨Int.emod_nonneg _ (by omega), Int.emod_lt_of_pos _ m0⟩
  refine ⟨_, rfl, d, _, _, .int b, rfl, rfl, hS, atI_nat (j := 2) rfl, _, rfl, _, _, rfl, rfl, _, rfl, ?_⟩
  refine ite2 (fun h1 => ?_) (fun h1 => ?_)
  · refine ⟨_, rfl, d, _, _, .int b, rfl, rfl, hS, atI_nat (j := 2) rfl, .inl ⟨_, rfl, _, rfl, _, _, rfl, rfl, m0, ?_⟩⟩
    refine ⟨_, rfl, d, _, _, .int b, rfl, rfl, hS, atI_nat (j := 2) rfl, _, rfl, _, _, rfl, rfl, ⟨m0, by omega⟩, ?_⟩
    refine ⟨_, rfl, d, _, _, 2, rfl, rfl, hd, rfl, _, rfl, ?_⟩
    exact k _ _ (mle b).1 (mle b).2 (Dk.put hl nld (But.put _ _ _) upd_same) (But.put _ _ _)
  refine ⟨fun σ2 H2 => (∃ z : Int, σ2 = [some (.ref d), some (.int m), none, some (.int z)]) ∧ H2 = H, ?_, ?_⟩
  · refine ⟨_, rfl, d, _, _, .int a, rfl, rfl, hS, atI_nat (j := 1) rfl, _, rfl, d, _, _, .ref l, rfl, rfl, hS, atI_nat (j := 0) rfl, l, _, rfl, .inl (SqL.of hl), _, _, rfl, rfl, _, rfl, ?_⟩
    refine ite2 (fun h2 => ?_) (fun h2 => ⟨⟨_, rfl⟩, rfl⟩)
    have h3 : a < ns.length := by
      have := of_decide_eq_true h2
      rw [List.length_map] at this
      omega
    refine ⟨_, rfl, d, _, _, .ref l, rfl, rfl, hS, atI_nat (j := 0) rfl, _, rfl, d, _, _, .int a, rfl, rfl, hS, atI_nat (j := 1) rfl, l, _, _, .int ns[a], rfl, rfl, SqL.of hl, atI_nat (by rw [List.getElem?_map, List.getElem?_eq_getElem h3]; rfl), ⟨_, rfl⟩, rfl⟩
  rintro σ2 H2 ⟨⟨z, rfl⟩, rfl⟩
  refine ⟨_, rfl, d, _, _, .int a, rfl, rfl, hS, atI_nat (j := 1) rfl, _, _, rfl, rfl, _, rfl, d, _, _, 1, rfl, rfl, hd, rfl, ?_⟩
  refine ⟨_, rfl, d, _, _, 2, rfl, rfl, upd_same, rfl, ?_⟩
  rw [upd_upd]
  refine ⟨_, rfl, _, _, rfl, rfl, ⟨by decide, by decide⟩, _, _, rfl, rfl, _, rfl, ?_⟩
  have b1 : ∀ o, But d H2 (upd H2 d o) := fun o => But.put _ _ _
  refine ite2 (fun h2 => ?_) (fun h2 => ?_)
  · refine ⟨_, rfl, _, rfl, _, _, rfl, rfl, ⟨m0, by omega⟩, _, rfl, d, _, _, 2, rfl, rfl, upd_same, rfl, ?_⟩
    rw [upd_upd]
    refine ⟨_, rfl, .inl ⟨_, rfl, _, rfl, _, _, rfl, rfl, m0, ?_⟩⟩
    exact k _ _ (mle z).1 (mle z).2 (Dk.put (a := a + 1) hl nld (b1 _) upd_same) (b1 _)
  refine ⟨_, rfl, d, _, _, .int c, rfl, rfl, SqL.of upd_same, atI_nat (j := 3) rfl, _, _, rfl, rfl, .inr (by decide), _, rfl, _, _, rfl, rfl, .inr (by decide), _, _, rfl, rfl, _, rfl, d, _, _, .int ((a : Int) + 1), rfl, rfl, SqL.of upd_same, atI_nat (j := 1) rfl, _, _, rfl, rfl, .inr (by decide), _, _, rfl, rfl, .inl ⟨_, rfl, ?_⟩⟩
  refine ⟨_, _, rfl, rfl, (by show (0 : Int) < 2147483647; decide), _, rfl, d, _, _, 3, rfl, rfl, upd_same, rfl, ?_⟩
  rw [upd_upd]
  refine ⟨_, rfl, d, _, _, .int _, rfl, rfl, SqL.of upd_same, atI_nat (j := 3) rfl, _, _, rfl, rfl, .inr (by decide), _, _, rfl, rfl, .inl ⟨_, rfl, ?_⟩⟩
  refine ⟨_, _, rfl, rfl, (by show (0 : Int) < 2147483647; decide), _, rfl, d, _, _, 3, rfl, rfl, upd_same, rfl, ?_⟩
  rw [upd_upd]
  refine ⟨_, rfl, d, _, _, .int _, rfl, rfl, SqL.of upd_same, atI_nat (j := 3) rfl, _, _, rfl, rfl, ⟨by decide, by decide⟩, .inl ⟨_, rfl, _, rfl, _, _, rfl, rfl, m0, ?_⟩⟩
  exact k _ _ (mle _).1 (mle _).2 (Dk.put (a := a + 1) hl nld (b1 _) upd_same) (b1 _)
end
end Sx

set_option Elab.async false
set_option linter.all false
set_option maxRecDepth 100000
set_option maxHeartbeats 1000000
namespace Sx
open PySem PySem.Spec PyProof.Rows L2 SxA
theorem sl_listK {X : Cx} {K : PySem.W.Frag} (h : X.K = K) : SlR X (rSlL K) := by
  subst h
  exact sl_list
theorem Dk.neI {H : Hp} {d l p : Addr} {zs : List Int} (h : Dk H d l) (hp : H p = some (.lst (zs.map V.int))) : p ≠ d := by
  rintro rfl
  obtain ⟨ns, a, b, c, e, _⟩ := h.ex
  rw [e] at hp
  cases zs with
  | nil => cases hp
  | cons z r => injection hp with hp; injection hp with hp; injection hp with h1 h2; cases h1
theorem Dk.neR {H : Hp} {d l p x y : Addr} {r : List V} (h : Dk H d l) (hp : H p = some (.lst (.ref x :: .ref y :: r))) : p ≠ d := by
  rintro rfl
  obtain ⟨ns, a, b, c, e, _⟩ := h.ex
  rw [e] at hp
  injection hp with hp; injection hp with hp; injection hp with h1 h2; injection h2 with h2; cases h2
/-- the row of the mark number k -/
def mR (k : Nat) (b : Bool) : List Int := if b then [40 + (k : Int), 7] else [40 + (k : Int)]
structure RowsAt (H : Hp) (R : Addr) (n : Nat) (b : Nat → Bool) (ps : List Addr) : Prop where
  at_ : H R = some (.lst (ps.map V.ref))
  len : ps.length = n
  el : ∀ j p, ps[j]? = some p → H p = some (.lst ((mR j (b j)).map V.int))
theorem RowsAt.same {H H' : Hp} {R : Addr} {n : Nat} {b : Nat → Bool} {ps : List Addr} (h : RowsAt H R n b ps) (s : Same H H') : RowsAt H' R n b ps := ⟨s _ _ h.at_, h.len, fun j p e => s _ _ (h.el j p e)⟩
theorem RowsAt.but {H H' : Hp} {R d l : Addr} {n : Nat} {b : Nat → Bool} {ps : List Addr} (h : RowsAt H R n b ps) (s : But d H H') (D : Dk H d l) (nR : R ≠ d) : RowsAt H' R n b ps := ⟨s _ _ h.at_ nR, h.len, fun j p e => s _ _ (h.el j p e) (D.neI (h.el j p e))⟩
theorem get_snoc {α : Type} {ys : List α} {n j : Nat} {y z : α} (h : ys.length = n) (e : (ys ++ [y])[j]? = some z) : (j < n ∧ ys[j]? = some z) ∨ (j = n ∧ z = y) := by
  by_cases q : j < ys.length
  · rw [List.getElem?_append_left q] at e
    exact .inl ⟨by omega, e⟩
  · rw [List.getElem?_append_right (by omega)] at e
    have : j - ys.length = 0 := by
      cases q2 : j - ys.length with
      | zero => rfl
      | succ m => rw [q2] at e; cases e
    rw [this] at e
    exact .inr ⟨by omega, (Option.some.inj e).symm⟩
theorem small1 {n : Nat} (h : n ≤ 100000) : n < sizeLine := Nat.lt_of_le_of_lt h (by decide)
theorem Dk.free {H H' : Hp} {d l p : Addr} (D' : Dk H' d l) (b : But d H H') (hp : H' p = Option.none) : H p = Option.none := by
  obtain ⟨ns, x, y, z, e, _⟩ := D'.ex
  exact Sx.But.none b e hp
def spShape : Sp := fun vs H Q _ => ∃ d l : Addr, vs = [.ref d] ∧ Dk H d l ∧ ∀ (m R : Addr) (wd : Nat) (b : Nat → Bool) (ps : List Addr) (H' : Hp), H m = Option.none → wd < 4 → H' m = some (.lst [.int (8 + (wd : Int)), .ref R]) → RowsAt H' R 10 b ps → b 8 = b 7 → Dk H' d l → But d H H' → Q (.ref m) H'
def spRow : Sp := fun vs H Q _ => ∃ (d l : Addr) (most : Int), vs = [.ref d, .int most] ∧ Dk H d l ∧ 0 < most ∧ most ≤ 1000 ∧ ∀ (p : Addr) (zs : List Int) (H' : Hp), H p = Option.none → H' p = some (.lst (zs.map V.int)) → 0 < zs.length → (zs.length : Int) ≤ most → (∀ z ∈ zs, 0 ≤ z ∧ z ≤ 7) → Dk H' d l → But d H H' → Q (.ref p) H'
section
variable {P : Program} {w : World} {K : PySem.W.Frag} {mg : Str → Option Value} {base : Heap}
abbrev nsLawRow : List Str := ["deck", "most", "k"]
theorem scLawRow : FnScope nsLawRow ["deck", "most"] (defScope sLawRow) := ⟨rfl, rfl, rfl, by decide +kernel, rfl, by decide +kernel, by decide +kernel⟩
theorem ok_law_row (t : T K mg) : Ok P w K mg base 2 "_law_row" ["deck", "most"] spRow := by
  refine mkOk t.d_law_row t.g_law_row scLawRow (fun vs H Q E h => ?_) (fun _ _ _ _ _ _ us hl => match us, hl with | [_, _], _ => rfl) fun cdv A outer s H vs Q E hr h => ?_
  · obtain ⟨d, l, most, rfl, _⟩ := h; rfl
  obtain ⟨d, l, most, rfl, hD, m0, m1, k⟩ := h
  have hr1 : Room 1 _ := hr.mono (by decide)
  refine ⟨_, pss_one (ps_ret (pe_lc (own := [("k", 2)]) (g := gName 2) (tt := tYes) rfl scLawRow.nd (pi_range1 rfl t.f_range (pa_cons (pe_op op_add pe_int (pe_ok (ok_law_draw t) hr1 rfl (pa_cons (pv 0) (pa_cons (pv 1) pa_nil)))) pa_nil)) (blkOk_by (own := [("k", 2)]) (N := nsLawRow) (sc := defScope sLawRow) (by decide +kernel)) (fun _ _ _ _ _ => pg_name (i := 2) scLawRow.nd rfl (Or.inl rfl)) (fun _ _ _ _ _ => pts_nil) (fun _ _ _ _ _ => (pe_ix (ix_listK (K := K) rfl) (pe_lst (pa_cons pe_int (pa_cons pe_int (pa_cons pe_int (pa_cons pe_int (pa_cons pe_int (pa_cons pe_int pa_nil))))))) (pe_ok (ok_law_draw t) hr1 rfl (pa_cons (pv 0) (pa_cons pe_int pa_nil))) (fun _ _ => rfl))))), ?_⟩
  refine ⟨_, rfl, _, rfl, d, l, most, rfl, hD, m0, m1, fun v H1 v0 v1 D1 B1 => ?_⟩
  refine ⟨_, _, rfl, rfl, _, rfl, by omega, by omega, fun D hN => ?_⟩
  have ndD : d ≠ D := D1.ne hN
  refine lc_range (lo := 0) (n := (1 + v).toNat) (fun i H' => (∃ zs : List Int, H' D = some (.lst (zs.map V.int)) ∧ zs.length = i ∧ ∀ z ∈ zs, 0 ≤ z ∧ z ≤ 7) ∧ Dk H' d l ∧ But d H1 H') ?_ ?_ ?_
  · exact ⟨⟨[], upd_same, rfl, fun z hz => by cases hz⟩, D1.same (Same.new hN), But.new (But.refl _ _) hN⟩
  · rintro i H' hi ⟨⟨zs, hz, zl, hzs⟩, D2, B2⟩
    refine ⟨rfl, ⟨(by show 6 ≤ sizeLine; decide), fun q hq => ?_⟩⟩
    have s1 : Same H' (upd H' q (.lst [V.int 0, V.int 0, V.int 1, V.int 2, V.int 3, V.int 7])) := Same.new hq
    refine ⟨_, rfl, d, l, 6, rfl, D2.same s1, by decide, by decide, fun u H3 u0 u1 D3 B3 => ?_⟩
    have nqd : q ≠ d := fun e => D2.ne hq e.symm
    have hq3 := B3 _ _ (upd_same (H := H')) nqd
    have hz3 := B3 _ _ (s1 _ _ hz) ndD.symm
    obtain ⟨y, hy, y0, y1⟩ : ∃ y : Int, atI [V.int 0, V.int 0, V.int 1, V.int 2, V.int 3, V.int 7] u = some (.int y) ∧ 0 ≤ y ∧ y ≤ 7 := by
      have : u = 0 ∨ u = 1 ∨ u = 2 ∨ u = 3 ∨ u = 4 ∨ u = 5 := by omega
      rcases this with rfl | rfl | rfl | rfl | rfl | rfl
      · exact ⟨0, rfl, by decide, by decide⟩
      · exact ⟨0, rfl, by decide, by decide⟩
      · exact ⟨1, rfl, by decide, by decide⟩
      · exact ⟨2, rfl, by decide, by decide⟩
      · exact ⟨3, rfl, by decide, by decide⟩
      · exact ⟨7, rfl, by decide, by decide⟩
    refine ⟨q, _, _, .int y, rfl, rfl, SqL.of hq3, hy, _, hz3, by rw [List.length_map]; exact small1 (by omega), ?_⟩
    refine ⟨⟨zs ++ [y], by rw [upd_same, List.map_append]; rfl, by rw [List.length_append, zl]; rfl, fun z hz' => ?_⟩, ?_, ?_⟩
    · rcases List.mem_append.mp hz' with h | h
      · exact hzs z h
      · rw [List.mem_singleton.mp h]; exact ⟨y0, y1⟩
    · exact D3.upd ndD (D1.neL hN)
    · intro c o e n
      rw [upd_ne (ne_of_none e hN)]
      exact B3 _ _ (s1 _ _ (B2 c o e n)) n
  · rintro H' ⟨⟨zs, hz, zl, hzs⟩, D2, B2⟩
    exact k D zs H' (D1.free B1 hN) hz (by omega) (by omega) hzs D2 (B1.trans B2)
end
end Sx

set_option Elab.async false
set_option linter.all false
set_option maxRecDepth 100000
set_option maxHeartbeats 1000000
namespace Sx
open PySem PySem.Spec PyProof.Rows L2 SxA
section
variable {P : Program} {w : World} {K : PySem.W.Frag} {mg : Str → Option Value} {base : Heap}
abbrev nsLawShape : List Str := ["deck", "width", "rows", "k"]
theorem scLawShape : FnScope nsLawShape ["deck"] (defScope sLawShape) := ⟨rfl, rfl, rfl, by decide +kernel, rfl, by decide +kernel, by decide +kernel⟩
theorem cut_mR (z : Int) (v : Int) (h0 : 0 ≤ v) (h1 : v < 2) : cutV [V.int z, V.int 7] none (some (1 + v)) = (if decide (v = 1) then [z, 7] else [z]).map V.int := by
  have : v = 0 ∨ v = 1 := by omega
  rcases this with rfl | rfl <;> rfl
theorem refs_ints {ps : List Addr} {zs : List Int} {H : Hp} {D p : Addr} (hD : H D = some (.lst (ps.map V.ref))) (hp : H p = some (.lst (zs.map V.int))) (ne : 0 < ps.length) : p ≠ D := by
  rintro rfl
  rw [hD] at hp
  injection hp with hp; injection hp with hp
  cases ps with
  | nil => exact absurd ne (Nat.lt_irrefl 0)
  | cons x r =>
    cases zs with
    | nil => cases hp
    | cons z q => injection hp with h1 h2; cases h1
theorem cut_8 (b : Bool) : cutV [V.int 48, V.int 7] none (some ((((mR 7 b).map V.int).length : Nat) : Int)) = (mR 8 b).map V.int := by
  cases b <;> rfl
theorem ok_law_shape (t : T K mg) : Ok P w K mg base 2 "_law_shape" ["deck"] spShape := by
  refine mkOk t.d_law_shape t.g_law_shape scLawShape (fun vs H Q E h => ?_) (fun _ _ _ _ _ _ us hl => match us, hl with | [_], _ => rfl) fun cdv A outer s H vs Q E hr h => ?_
  · obtain ⟨d, l, rfl, _⟩ := h; rfl
  obtain ⟨d, l, rfl, hD, k⟩ := h
  have hr1 : Room 1 _ := hr.mono (by decide)
  refine ⟨_, pss_cons (ps_set (i := 1) scLawShape.nd rfl (Or.inl rfl) (pe_op op_add pe_int (pe_ok (ok_law_draw t) hr1 rfl (pa_cons (pv 0) (pa_cons pe_int pa_nil)))))
    (pss_cons (ps_setLc (i := 2) (own := [("k", 3)]) (g := gName 3) (tt := tYes) (by rfl) scLawShape.nd rfl rfl (sw_true rfl rfl rfl (by decide +kernel)) (pi_range1 rfl t.f_range (pa_cons pe_int pa_nil)) (blkOk_by (own := [("k", 3)]) (N := nsLawShape) (sc := defScope sLawShape) (by decide +kernel)) (fun _ _ _ _ _ => pg_name (i := 3) scLawShape.nd rfl (Or.inl rfl)) (fun _ _ _ _ _ => pts_nil) (fun _ _ _ _ _ => (pe_slice (sl_listK (K := K) rfl) (pe_lst (pa_cons (pe_op op_add pe_int (pv 3)) (pa_cons pe_int pa_nil))) po_none (po_some (pe_op op_add pe_int (pe_ok (ok_law_draw t) hr1 rfl (pa_cons (pv 0) (pa_cons pe_int pa_nil))))))))
    (pss_cons (ps_asg (pe_slice sl_list (pe_lst (pa_cons pe_int (pa_cons pe_int pa_nil))) po_none (po_some (pe_callB call_len_seq rfl t.f_len boot_len (pa_cons (pe_ix ix_list (pv 2) pe_int (fun _ _ => rfl)) pa_nil)))) (pg_sub (pv 2) pe_int set_list))
    (pss_one (ps_ret (pe_lst (pa_cons (pv 1) (pa_cons (pv 2) pa_nil))))))), ?_⟩
  refine ⟨_, rfl, d, l, 4, rfl, hD, by decide, by decide, fun v H1 v0 v1 D1 B1 => ⟨_, _, rfl, rfl, ?_⟩⟩
  refine ⟨_, rfl, by omega, by omega, fun D hN => ?_⟩
  have ndD : d ≠ D := D1.ne hN
  refine lc_range (lo := 0) (n := 10) (fun i H' => (∃ ps b, RowsAt H' D i b ps) ∧ Dk H' d l ∧ But d H1 H') ?_ ?_ ?_
  · exact ⟨⟨[], fun _ => false, upd_same, rfl, fun j p e => by simp at e⟩, D1.same (Same.new hN), But.new (But.refl _ _) hN⟩
  · rintro i H' hi ⟨⟨ps, b, hR⟩, D2, B2⟩
    refine ⟨rfl, ?_⟩
    refine ⟨_, rfl, _, _, rfl, rfl, ⟨(by show 2 ≤ sizeLine; decide), fun q hq => ?_⟩⟩
    have s1 : Same H' (upd H' q (.lst [V.int (40 + (0 + (i : Int))), V.int 7])) := Same.new hq
    refine ⟨_, rfl, d, l, 2, rfl, D2.same s1, by decide, by decide, fun u H3 u0 u1 D3 B3 => ⟨_, _, rfl, rfl, _, rfl, ?_⟩⟩
    have nqd : q ≠ d := fun e => D2.ne hq e.symm
    have hq3 := B3 _ _ (upd_same (H := H')) nqd
    refine ⟨q, _, rfl, SqL.of hq3, fun p hp => ?_⟩
    rw [cut_mR _ u u0 u1]
    have hR3 := ((hR.same s1).but B3 (D2.same s1) ndD.symm).same (Same.new (o := .lst ((if decide (u = 1) then [40 + (0 + (i : Int)), 7] else [40 + (0 + (i : Int))]).map V.int)) hp)
    have npD : p ≠ D := fun e => by
      have := hR3.at_
      rw [← e, upd_same] at this
      have h2 := (B3 _ _ (s1 _ _ hR.at_) ndD.symm)
      rw [← e, hp] at h2
      cases h2
    refine ⟨_, hR3.at_, by rw [List.length_map, hR.len]; exact small1 (by omega), ⟨⟨ps ++ [p], fun j => if j = i then decide (u = 1) else b j, by rw [upd_same, List.map_append]; rfl, by rw [List.length_append, hR.len]; rfl, fun j p' e => ?_⟩, ?_, ?_⟩⟩
    · rcases get_snoc hR.len e with ⟨q1, q2⟩ | ⟨rfl, rfl⟩
      · have e1 := hR3.el j p' q2
        have n1 : p' ≠ D := refs_ints hR3.at_ e1 (by rw [hR.len]; omega)
        have n2 : ¬j = i := by omega
        rw [upd_ne n1, show (if j = i then decide (u = 1) else b j) = b j from if_neg n2]
        exact e1
      · rw [upd_ne npD, upd_same, if_pos rfl]
        show some (HO.lst ((if decide (u = 1) then [40 + (0 + (j : Int)), 7] else [40 + (0 + (j : Int))]).map V.int)) = some (.lst ((if decide (u = 1) then [40 + (j : Int), 7] else [40 + (j : Int)]).map V.int))
        rw [Int.zero_add]
    · exact (D3.same (Same.new hp)).upd ndD (D1.neL hN)
    · intro c o e n
      rw [upd_ne (ne_of_none e hN)]
      exact Same.new hp _ _ (B3 _ _ (s1 _ _ (B2 c o e n)) n)
  · rintro H2 ⟨⟨ps, b, hR⟩, D2, B2⟩
    obtain ⟨p7, e7⟩ : ∃ p7, ps[7]? = some p7 := ⟨ps[7]'(by rw [hR.len]; decide), List.getElem?_eq_getElem _⟩
    have h7 := hR.el 7 p7 e7
    refine ⟨(by show 2 ≤ sizeLine; decide), fun q hq => ?_⟩
    have s1 : Same H2 (upd H2 q (.lst [V.int 48, V.int 7])) := Same.new hq
    refine ⟨_, rfl, D, _, _, .ref p7, rfl, rfl, SqL.of (s1 _ _ hR.at_), atI_nat (j := 7) (by rw [List.getElem?_map, e7]; rfl), p7, _, rfl, .inl (SqL.of (s1 _ _ h7)), _, rfl, q, _, rfl, SqL.of upd_same, fun r hr => ?_⟩
    rw [cut_8]
    have s2 : Same H2 (upd (upd H2 q (.lst [V.int 48, V.int 7])) r (.lst ((mR 8 (b 7)).map V.int))) := fun c o z => Same.new hr _ _ (s1 _ _ z)
    have hR2 := hR.same s2
    have D3 := D2.same s2
    refine ⟨_, rfl, D, _, _, 8, rfl, rfl, hR2.at_, (by rw [List.length_map, hR.len]; rfl), _, rfl, _, rfl, (by show 2 ≤ sizeLine; decide), fun m hm => ?_⟩
    have nmD : m ≠ D := fun e => by rw [e, upd_same] at hm; cases hm
    have nrD : r ≠ D := fun e => by
      have := s1 _ _ hR.at_
      rw [← e, hr] at this; cases this
    have hm0 : H2 m = Option.none := Sx.Same.none s2 _ (by
      have := hm
      rw [upd_ne nmD] at this
      exact this)
    refine k m D v.toNat (fun j => if j = 8 then b 7 else b j) (ps.set 8 r) _ (D1.free B1 (D2.free B2 hm0)) (by omega) (by rw [upd_same, Int.toNat_of_nonneg v0]) ⟨?_, by rw [List.length_set, hR.len], fun j p e => ?_⟩ rfl ?_ ?_
    · rw [upd_ne nmD.symm, upd_same, List.map_set]
    · have nDp : p ≠ D → ∀ o, upd (upd H2 q (.lst [V.int 48, V.int 7])) r (.lst ((mR 8 (b 7)).map V.int)) p = some o → p ≠ m := fun n o ho z => by
        rw [← z, upd_ne n, ho] at hm
        cases hm
      by_cases j8 : j = 8
      · subst j8
        rw [List.getElem?_set_self (by rw [hR.len]; decide)] at e
        obtain rfl := Option.some.inj e
        rw [upd_ne (nDp nrD _ upd_same), upd_ne nrD, upd_same]
        rfl
      · rw [List.getElem?_set_ne (by omega)] at e
        have e1 := hR2.el j p e
        have n1 : p ≠ D := refs_ints hR2.at_ e1 (by rw [hR.len]; decide)
        rw [upd_ne (nDp n1 _ e1), upd_ne n1, e1]
        show _ = some (HO.lst ((mR j (if j = 8 then b 7 else b j)).map V.int))
        rw [show (if j = 8 then b 7 else b j) = b j from if_neg j8]
    · exact (D3.upd ndD (D1.neL hN)).same (Same.new hm)
    · intro c o e n
      have e1 := B1 c o e n
      refine Same.new hm _ _ ?_
      rw [upd_ne (ne_of_none e1 hN)]
      exact s2 _ _ (B2 c o e1 n)
end
end Sx

set_option Elab.async false
set_option linter.all false
set_option maxRecDepth 100000
set_option maxHeartbeats 1000000
namespace Sx
open PySem PySem.Spec PyProof.Rows L2 SxA
@[irreducible] def rTupOf (K : PySem.W.Frag) : List V → Hp → VK → Prop := fun xs H Q => ∃ p ys, xs = [V.ref p] ∧ ((SqL K H p ys ∧ ∀ l, H l = none → Q (.ref l) (upd H l (.tup ys))) ∨ (SqT K H p ys ∧ Q (.ref p) H))
theorem call_tupK {X : Cx} {K : PySem.W.Frag} (h : X.K = K) : CallR X (.type "tuple") (rTupOf K) := by
  subst h
  unfold rTupOf
  exact call_tuple_of
/-- a list or a tuple with these ints -/
def RowIn (H : Hp) (p : Addr) (L : List Int) : Prop := H p = some (.lst (L.map V.int)) ∨ H p = some (.tup (L.map V.int))
theorem RowIn.same {H H' : Hp} {p : Addr} {L : List Int} (h : RowIn H p L) (s : Same H H') : RowIn H' p L := h.imp (s _ _) (s _ _)
theorem RowIn.but {H H' : Hp} {p x C dx : Addr} {L : List Int} {fs : List (Str × V)} (h : RowIn H p L) (hx : H x = some (.ins C dx fs)) (s : But x H H') : RowIn H' p L := by
  rcases h with h | h
  · exact .inl (s _ _ h (ne_of h hx (by intro z; cases z)))
  · exact .inr (s _ _ h (ne_of h hx (by intro z; cases z)))
theorem tupOf {K : PySem.W.Frag} {H : Hp} {p : Addr} {L : List Int} {Q : VK} (h : RowIn H p L) (k : ∀ l H', Same H H' → H' l = some (.tup (L.map V.int)) → Q (.ref l) H') : rTupOf K [V.ref p] H Q := by
  unfold rTupOf
  rcases h with h | h
  · exact ⟨_, _, rfl, .inl ⟨SqL.of h, fun l hl => k l _ (Same.new hl) upd_same⟩⟩
  · exact ⟨_, _, rfl, .inr ⟨SqT.of h, k p H (fun _ _ z => z) h⟩⟩
/-- the fields of marks: the addresses of the ten rows by their numbers, of the list of those of the depths -/
def mkF (z : Nat → Addr) (dp : Addr) : List (Str × V) := [("head", .ref (z 0)), ("par", .ref (z 1)), ("depths", .ref dp), ("note", .ref (z 5)), ("stop", .ref (z 6)), ("on", .ref (z 7)), ("joined", .ref (z 8)), ("number", .ref (z 9))]
structure MkAt (K : PySem.W.Frag) (H : Hp) (x dx : Addr) (z : Nat → Addr) (dp : Addr) (b : Nat → Bool) : Prop where
  ins : H x = some (.ins (He.ga K "Marks") dx (mkF z dp))
  dep : H dp = some (.lst [.ref (z 2), .ref (z 3), .ref (z 4)])
  el : ∀ j, j < 10 → H (z j) = some (.tup ((mR j (b j)).map V.int))
theorem MkAt.same {K : PySem.W.Frag} {H H' : Hp} {x dx dp : Addr} {z : Nat → Addr} {b : Nat → Bool} (h : MkAt K H x dx z dp b) (s : Same H H') : MkAt K H' x dx z dp b := ⟨s _ _ h.ins, s _ _ h.dep, fun j q => s _ _ (h.el j q)⟩
theorem mkF_put (a0 a1 dp a5 a6 a7 a8 a9 : Addr) : putF "number" (.ref a9) (putF "joined" (.ref a8) (putF "on" (.ref a7) (putF "stop" (.ref a6) (putF "note" (.ref a5) (putF "depths" (.ref dp) (putF "par" (.ref a1) (putF "head" (.ref a0) []))))))) = ([("head", V.ref a0), ("par", .ref a1), ("depths", .ref dp), ("note", .ref a5), ("stop", .ref a6), ("on", .ref a7), ("joined", .ref a8), ("number", .ref a9)] : List (Str × V)) := by
  rw [put_new "head" _ [] (by simp)]
  rw [put_new "par" _ _ (by simp only [List.nil_append, List.cons_append, List.mem_cons, List.not_mem_nil, or_false, forall_eq_or_imp, forall_eq]; decide +kernel)]
  rw [put_new "depths" _ _ (by simp only [List.nil_append, List.cons_append, List.mem_cons, List.not_mem_nil, or_false, forall_eq_or_imp, forall_eq]; decide +kernel)]
  rw [put_new "note" _ _ (by simp only [List.nil_append, List.cons_append, List.mem_cons, List.not_mem_nil, or_false, forall_eq_or_imp, forall_eq]; decide +kernel)]
  rw [put_new "stop" _ _ (by simp only [List.nil_append, List.cons_append, List.mem_cons, List.not_mem_nil, or_false, forall_eq_or_imp, forall_eq]; decide +kernel)]
  rw [put_new "on" _ _ (by simp only [List.nil_append, List.cons_append, List.mem_cons, List.not_mem_nil, or_false, forall_eq_or_imp, forall_eq]; decide +kernel)]
  rw [put_new "joined" _ _ (by simp only [List.nil_append, List.cons_append, List.mem_cons, List.not_mem_nil, or_false, forall_eq_or_imp, forall_eq]; decide +kernel)]
  rw [put_new "number" _ _ (by simp only [List.nil_append, List.cons_append, List.mem_cons, List.not_mem_nil, or_false, forall_eq_or_imp, forall_eq]; decide +kernel)]
  rfl
def spMarksInit (K : PySem.W.Frag) : Sp := fun vs H Q _ => ∃ (x dx pd : Addr) (p : Nat → Addr) (b : Nat → Bool), vs = [.ref x, .ref (p 0), .ref (p 1), .ref pd, .ref (p 5), .ref (p 6), .ref (p 7), .ref (p 8), .ref (p 9)] ∧ H x = some (.ins (He.ga K "Marks") dx []) ∧
  H pd = some (.lst [.ref (p 2), .ref (p 3), .ref (p 4)]) ∧ (∀ j, j < 10 → RowIn H (p j) (mR j (b j))) ∧ ∀ z dp H', H dp = Option.none → MkAt K H' x dx z dp b → But x H H' → Q .non H'
section
variable {P : Program} {w : World} {K : PySem.W.Frag} {mg : Str → Option Value} {base : Heap}
abbrev nsMarksInit : List Str := ["self", "head", "par", "depths", "note", "stop", "on", "joined", "number", "row"]
theorem scMarksInit : FnScope nsMarksInit ["self", "head", "par", "depths", "note", "stop", "on", "joined", "number"] (defScope sMarksInit) := ⟨rfl, rfl, rfl, by decide +kernel, rfl, by decide +kernel, by decide +kernel⟩
theorem met_Marks_init (t : T K mg) : Met P w K mg base 1 "Marks" "__init__" ["self", "head", "par", "depths", "note", "stop", "on", "joined", "number"] (spMarksInit K) := by
  refine mkMet t.d_Marks_init scMarksInit (fun vs H Q E h => ?_) (fun _ _ _ _ _ _ us hl => match us, hl with | [_, _, _, _, _, _, _, _, _], _ => rfl) fun cdv A outer s H vs Q E hr h => ?_
  · obtain ⟨x, dx, pd, p, b, rfl, _⟩ := h; rfl
  obtain ⟨x, dx, pd, p, b, rfl, hx, hpd, hp, k⟩ := h
  refine ⟨_, pss_cons (ps_fld (pv 0) (pe_callTy (call_tupK (K := K) rfl) rfl t.f_tuple (by decide +kernel) (pa_cons (pv 1) pa_nil)) rfl)
    (pss_cons (ps_fld (pv 0) (pe_callTy (call_tupK (K := K) rfl) rfl t.f_tuple (by decide +kernel) (pa_cons (pv 2) pa_nil)) rfl)
    (pss_cons (ps_fld (pv 0) (pe_lc (own := [("row", 9)]) (g := gName 9) (tt := tYes) rfl scMarksInit.nd (pi_list (pv 3)) (blkOk_by (own := [("row", 9)]) (N := nsMarksInit) (sc := defScope sMarksInit) (by decide +kernel)) (fun _ _ _ _ _ => pg_name (i := 9) scMarksInit.nd rfl (Or.inl rfl)) (fun _ _ _ _ _ => pts_nil) (fun _ _ _ _ _ => (pe_callTy (call_tupK (K := K) rfl) rfl t.f_tuple (by decide +kernel) (pa_cons (pv 9) pa_nil)))) rfl)
    (pss_cons (ps_fld (pv 0) (pe_callTy (call_tupK (K := K) rfl) rfl t.f_tuple (by decide +kernel) (pa_cons (pv 4) pa_nil)) rfl)
    (pss_cons (ps_fld (pv 0) (pe_callTy (call_tupK (K := K) rfl) rfl t.f_tuple (by decide +kernel) (pa_cons (pv 5) pa_nil)) rfl)
    (pss_cons (ps_fld (pv 0) (pe_callTy (call_tupK (K := K) rfl) rfl t.f_tuple (by decide +kernel) (pa_cons (pv 6) pa_nil)) rfl)
    (pss_cons (ps_fld (pv 0) (pe_callTy (call_tupK (K := K) rfl) rfl t.f_tuple (by decide +kernel) (pa_cons (pv 7) pa_nil)) rfl)
    (pss_one (ps_fld (pv 0) (pe_callTy (call_tupK (K := K) rfl) rfl t.f_tuple (by decide +kernel) (pa_cons (pv 8) pa_nil)) rfl)))))))), ?_⟩
  have l0 : ([] : List (Str × V)).length ≤ 0 := Nat.le_refl _
  have step : ∀ {Ha Hb : Hp} {fs fs' : List (Str × V)} {l : Addr} {L : List Int}, Same Ha Hb → Hb l = some (.tup (L.map V.int)) → Ha x = some (.ins (He.ga K "Marks") dx fs) → But x Ha (upd Hb x (.ins (He.ga K "Marks") dx fs')) ∧ upd Hb x (.ins (He.ga K "Marks") dx fs') l = some (.tup (L.map V.int)) ∧ l ≠ x := fun {Ha Hb fs fs' l L} s e hx => by
    have n : l ≠ x := ne_of e (s _ _ hx) (by intro z; cases z)
    exact ⟨fun c o z nc => by rw [upd_ne nc]; exact s _ _ z, by rw [upd_ne n]; exact e, n⟩
  refine ⟨_, rfl, ?_⟩
  show rTupOf K [V.ref (p 0)] _ _
  refine tupOf (L := mR 0 (b 0)) (hp 0 (by decide)) fun a0 G0 t0 e0 => ⟨_, rfl, x, _, dx, _, rfl, t0 _ _ hx, t.c_Marks, t.n_Marks_head, (Nat.lt_of_le_of_lt l0 (by decide)), ?_⟩
  obtain ⟨c0, r0, n0⟩ := step (fs' := putF "head" (.ref a0) []) t0 e0 hx
  refine ⟨_, rfl, ?_⟩
  show rTupOf K [V.ref (p 1)] _ _
  refine tupOf (L := mR 1 (b 1)) ((hp 1 (by decide)).but hx c0) fun a1 G1 t1 e1 => ⟨_, rfl, x, _, dx, _, rfl, t1 _ _ upd_same, t.c_Marks, t.n_Marks_par, (Nat.lt_of_le_of_lt (len_put_lt l0) (by decide)), ?_⟩
  obtain ⟨c1, r1, n1⟩ := step (fs' := putF "par" (.ref a1) (putF "head" (.ref a0) [])) t1 e1 upd_same
  have C1 := c0.trans c1
  have ndx : pd ≠ x := ne_of hpd hx (by intro z; cases z)
  refine ⟨_, rfl, pd, rfl, ⟨_, SqL.of (C1 _ _ hpd ndx)⟩, fun D hD => ?_⟩
  have hD0 : H D = Option.none := Sx.But.none C1 upd_same hD
  refine lc_list (K := K) (a := pd) (xs := [V.ref (p 2), V.ref (p 3), V.ref (p 4)]) (g := gName 9) (fun i H' => (∃ zs : List Addr, H' D = some (.lst (zs.map V.ref)) ∧ zs.length = i ∧ ∀ j q, zs[j]? = some q → H' q = some (.tup ((mR (2 + j) (b (2 + j))).map V.int))) ∧ Same (upd G1 x (.ins (He.ga K "Marks") dx (putF "par" (.ref a1) (putF "head" (.ref a0) [])))) H') ⟨⟨[], upd_same, rfl, fun j q e => by simp at e⟩, Same.new hD⟩ (fun j H5 _ z => SqL.of (z.2 _ _ (C1 _ _ hpd ndx))) ?_ ?_
  · rintro i v H' hv ⟨⟨zs, hz, zl, hzs⟩, s1⟩
    obtain ⟨i3, rfl⟩ : i < 3 ∧ v = V.ref (p (2 + i)) := by
      match i, hv with
      | 0, hv => exact ⟨by decide, (Option.some.inj hv).symm⟩
      | 1, hv => exact ⟨by decide, (Option.some.inj hv).symm⟩
      | 2, hv => exact ⟨by decide, (Option.some.inj hv).symm⟩
      | i + 3, hv => exact absurd hv (by simp)
    refine ⟨rfl, ?_⟩
    refine ⟨_, rfl, ?_⟩
    show rTupOf K [V.ref (p (2 + i))] _ _
    refine tupOf (L := mR (2 + i) (b (2 + i))) (((hp (2 + i) (by omega)).but hx C1).same s1) fun q G s2 e2 => ?_
    have hz2 := s2 _ _ hz
    have nqD : q ≠ D := ne_of e2 hz2 (by intro z; cases z)
    refine ⟨_, hz2, by rw [List.length_map]; exact small1 (by omega), ⟨zs ++ [q], by rw [upd_same, List.map_append]; rfl, by rw [List.length_append, zl]; rfl, fun j q' e => ?_⟩, ?_⟩
    · rcases get_snoc zl e with ⟨q1, q2⟩ | ⟨rfl, rfl⟩
      · have e3 := s2 _ _ (hzs j q' q2)
        rw [upd_ne (ne_of e3 hz2 (by intro z; cases z))]
        exact e3
      · rw [upd_ne nqD]; exact e2
    · intro c o z
      rw [upd_ne (ne_of_none z hD)]
      exact s2 _ _ (s1 _ _ z)
  rintro G2 ⟨⟨zs, hz, zl, hzs⟩, s2⟩
  match zs, zl with
  | [a2, a3, a4], _ =>
  have e2 := hzs 0 a2 rfl
  have e3 := hzs 1 a3 rfl
  have e4 := hzs 2 a4 rfl
  have hx2 := s2 _ _ (upd_same (H := G1) (a := x))
  refine ⟨_, rfl, x, _, dx, _, rfl, hx2, t.c_Marks, t.n_Marks_depths, (Nat.lt_of_le_of_lt (len_put_lt (len_put_lt l0)) (by decide)), ?_⟩
  obtain ⟨c2, r2, n2⟩ := step (fs' := putF "depths" (.ref D) (putF "par" (.ref a1) (putF "head" (.ref a0) []))) s2 e2 upd_same
  obtain ⟨_, r3, n3⟩ := step (fs' := putF "depths" (.ref D) (putF "par" (.ref a1) (putF "head" (.ref a0) []))) s2 e3 upd_same
  obtain ⟨_, r4, n4⟩ := step (fs' := putF "depths" (.ref D) (putF "par" (.ref a1) (putF "head" (.ref a0) []))) s2 e4 upd_same
  have nDx : D ≠ x := ne_of hz hx2 (by intro z; cases z)
  have rD : upd G2 x (.ins (He.ga K "Marks") dx (putF "depths" (.ref D) (putF "par" (.ref a1) (putF "head" (.ref a0) [])))) D = some (.lst [.ref a2, .ref a3, .ref a4]) := by rw [upd_ne nDx]; exact hz
  have C2 := C1.trans c2
  refine ⟨_, rfl, ?_⟩
  show rTupOf K [V.ref (p 5)] _ _
  refine tupOf (L := mR 5 (b 5)) ((hp 5 (by decide)).but hx C2) fun a5 G5 t5 e5 => ⟨_, rfl, x, _, dx, _, rfl, t5 _ _ upd_same, t.c_Marks, t.n_Marks_note, (Nat.lt_of_le_of_lt (len_put_lt (len_put_lt (len_put_lt l0))) (by decide)), ?_⟩
  obtain ⟨c5, r5, n5⟩ := step (fs' := putF "note" (.ref a5) (putF "depths" (.ref D) (putF "par" (.ref a1) (putF "head" (.ref a0) [])))) t5 e5 upd_same
  have C5 := C2.trans c5
  refine ⟨_, rfl, ?_⟩
  show rTupOf K [V.ref (p 6)] _ _
  refine tupOf (L := mR 6 (b 6)) ((hp 6 (by decide)).but hx C5) fun a6 G6 t6 e6 => ⟨_, rfl, x, _, dx, _, rfl, t6 _ _ upd_same, t.c_Marks, t.n_Marks_stop, (Nat.lt_of_le_of_lt (len_put_lt (len_put_lt (len_put_lt (len_put_lt l0)))) (by decide)), ?_⟩
  obtain ⟨c6, r6, n6⟩ := step (fs' := putF "stop" (.ref a6) (putF "note" (.ref a5) (putF "depths" (.ref D) (putF "par" (.ref a1) (putF "head" (.ref a0) []))))) t6 e6 upd_same
  have C6 := C5.trans c6
  refine ⟨_, rfl, ?_⟩
  show rTupOf K [V.ref (p 7)] _ _
  refine tupOf (L := mR 7 (b 7)) ((hp 7 (by decide)).but hx C6) fun a7 G7 t7 e7 => ⟨_, rfl, x, _, dx, _, rfl, t7 _ _ upd_same, t.c_Marks, t.n_Marks_on, (Nat.lt_of_le_of_lt (len_put_lt (len_put_lt (len_put_lt (len_put_lt (len_put_lt l0))))) (by decide)), ?_⟩
  obtain ⟨c7, r7, n7⟩ := step (fs' := putF "on" (.ref a7) (putF "stop" (.ref a6) (putF "note" (.ref a5) (putF "depths" (.ref D) (putF "par" (.ref a1) (putF "head" (.ref a0) [])))))) t7 e7 upd_same
  have C7 := C6.trans c7
  refine ⟨_, rfl, ?_⟩
  show rTupOf K [V.ref (p 8)] _ _
  refine tupOf (L := mR 8 (b 8)) ((hp 8 (by decide)).but hx C7) fun a8 G8 t8 e8 => ⟨_, rfl, x, _, dx, _, rfl, t8 _ _ upd_same, t.c_Marks, t.n_Marks_joined, (Nat.lt_of_le_of_lt (len_put_lt (len_put_lt (len_put_lt (len_put_lt (len_put_lt (len_put_lt l0)))))) (by decide)), ?_⟩
  obtain ⟨c8, r8, n8⟩ := step (fs' := putF "joined" (.ref a8) (putF "on" (.ref a7) (putF "stop" (.ref a6) (putF "note" (.ref a5) (putF "depths" (.ref D) (putF "par" (.ref a1) (putF "head" (.ref a0) []))))))) t8 e8 upd_same
  have C8 := C7.trans c8
  refine ⟨_, rfl, ?_⟩
  show rTupOf K [V.ref (p 9)] _ _
  refine tupOf (L := mR 9 (b 9)) ((hp 9 (by decide)).but hx C8) fun a9 G9 t9 e9 => ⟨_, rfl, x, _, dx, _, rfl, t9 _ _ upd_same, t.c_Marks, t.n_Marks_number, (Nat.lt_of_le_of_lt (len_put_lt (len_put_lt (len_put_lt (len_put_lt (len_put_lt (len_put_lt (len_put_lt l0))))))) (by decide)), ?_⟩
  obtain ⟨c9, r9, n9⟩ := step (fs' := putF "number" (.ref a9) (putF "joined" (.ref a8) (putF "on" (.ref a7) (putF "stop" (.ref a6) (putF "note" (.ref a5) (putF "depths" (.ref D) (putF "par" (.ref a1) (putF "head" (.ref a0) [])))))))) t9 e9 upd_same
  have C9 := C8.trans c9
  refine k (fun j => [a0, a1, a2, a3, a4, a5, a6, a7, a8, a9].getD j 0) D _ hD0 ⟨?_, ?_, fun j hj => ?_⟩ C9
  · rw [upd_same, mkF_put]
    rfl
  · exact (c9 _ _ (c8 _ _ (c7 _ _ (c6 _ _ (c5 _ _ rD nDx) nDx) nDx) nDx) nDx)
  · have : j = 0 ∨ j = 1 ∨ j = 2 ∨ j = 3 ∨ j = 4 ∨ j = 5 ∨ j = 6 ∨ j = 7 ∨ j = 8 ∨ j = 9 := by omega
    rcases this with rfl | rfl | rfl | rfl | rfl | rfl | rfl | rfl | rfl | rfl
    · exact (c9 _ _ (c8 _ _ (c7 _ _ (c6 _ _ (c5 _ _ (c2 _ _ (c1 _ _ r0 n0) n0) n0) n0) n0) n0) n0)
    · exact (c9 _ _ (c8 _ _ (c7 _ _ (c6 _ _ (c5 _ _ (c2 _ _ r1 n1) n1) n1) n1) n1) n1)
    · exact (c9 _ _ (c8 _ _ (c7 _ _ (c6 _ _ (c5 _ _ r2 n2) n2) n2) n2) n2)
    · exact (c9 _ _ (c8 _ _ (c7 _ _ (c6 _ _ (c5 _ _ r3 n3) n3) n3) n3) n3)
    · exact (c9 _ _ (c8 _ _ (c7 _ _ (c6 _ _ (c5 _ _ r4 n4) n4) n4) n4) n4)
    · exact (c9 _ _ (c8 _ _ (c7 _ _ (c6 _ _ r5 n5) n5) n5) n5)
    · exact (c9 _ _ (c8 _ _ (c7 _ _ r6 n6) n6) n6)
    · exact (c9 _ _ (c8 _ _ r7 n7) n7)
    · exact (c9 _ _ r8 n8)
    · exact r9
end
end Sx

set_option Elab.async false
set_option linter.all false
set_option maxRecDepth 100000
set_option maxHeartbeats 1000000
namespace Sx
open PySem PySem.Spec PyProof.Rows L2 SxA
theorem lk0 (z : Nat → Addr) (dp : Addr) : (mkF z dp).lookup ("head" : Str) = some (.ref (z 0)) := rfl
theorem lk1 (z : Nat → Addr) (dp : Addr) : (mkF z dp).lookup ("par" : Str) = some (.ref (z 1)) := rfl
theorem lkd (z : Nat → Addr) (dp : Addr) : (mkF z dp).lookup ("depths" : Str) = some (.ref dp) := rfl
theorem lk5 (z : Nat → Addr) (dp : Addr) : (mkF z dp).lookup ("note" : Str) = some (.ref (z 5)) := rfl
theorem lk6 (z : Nat → Addr) (dp : Addr) : (mkF z dp).lookup ("stop" : Str) = some (.ref (z 6)) := rfl
theorem lk7 (z : Nat → Addr) (dp : Addr) : (mkF z dp).lookup ("on" : Str) = some (.ref (z 7)) := rfl
theorem lk8 (z : Nat → Addr) (dp : Addr) : (mkF z dp).lookup ("joined" : Str) = some (.ref (z 8)) := rfl
theorem lk9 (z : Nat → Addr) (dp : Addr) : (mkF z dp).lookup ("number" : Str) = some (.ref (z 9)) := rfl
def spCopy (K : PySem.W.Frag) : Sp := fun vs H Q _ => ∃ (x dx : Addr) (z : Nat → Addr) (dp : Addr) (b : Nat → Bool), vs = [.ref x] ∧ MkAt K H x dx z dp b ∧ ∀ y dy z' dp' H', H y = Option.none → Same H H' → MkAt K H' y dy z' dp' b → Q (.ref y) H'
def spSizes : Sp := fun vs H Q _ => ∃ w h s : Int, vs = [.int w, .int h, .int s] ∧ (8 ≤ w ∧ w ≤ 40) ∧ (3 ≤ h ∧ h ≤ 30) ∧ (1 ≤ s ∧ s ≤ 50) ∧ Q (.bl true) H
/-- the numbers of the rows in the order of rows_of_marks -/
def ordM : List Nat := [0, 1, 5, 6, 7, 8, 9, 2, 3, 4]
def spRowsOf (K : PySem.W.Frag) : Sp := fun vs H Q _ => ∃ (x dx : Addr) (z : Nat → Addr) (dp : Addr) (b : Nat → Bool), vs = [.ref x] ∧ MkAt K H x dx z dp b ∧ ∀ R H', H R = Option.none → Same H H' → H' R = some (.lst (ordM.map fun j => V.ref (z j))) → Q (.ref R) H'
def spIsMark (K : PySem.W.Frag) : Sp := fun vs H Q _ => ∃ (p : Addr) (j : Nat) (b : Bool), vs = [.ref p] ∧ j < 10 ∧ H p = some (.tup ((mR j b).map V.int)) ∧ ∀ H', Same H H' → Q (.bl true) H'
section
variable {P : Program} {w : World} {K : PySem.W.Frag} {mg : Str → Option Value} {base : Heap}
abbrev nsCopyOfMarks : List Str := ["marks"]
theorem scCopyOfMarks : FnScope nsCopyOfMarks ["marks"] (defScope sCopyOfMarks) := ⟨rfl, rfl, rfl, by decide +kernel, rfl, by decide +kernel, by decide +kernel⟩
theorem ok_copy_of_marks (t : T K mg) : Ok P w K mg base 3 "copy_of_marks" ["marks"] (spCopy K) := by
  refine mkOk t.d_copy_of_marks t.g_copy_of_marks scCopyOfMarks (fun vs H Q E h => ?_) (fun _ _ _ _ _ _ us hl => match us, hl with | [_], _ => rfl) fun cdv A outer s H vs Q E hr h => ?_
  · obtain ⟨x, dx, z, dp, b, rfl, _⟩ := h; rfl
  obtain ⟨x, dx, z, dp, b, rfl, hM, k⟩ := h
  have hr2 : Room 2 _ := hr
  refine ⟨_, pss_one (ps_ret (pe_mk (met_Marks_init t) t.m_Marks t.g_Marks hr2 rfl (pa_cons (pe_fld (pv 0) rfl) (pa_cons (pe_fld (pv 0) rfl) (pa_cons (pe_fld (pv 0) rfl) (pa_cons (pe_fld (pv 0) rfl) (pa_cons (pe_fld (pv 0) rfl) (pa_cons (pe_fld (pv 0) rfl) (pa_cons (pe_fld (pv 0) rfl) (pa_cons (pe_fld (pv 0) rfl) pa_nil)))))))))), ?_⟩
  refine ⟨_, rfl, x, _, dx, _, _, rfl, hM.ins, t.c_Marks, t.n_Marks_head, lk0 _ _, _, rfl, x, _, dx, _, _, rfl, hM.ins, t.c_Marks, t.n_Marks_par, lk1 _ _, _, rfl, x, _, dx, _, _, rfl, hM.ins, t.c_Marks, t.n_Marks_depths, lkd _ _, _, rfl, x, _, dx, _, _, rfl, hM.ins, t.c_Marks, t.n_Marks_note, lk5 _ _, ?_⟩
  refine ⟨_, rfl, x, _, dx, _, _, rfl, hM.ins, t.c_Marks, t.n_Marks_stop, lk6 _ _, _, rfl, x, _, dx, _, _, rfl, hM.ins, t.c_Marks, t.n_Marks_on, lk7 _ _, _, rfl, x, _, dx, _, _, rfl, hM.ins, t.c_Marks, t.n_Marks_joined, lk8 _ _, _, rfl, x, _, dx, _, _, rfl, hM.ins, t.c_Marks, t.n_Marks_number, lk9 _ _, fun y dy ny ndy ney => ?_⟩
  have s0 : Same H (upd (upd H dy (.own y)) y (.ins (He.ga K "Marks") dy [])) := Same.put (Same.new ndy) ny
  refine ⟨y, dy, dp, z, b, rfl, upd_same, s0 _ _ hM.dep, fun j hj => .inr (s0 _ _ (hM.el j hj)), fun z' dp' H1 _ hM' B => ⟨rfl, k y dy z' dp' H1 ny (fun c o e => B _ _ (s0 _ _ e) (ne_of_none e ny)) hM'⟩⟩
abbrev nsAreSizes : List Str := ["width", "height", "size"]
theorem scAreSizes : FnScope nsAreSizes ["width", "height", "size"] (defScope sAreSizes) := ⟨rfl, rfl, rfl, by decide +kernel, rfl, by decide +kernel, by decide +kernel⟩
theorem ok_are_sizes (t : T K mg) : Ok P w K mg base 1 "are_sizes" ["width", "height", "size"] spSizes := by
  refine mkOk t.d_are_sizes t.g_are_sizes scAreSizes (fun vs H Q E h => ?_) (fun _ _ _ _ _ _ us hl => match us, hl with | [_, _, _], _ => rfl) fun cdv A outer s H vs Q E hr h => ?_
  · obtain ⟨w, h, s, rfl, _⟩ := h; rfl
  obtain ⟨w, h, sz, rfl, hw, hh, hs, k⟩ := h
  obtain ⟨_, hk_LEAST_WIDTH⟩ := t.i_LEAST_WIDTH
  obtain ⟨_, hk_MOST_WIDTH⟩ := t.i_MOST_WIDTH
  obtain ⟨_, hk_LEAST_HEIGHT⟩ := t.i_LEAST_HEIGHT
  obtain ⟨_, hk_MOST_HEIGHT⟩ := t.i_MOST_HEIGHT
  obtain ⟨_, hk_MOST_SIZE⟩ := t.i_MOST_SIZE
  refine ⟨_, pss_one (ps_ret (pe_and (pe_chain op_le op_le (pgi rfl hk_LEAST_WIDTH) (pv 0) (pgi rfl hk_MOST_WIDTH)) (pe_and (pe_chain op_le op_le (pgi rfl hk_LEAST_HEIGHT) (pv 1) (pgi rfl hk_MOST_HEIGHT)) (pe_one (pe_chain op_le op_le pe_int (pv 2) (pgi rfl hk_MOST_SIZE)))))), ?_⟩
  refine ⟨_, rfl, _, _, rfl, rfl, _, rfl, ?_⟩
  rw [decide_eq_true hw.1]
  refine iteT ⟨_, _, rfl, rfl, _, rfl, ?_⟩
  rw [decide_eq_true hw.2]
  refine iteT ⟨_, rfl, _, _, rfl, rfl, _, rfl, ?_⟩
  rw [decide_eq_true hh.1]
  refine iteT ⟨_, _, rfl, rfl, _, rfl, ?_⟩
  rw [decide_eq_true hh.2]
  refine iteT ⟨_, rfl, _, _, rfl, rfl, _, rfl, ?_⟩
  rw [decide_eq_true hs.1]
  refine iteT ⟨_, _, rfl, rfl, ?_⟩
  show Q (.bl (decide (sz ≤ 50))) H
  rw [decide_eq_true hs.2]
  exact k
abbrev nsRowsOfMarks : List Str := ["marks", "rows"]
theorem scRowsOfMarks : FnScope nsRowsOfMarks ["marks"] (defScope sRowsOfMarks) := ⟨rfl, rfl, rfl, by decide +kernel, rfl, by decide +kernel, by decide +kernel⟩
theorem ok_rows_of_marks (t : T K mg) : Ok P w K mg base 1 "rows_of_marks" ["marks"] (spRowsOf K) := by
  refine mkOk t.d_rows_of_marks t.g_rows_of_marks scRowsOfMarks (fun vs H Q E h => ?_) (fun _ _ _ _ _ _ us hl => match us, hl with | [_], _ => rfl) fun cdv A outer s H vs Q E hr h => ?_
  · obtain ⟨x, dx, z, dp, b, rfl, _⟩ := h; rfl
  obtain ⟨x, dx, z, dp, b, rfl, hM, k⟩ := h
  refine ⟨_, pss_cons (ps_set (i := 1) scRowsOfMarks.nd rfl (Or.inl rfl) (pe_lst (pa_cons (pe_fld (pv 0) rfl) (pa_cons (pe_fld (pv 0) rfl) (pa_cons (pe_fld (pv 0) rfl) (pa_cons (pe_fld (pv 0) rfl) (pa_cons (pe_fld (pv 0) rfl) (pa_cons (pe_fld (pv 0) rfl) (pa_cons (pe_fld (pv 0) rfl) pa_nil)))))))))
    (pss_one (ps_ret (pe_op op_cat (pv 1) (pe_fld (pv 0) rfl)))), ?_⟩
  refine ⟨_, rfl, x, _, dx, _, _, rfl, hM.ins, t.c_Marks, t.n_Marks_head, lk0 _ _, _, rfl, x, _, dx, _, _, rfl, hM.ins, t.c_Marks, t.n_Marks_par, lk1 _ _, _, rfl, x, _, dx, _, _, rfl, hM.ins, t.c_Marks, t.n_Marks_note, lk5 _ _, ?_⟩
  refine ⟨_, rfl, x, _, dx, _, _, rfl, hM.ins, t.c_Marks, t.n_Marks_stop, lk6 _ _, _, rfl, x, _, dx, _, _, rfl, hM.ins, t.c_Marks, t.n_Marks_on, lk7 _ _, _, rfl, x, _, dx, _, _, rfl, hM.ins, t.c_Marks, t.n_Marks_joined, lk8 _ _, _, rfl, x, _, dx, _, _, rfl, hM.ins, t.c_Marks, t.n_Marks_number, lk9 _ _, ⟨(by show 7 ≤ sizeLine; decide), fun q hq => ?_⟩⟩
  have hM1 := hM.same (Same.new (o := .lst [V.ref (z 0), .ref (z 1), .ref (z 5), .ref (z 6), .ref (z 7), .ref (z 8), .ref (z 9)]) hq)
  refine ⟨_, rfl, _, rfl, x, _, dx, _, _, rfl, hM1.ins, t.c_Marks, t.n_Marks_depths, lkd _ _, ?_⟩
  refine ⟨q, dp, _, _, rfl, rfl, upd_same, hM1.dep, (by show 7 + 3 ≤ sizeLine; decide), fun R hR => ?_⟩
  exact k R _ (Sx.Same.none (Same.new hq) _ hR) (fun c o e => Same.new hR _ _ (Same.new hq _ _ e)) upd_same
abbrev nsIsMark : List Str := ["row", "cell"]
theorem scIsMark : FnScope nsIsMark ["row"] (defScope sIsMark) := ⟨rfl, rfl, rfl, by decide +kernel, rfl, by decide +kernel, by decide +kernel⟩
theorem ok_is_mark (t : T K mg) : Ok P w K mg base 1 "is_mark" ["row"] (spIsMark K) := by
  refine mkOk t.d_is_mark t.g_is_mark scIsMark (fun vs H Q E h => ?_) (fun _ _ _ _ _ _ us hl => match us, hl with | [_], _ => rfl) fun cdv A outer s H vs Q E hr h => ?_
  · obtain ⟨p, j, b, rfl, _⟩ := h; rfl
  obtain ⟨p, j, b, rfl, hj, hp, k⟩ := h
  obtain ⟨_, hk_MOST_MARK_CELLS⟩ := t.i_MOST_MARK_CELLS
  obtain ⟨_, hk_MOST_CELL⟩ := t.i_MOST_CELL
  refine ⟨_, pss_one (ps_ret (pe_and (pe_chain op_le op_le pe_int (pe_callB call_len_seq rfl t.f_len boot_len (pa_cons (pv 0) pa_nil)) (pgi rfl hk_MOST_MARK_CELLS)) (pe_and (pe_cmpR op_ne (pe_ix ix_tup (pv 0) pe_int (fun _ _ => rfl)) pe_int (nomark _)) (pe_one (pe_callB (cr_all rfl) rfl t.f_all (by decide +kernel) (pa_cons (pe_lc (own := [("cell", 1)]) (g := gName 1) (tt := tYes) rfl scIsMark.nd (pi_tup (pv 0)) (blkOk_by (own := [("cell", 1)]) (N := nsIsMark) (sc := defScope sIsMark) (by decide +kernel)) (fun _ _ _ _ _ => pg_name (i := 1) scIsMark.nd rfl (Or.inl rfl)) (fun _ _ _ _ _ => pts_nil) (fun _ _ _ _ _ => (pe_chain op_le op_le pe_int (pv 1) (pgi rfl hk_MOST_CELL)))) pa_nil)))))), ?_⟩
  have ln : 1 ≤ ((mR j b).map V.int).length ∧ ((mR j b).map V.int).length ≤ 2 := by cases b <;> exact ⟨by show 1 ≤ _; simp [mR], by simp [mR]⟩
  have a0 : ((mR j b).map V.int)[0]? = some (.int (40 + (j : Int))) := by cases b <;> rfl
  refine ⟨_, rfl, p, _, rfl, .inr (SqT.of hp), _, _, rfl, rfl, _, rfl, ?_⟩
  rw [decide_eq_true (show (1 : Int) ≤ ((((mR j b).map V.int).length : Nat) : Int) by omega)]
  refine iteT ⟨_, _, rfl, rfl, _, rfl, ?_⟩
  rw [decide_eq_true (show ((((mR j b).map V.int).length : Nat) : Int) ≤ 2 by omega)]
  refine iteT ⟨_, rfl, p, _, _, _, rfl, rfl, SqT.of hp, atI_nat (j := 0) a0, rfl, _, rfl, ?_⟩
  rw [show (!decide (V.int (40 + (j : Int)) = V.int 0)) = true by rw [decide_eq_false (by intro e; have := V.int.inj e; omega)]; rfl]
  refine iteT ?_
  have cellsOk : ∀ v ∈ (mR j b).map V.int, ∃ c : Int, v = .int c ∧ 0 ≤ c ∧ c ≤ 63 := fun v hv => by
    obtain ⟨c, hc, rfl⟩ := List.mem_map.mp hv
    refine ⟨c, rfl, ?_⟩
    cases b
    · have : c = 40 + (j : Int) := List.mem_singleton.mp hc
      omega
    · rcases List.mem_cons.mp hc with h | h
      · omega
      · have : c = 7 := List.mem_singleton.mp h
        omega
  refine ⟨_, rfl, p, rfl, ⟨_, SqT.of hp⟩, fun D hD => ?_⟩
  refine lc_tup (K := K) (a := p) (xs := (mR j b).map V.int) (g := gName 1) (fun i H' => H' D = some (.lst ((List.replicate i true).map V.bl)) ∧ Same H H') ⟨upd_same, Same.new hD⟩ (fun i H5 _ z => SqT.of (z.2 _ _ hp)) ?_ ?_
  · rintro i v H' hv ⟨hd, s1⟩
    obtain ⟨c, rfl, c0, c1⟩ := cellsOk v (List.mem_of_getElem? hv)
    refine ⟨rfl, ?_⟩
    refine ⟨_, rfl, _, _, rfl, rfl, _, rfl, ?_⟩
    rw [decide_eq_true c0]
    refine iteT ⟨_, _, rfl, rfl, _, hd, ?_, ?_, ?_⟩
    · rw [List.length_map, List.length_replicate]
      have := (List.getElem?_eq_some_iff.mp hv).1
      exact small1 (by omega)
    · rw [upd_same, List.replicate_succ', List.map_append]
      show some (HO.lst (_ ++ [V.bl (decide (c ≤ 63))])) = _
      rw [decide_eq_true c1]
      rfl
    · exact fun c o e => by rw [upd_ne (ne_of_none e hD)]; exact s1 _ _ e
  rintro H' ⟨hd, s1⟩
  refine ⟨D, _, rfl, SqL.of hd, ?_⟩
  rw [show (List.replicate ((mR j b).map V.int).length true).all id = true by rw [List.all_eq_true]; intro x hx; exact (List.mem_replicate.mp hx).2]
  exact k H' s1
end
end Sx

set_option Elab.async false
set_option linter.all false
set_option maxRecDepth 100000
set_option maxHeartbeats 1000000
namespace Sx
open PySem PySem.Spec PyProof.Rows L2 SxA
theorem sl_tupAK {X : Cx} {K : PySem.W.Frag} (h : X.K = K) : SlR X (rSlA K) := by
  subst h
  exact sl_tupA
theorem op_eqDK {X : Cx} {K : PySem.W.Frag} (h : X.K = K) (hu : X.A.units + 64 < cLine) : OpR X (compareOp .Eq) (rEqD K) := by
  subst h
  exact op_eqD hu
def rLenQ (K : PySem.W.Frag) : List V → Hp → VK → Prop := fun xs H Q => ∃ p ys, xs = [V.ref p] ∧ (SqL K H p ys ∨ SqT K H p ys) ∧ Q (V.int ((ys.length : Nat) : Int)) H
theorem call_lenK {X : Cx} {K : PySem.W.Frag} (h : X.K = K) : CallR X (.builtin "len") (rLenQ K) := by
  subst h
  exact call_len_seq
/-! ### tuples of ints as data -/
def pTI (cs : List Int) : PyData := .tuple (cs.map PyData.int)
theorem eqv_ti (xs ys : List Int) : PyData.eqv (pTI xs) (pTI ys) = decide (xs = ys) := by
  unfold pTI
  rw [PyData.eqv]
  exact eqvAll_ints xs ys
theorem shaped_ti (xs : List Int) : SeqAt.shaped (pTI xs) = true := by
  have h1 := dep_ints xs
  unfold SeqAt.shaped pTI
  simp [PyData.canLay0, PyData.canLayAll0, PyData.depth, PyData.depthAll, lay_ints]
  omega
theorem dp_ti {K : PySem.W.Frag} {H : Hp} {a : Addr} {xs : List Int} (h : SqT K H a (xs.map V.int)) : Dp K H (.ref a) (pTI xs) := .tup h (dpAll_ints K H xs)
theorem eqT {K : PySem.W.Frag} {H : Hp} {p q : Addr} {xs ys : List Int} {Q : VK} (hp : H p = some (.tup (xs.map V.int))) (hq : H q = some (.tup (ys.map V.int))) (k : Q (.bl (decide (xs = ys))) H) : rEqD K (.ref p) (.ref q) H Q :=
  ⟨_, _, dp_ti (SqT.of hp), dp_ti (SqT.of hq), shaped_ti _, shaped_ti _, by rw [eqv_ti]; exact k⟩
/-- the first n places of a tuple of ints -/
theorem slT {K : PySem.W.Frag} {H : Hp} {p : Addr} {xs : List Int} {n : Nat} {Q : VK} (hp : H p = some (.tup (xs.map V.int))) (k : ∀ q H', Same H H' → H' q = some (.tup ((xs.take n).map V.int)) → Q (.ref q) H') : rSlA K (.ref p) none (some (n : Int)) H Q := by
  have e1 : HT.sIx (xs.map V.int).length 0 (Option.none) = 0 := rfl
  have e2 : HT.sIx (xs.map V.int).length (xs.map V.int).length (some (n : Int)) = min n (xs.map V.int).length := HT.sIx_nat _ _ _
  refine ⟨p, _, rfl, SqT.of hp, fun h => ?_, fun h q hq => ?_⟩
  · rw [e2, List.length_map] at h
    have : xs.length ≤ n := by omega
    exact k p H (fun _ _ z => z) (by rw [List.take_of_length_le this]; exact hp)
  · refine k q _ (Same.new hq) ?_
    rw [upd_same]
    unfold cutV
    rw [e1, e2, List.drop_zero, Nat.sub_zero, ← List.map_take, List.length_map]
    by_cases c : n ≤ xs.length
    · rw [Nat.min_eq_left c]
    · rw [Nat.min_eq_right (by omega), List.take_length, List.take_of_length_le (by omega)]
theorem refsAt {qs : List Addr} {i : Nat} {y : V} (h : (qs.map V.ref)[i]? = some y) : ∃ q, qs[i]? = some q ∧ y = V.ref q := by
  rw [List.getElem?_map] at h
  cases z : qs[i]? with
  | none => rw [z] at h; cases h
  | some q => rw [z] at h; exact ⟨q, rfl, (Option.some.inj h).symm⟩
def spApart (K : PySem.W.Frag) : Sp := fun vs H Q _ => ∃ (R : Addr) (qs : List Addr) (L : List (List Int)), vs = [.ref R] ∧ H R = some (.lst (qs.map V.ref)) ∧ qs.length ≤ 100 ∧ qs.length = L.length ∧ (∀ (i : Nat) (q : Addr) (l : List Int), qs[i]? = some q → L[i]? = some l → H q = some (.tup (l.map V.int)) ∧ 0 < l.length) ∧
  (∀ (i j : Nat) (x y : List Int), L[i]? = some x → L[j]? = some y → i ≠ j → x.head? ≠ y.head?) ∧ ∀ H', Same H H' → Q (.bl true) H'
section
variable {P : Program} {w : World} {K : PySem.W.Frag} {mg : Str → Option Value} {base : Heap}
abbrev nsAreApart : List Str := ["rows", "at", "row", "place", "other"]
theorem scAreApart : FnScope nsAreApart ["rows"] (defScope sAreApart) := ⟨rfl, rfl, rfl, by decide +kernel, rfl, by decide +kernel, by decide +kernel⟩
theorem ok_are_apart (t : T K mg) : Ok P w K mg base 1 "are_apart" ["rows"] (spApart K) := by
  refine mkOk t.d_are_apart t.g_are_apart scAreApart (fun vs H Q E h => ?_) (fun _ _ _ _ _ _ us hl => match us, hl with | [_], _ => rfl) fun cdv A outer s H vs Q E hr h => ?_
  · obtain ⟨R, qs, L, rfl, _⟩ := h; rfl
  obtain ⟨R, qs, L, rfl, hR, ql, qL, hq, hd, k⟩ := h
  refine ⟨_, pss_cons (ps_for PassesOwn.never rfl (pi_enum (by rfl) t.f_enumerate (pa_cons (pv 0) pa_nil)) (pg_tup rfl (pgs_cons (pg_name (i := 1) scAreApart.nd rfl (Or.inr rfl)) (pgs_cons (pg_name (i := 2) scAreApart.nd rfl (Or.inr rfl)) pgs_nil)))
      (pss_one (ps_if (pt_val (pe_callB (cr_any rfl) rfl t.f_any (by decide +kernel) (pa_cons (pe_lc (own := [("place", 3), ("other", 4)]) (g := gTup K 2 (gCons (gName 3) (gCons (gName 4) gNil))) rfl scAreApart.nd (pi_enum (by rfl) t.f_enumerate (pa_cons (pv 0) pa_nil)) (blkOk_by (own := [("place", 3), ("other", 4)]) (N := nsAreApart) (sc := defScope sAreApart) (by decide +kernel)) (fun _ _ _ _ _ => (pg_tup rfl (pgs_cons (pg_name (i := 3) scAreApart.nd rfl (Or.inl rfl)) (pgs_cons (pg_name (i := 4) scAreApart.nd rfl (Or.inl rfl)) pgs_nil)))) (fun _ _ _ _ _ => pts_one (pt_cmpR op_ne (pv 3) (pv 1) (nomark _))) (fun _ _ _ _ _ => (pe_cmpR (op_eqDK (K := K) rfl (hu64 hr)) (pe_slice (sl_tupAK (K := K) rfl) (pv 4) po_none (po_some (pe_callB (call_lenK (K := K) rfl) rfl t.f_len boot_len (pa_cons (pv 2) pa_nil)))) (pv 2) (nomark _)))) pa_nil)))
      (pss_one (ps_ret pe_bl))
      pss_nil)))
    (pss_one (ps_ret pe_bl)), ?_⟩
  refine ⟨_, rfl, R, _, rfl, SqL.of hR, ?_⟩
  have nodd : ∀ (i j : Nat) (q p : Addr) (x y : List Int), qs[i]? = some q → qs[j]? = some p → L[i]? = some x → L[j]? = some y → i ≠ j → decide (y.take x.length = x) = false := fun i j q p x y e1 e2 e3 e4 ne => by
    refine decide_eq_false fun z => ?_
    have h1 := (hq i q x e1 e3).2
    have h2 := (hq j p y e2 e4).2
    refine hd i j x y e3 e4 ne ?_
    cases x with
    | nil => exact absurd h1 (by decide)
    | cons a r =>
      cases y with
      | nil => exact absurd h2 (by decide)
      | cons c r2 =>
        rw [List.length_cons, List.take_succ_cons] at z
        injection z with z1 z2
        rw [z1]
        rfl
  have Lg : ∀ {i : Nat} {q : Addr}, qs[i]? = some q → ∃ x, L[i]? = some x := fun {i q} e => by
    have := (List.getElem?_eq_some_iff.mp e).1
    exact ⟨L[i]'(by omega), List.getElem?_eq_getElem _⟩
  refine for_it (walk_enum (K := K) (a := R) (xs := qs.map V.ref)) (fun i σ' H' => (∃ o1 o2 : Option V, σ' = [some (.ref R), o1, o2, none, none]) ∧ Same H H') ⟨⟨_, _, rfl⟩, fun _ _ z => z⟩ (fun i σ' H' _ p => SqL.of (p.2 _ _ hR)) ?_ (fun σ' H' p => k H' p.2)
  rintro i v σ' H1 H2 hi ⟨⟨o1, o2, rfl⟩, s1⟩ ⟨T, x, y, rfl, hT, rfl, ex, ey⟩
  have ex := (Option.some.inj ex).symm
  subst ex
  obtain ⟨q, eq1, rfl⟩ := refsAt ey
  obtain ⟨x, ex⟩ := Lg eq1
  have s2 : Same H (upd H1 T (.tup [V.int ((i : Nat) : Int), V.ref q])) := fun c o z => Same.new hT _ _ (s1 _ _ z)
  refine ⟨T, _, rfl, SqT.of upd_same, rfl, _, _, rfl, _, _, rfl, rfl, ?_⟩
  refine ⟨_, rfl, R, _, rfl, SqL.of (s2 _ _ hR), fun D hD => ?_⟩
  refine lc_it (walk_enum (K := K) (a := R) (xs := qs.map V.ref)) (g := gTup K 2 (gCons (gName 3) (gCons (gName 4) gNil))) (fun j H' => (∃ m, m ≤ j ∧ H' D = some (.lst ((List.replicate m false).map V.bl))) ∧ Same (upd H1 T (.tup [V.int ((i : Nat) : Int), V.ref q])) H') ⟨⟨0, Nat.le_refl _, upd_same⟩, Same.new hD⟩ (fun j H' _ p => SqL.of (p.2 _ _ (s2 _ _ hR))) ?_ ?_
  · rintro j v H3 H4 hj ⟨⟨m, mj, hm⟩, s3⟩ ⟨T2, x2, y2, rfl, hT2, rfl, ex2, ey2⟩
    have ex2 := (Option.some.inj ex2).symm
    subst ex2
    obtain ⟨q2, eq2, rfl⟩ := refsAt ey2
    obtain ⟨x2, ex2⟩ := Lg eq2
    have s4 : Same H (upd H3 T2 (.tup [V.int ((j : Nat) : Int), V.ref q2])) := fun c o z => Same.new hT2 _ _ (s3 _ _ (s2 _ _ z))
    have hm4 := Same.new (o := .tup [V.int ((j : Nat) : Int), V.ref q2]) hT2 _ _ hm
    refine ⟨T2, _, rfl, SqT.of upd_same, rfl, _, _, rfl, _, _, rfl, rfl, rfl, ?_⟩
    refine ⟨_, rfl, _, rfl, rfl, _, rfl, ?_⟩
    refine ite2 (fun h1 => ?_) (fun h1 => ⟨⟨m, by omega, hm4⟩, fun c o z => Same.new hT2 _ _ (s3 _ _ z)⟩)
    have ne : i ≠ j := fun e => by
      subst e
      exact absurd h1 (by simp)
    refine ⟨_, rfl, _, rfl, q, _, rfl, .inr (SqT.of (s4 _ _ (hq i q x eq1 ex).1)), _, rfl, ?_⟩
    rw [List.length_map]
    refine slT (s4 _ _ (hq j q2 x2 eq2 ex2).1) fun r H5 s5 hr5 => ?_
    refine ⟨_, rfl, eqT hr5 (s5 _ _ (s4 _ _ (hq i q x eq1 ex).1)) ?_⟩
    rw [nodd i j q q2 x x2 eq1 eq2 ex ex2 ne]
    refine ⟨_, s5 _ _ hm4, by rw [List.length_map, List.length_replicate]; rw [List.length_map] at hj; exact small1 (by omega), ⟨m + 1, by omega, by rw [upd_same, List.replicate_succ', List.map_append]; rfl⟩, fun c o z => ?_⟩
    rw [upd_ne (ne_of_none z hD)]
    exact s5 _ _ (Same.new hT2 _ _ (s3 _ _ z))
  rintro H5 ⟨⟨m, _, hm⟩, s5⟩
  refine ⟨D, _, rfl, SqL.of hm, _, rfl, ?_⟩
  rw [show (List.replicate m false).any id = false by rw [List.any_eq_false]; intro z hz; rw [(List.mem_replicate.mp hz).2]; decide]
  exact iteF ⟨⟨_, _, rfl⟩, fun c o z => s5 _ _ (s2 _ _ z)⟩
end
end Sx

set_option Elab.async false
set_option linter.all false
set_option maxRecDepth 100000
set_option maxHeartbeats 1000000
namespace Sx
open PySem PySem.Spec PyProof.Rows L2 SxA
def spAreMarks (K : PySem.W.Frag) : Sp := fun vs H Q _ => ∃ (x dx : Addr) (z : Nat → Addr) (dp : Addr) (b : Nat → Bool), vs = [.ref x] ∧ MkAt K H x dx z dp b ∧ b 8 = b 7 ∧ ∀ H', Same H H' → Q (.bl true) H'
def shF (w h s : Int) (m : Addr) : List (Str × V) := [("width", .int w), ("height", .int h), ("size", .int s), ("marks", .ref m)]
theorem shF_put (w h s : Int) (m : Addr) : putF "marks" (.ref m) (putF "size" (.int s) (putF "height" (.int h) (putF "width" (.int w) []))) = shF w h s m := by
  rw [put_new "width" _ [] (by simp)]
  rw [put_new "height" _ _ (by simp only [List.nil_append, List.cons_append, List.mem_cons, List.not_mem_nil, or_false, forall_eq_or_imp, forall_eq]; decide +kernel)]
  rw [put_new "size" _ _ (by simp only [List.nil_append, List.cons_append, List.mem_cons, List.not_mem_nil, or_false, forall_eq_or_imp, forall_eq]; decide +kernel)]
  rw [put_new "marks" _ _ (by simp only [List.nil_append, List.cons_append, List.mem_cons, List.not_mem_nil, or_false, forall_eq_or_imp, forall_eq]; decide +kernel)]
  rfl
structure ShAt (K : PySem.W.Frag) (H : Hp) (x dx : Addr) (w h s : Int) (m dm : Addr) (z : Nat → Addr) (dp : Addr) (b : Nat → Bool) : Prop where
  ins : H x = some (.ins (He.ga K "Shape") dx (shF w h s m))
  mks : MkAt K H m dm z dp b
theorem ShAt.same {K : PySem.W.Frag} {H H' : Hp} {x dx m dm dp : Addr} {w h s : Int} {z : Nat → Addr} {b : Nat → Bool} (S : ShAt K H x dx w h s m dm z dp b) (e : Same H H') : ShAt K H' x dx w h s m dm z dp b := ⟨e _ _ S.ins, S.mks.same e⟩
def spShapeInit (K : PySem.W.Frag) : Sp := fun vs H Q _ => ∃ (x dx : Addr) (w h s : Int) (m dm : Addr) (z : Nat → Addr) (dp : Addr) (b : Nat → Bool), vs = [.ref x, .int w, .int h, .int s, .ref m] ∧ H x = some (.ins (He.ga K "Shape") dx []) ∧ (8 ≤ w ∧ w ≤ 40) ∧ (3 ≤ h ∧ h ≤ 30) ∧ (1 ≤ s ∧ s ≤ 50) ∧
  MkAt K H m dm z dp b ∧ b 8 = b 7 ∧ ∀ m' dm' z' dp' H', ShAt K H' x dx w h s m' dm' z' dp' b → But x H H' → Q .non H'
def spShaped (K : PySem.W.Frag) : Sp := fun vs H Q _ => ∃ (m R : Addr) (wd : Nat) (b : Nat → Bool) (ps : List Addr), vs = [.ref m] ∧ wd < 4 ∧ H m = some (.lst [.int (8 + (wd : Int)), .ref R]) ∧ RowsAt H R 10 b ps ∧ b 8 = b 7 ∧
  ∀ x dx m' dm' z' dp' H', ShAt K H' x dx (8 + (wd : Int)) 4 10 m' dm' z' dp' b → Same H H' → Q (.ref x) H'
theorem mR_len (j : Nat) (b : Bool) : (mR j b).length = if b then 2 else 1 := by cases b <;> rfl
theorem mR_head (j : Nat) (b : Bool) : (mR j b).head? = some (40 + (j : Int)) := by cases b <;> rfl
theorem ordM_inj : ∀ i < 10, ∀ j < 10, ordM[i]? = ordM[j]? → i = j := by decide
theorem ordM_lt : ∀ j ∈ ordM, j < 10 := by decide
section
variable {P : Program} {w : World} {K : PySem.W.Frag} {mg : Str → Option Value} {base : Heap}
abbrev nsAreMarks : List Str := ["marks", "rows", "row"]
theorem scAreMarks : FnScope nsAreMarks ["marks"] (defScope sAreMarks) := ⟨rfl, rfl, rfl, by decide +kernel, rfl, by decide +kernel, by decide +kernel⟩
theorem ok_are_marks (t : T K mg) (kd : KDct K w (He.ga K "MOST_NUMBERS") "item" (.int 3)) : Ok P w K mg base 2 "are_marks" ["marks"] (spAreMarks K) := by
  refine mkOk t.d_are_marks t.g_are_marks scAreMarks (fun vs H Q E h => ?_) (fun _ _ _ _ _ _ us hl => match us, hl with | [_], _ => rfl) fun cdv A outer s H vs Q E hr h => ?_
  · obtain ⟨x, dx, z, dp, b, rfl, _⟩ := h; rfl
  obtain ⟨x, dx, z, dp, b, rfl, hM, b8, k⟩ := h
  have hr1 : Room 1 _ := hr.mono (by decide)
  refine ⟨_, pss_cons (ps_set (i := 1) scAreMarks.nd rfl (Or.inl rfl) (pe_ok (ok_rows_of_marks t) hr1 rfl (pa_cons (pv 0) pa_nil)))
    (pss_one (ps_ret (pe_and (pe_cmpR op_eq (pe_callB call_len_seq rfl t.f_len boot_len (pa_cons (pe_fld (pv 0) rfl) pa_nil)) (pe_ix ix_kdict (pe_glob (v := .ref (He.ga K "MOST_NUMBERS")) rfl t.g_MOST_NUMBERS rfl) pe_str (fun _ _ => rfl)) (nomark _)) (pe_and (pe_callB (cr_all rfl) rfl t.f_all (by decide +kernel) (pa_cons (pe_lc (own := [("row", 2)]) (g := gName 2) (tt := tYes) rfl scAreMarks.nd (pi_list (pv 1)) (blkOk_by (own := [("row", 2)]) (N := nsAreMarks) (sc := defScope sAreMarks) (by decide +kernel)) (fun _ _ _ _ _ => pg_name (i := 2) scAreMarks.nd rfl (Or.inl rfl)) (fun _ _ _ _ _ => pts_nil) (fun _ _ _ _ _ => (pe_ok (ok_is_mark t) hr1 rfl (pa_cons (pv 2) pa_nil)))) pa_nil)) (pe_and (pe_ok (ok_are_apart t) hr1 rfl (pa_cons (pv 1) pa_nil)) (pe_one (pe_cmpR op_eq (pe_callB call_len_seq rfl t.f_len boot_len (pa_cons (pe_fld (pv 0) rfl) pa_nil)) (pe_callB call_len_seq rfl t.f_len boot_len (pa_cons (pe_fld (pv 0) rfl) pa_nil)) (nomark _)))))))), ?_⟩
  refine ⟨_, rfl, x, dx, z, dp, b, rfl, hM, fun R H1 hR0 s1 hR => ?_⟩
  have hM1 := hM.same s1
  refine ⟨_, rfl, x, _, dx, _, _, rfl, hM1.ins, t.c_Marks, t.n_Marks_depths, lkd _ _, dp, _, rfl, .inl (SqL.of hM1.dep), _, _, _, rfl, rfl, kd, rfl, _, rfl, ?_⟩
  refine iteT ?_
  refine ⟨_, rfl, R, rfl, ⟨_, SqL.of hR⟩, fun D hD => ?_⟩
  refine lc_list (K := K) (a := R) (xs := ordM.map fun j => V.ref (z j)) (g := gName 2) (fun i H' => H' D = some (.lst ((List.replicate i true).map V.bl)) ∧ Same H1 H') ⟨upd_same, Same.new hD⟩ (fun i H5 _ q => SqL.of (q.2 _ _ hR)) ?_ ?_
  · rintro i v H' hv ⟨hd, s2⟩
    obtain ⟨j, hj, rfl⟩ := List.mem_map.mp (List.mem_of_getElem? hv)
    have il := (List.getElem?_eq_some_iff.mp hv).1
    rw [List.length_map] at il
    refine ⟨rfl, ?_⟩
    refine ⟨_, rfl, z j, j, b j, rfl, ordM_lt j hj, (hM1.same s2).el j (ordM_lt j hj), fun H3 s3 => ⟨_, s3 _ _ hd, ?_, ?_, ?_⟩⟩
    · rw [List.length_map, List.length_replicate]
      have : ordM.length = 10 := rfl
      exact small1 (by omega)
    · rw [upd_same, List.replicate_succ', List.map_append]
      rfl
    · exact fun c o e => by rw [upd_ne (ne_of_none e hD)]; exact s3 _ _ (s2 _ _ e)
  rintro H2 ⟨hd, s2⟩
  refine ⟨D, _, rfl, SqL.of hd, _, rfl, ?_⟩
  rw [show (List.replicate (ordM.map fun j => V.ref (z j)).length true).all id = true by rw [List.all_eq_true]; intro x hx; exact (List.mem_replicate.mp hx).2]
  have hM2 := hM1.same s2
  refine iteT ⟨_, rfl, R, ordM.map z, ordM.map fun j => mR j (b j), rfl, ?_, by rw [List.length_map]; decide, by rw [List.length_map, List.length_map], fun i q l e1 e2 => ?_, fun i j l1 l2 e1 e2 ne => ?_, fun H3 s3 => ⟨_, rfl, ?_⟩⟩
  · rw [List.map_map]; exact s2 _ _ hR
  · rw [List.getElem?_map] at e1 e2
    cases q1 : ordM[i]? with
    | none => rw [q1] at e1; cases e1
    | some j =>
      rw [q1] at e1 e2
      obtain rfl := Option.some.inj e1
      obtain rfl := Option.some.inj e2
      exact ⟨hM2.el j (ordM_lt j (List.mem_of_getElem? q1)), by rw [mR_len]; split <;> decide⟩
  · rw [List.getElem?_map] at e1 e2
    cases q1 : ordM[i]? with
    | none => rw [q1] at e1; cases e1
    | some m =>
      cases q2 : ordM[j]? with
      | none => rw [q2] at e2; cases e2
      | some m2 =>
        rw [q1] at e1; rw [q2] at e2
        obtain rfl := Option.some.inj e1
        obtain rfl := Option.some.inj e2
        show (mR m (b m)).head? ≠ (mR m2 (b m2)).head?
        rw [mR_head, mR_head]
        intro e
        have e3 := Option.some.inj e
        have e4 : m = m2 := by omega
        have l1 := (List.getElem?_eq_some_iff.mp q1).1
        have l2 := (List.getElem?_eq_some_iff.mp q2).1
        have : ordM.length = 10 := rfl
        exact ne (ordM_inj i (by omega) j (by omega) (by rw [q1, q2, e4]))
  · have hM3 := hM2.same s3
    refine iteT ⟨_, rfl, x, _, dx, _, _, rfl, hM3.ins, t.c_Marks, t.n_Marks_on, lk7 _ _, z 7, _, rfl, .inr (SqT.of (hM3.el 7 (by decide))), _, rfl, x, _, dx, _, _, rfl, hM3.ins, t.c_Marks, t.n_Marks_joined, lk8 _ _, z 8, _, rfl, .inr (SqT.of (hM3.el 8 (by decide))), rfl, ?_⟩
    rw [List.length_map, List.length_map, mR_len, mR_len, b8, decide_eq_true rfl]
    exact k H3 (fun c o e => s3 _ _ (s2 _ _ (s1 _ _ e)))
end
end Sx

set_option Elab.async false
set_option linter.all false
set_option maxRecDepth 100000
set_option maxHeartbeats 1000000
namespace Sx
open PySem PySem.Spec PyProof.Rows L2 SxA
section
variable {P : Program} {w : World} {K : PySem.W.Frag} {mg : Str → Option Value} {base : Heap}
theorem MkAt.but {K : PySem.W.Frag} {H H' : Hp} {x dx dp y : Addr} {z : Nat → Addr} {b : Nat → Bool} (h : MkAt K H x dx z dp b) (s : But y H H') (n1 : x ≠ y) (n2 : dp ≠ y) (n3 : ∀ j, j < 10 → z j ≠ y) : MkAt K H' x dx z dp b := ⟨s _ _ h.ins n1, s _ _ h.dep n2, fun j q => s _ _ (h.el j q) (n3 j q)⟩
abbrev nsShapeInit : List Str := ["self", "width", "height", "size", "marks", "copied"]
theorem scShapeInit : FnScope nsShapeInit ["self", "width", "height", "size", "marks"] (defScope sShapeInit) := ⟨rfl, rfl, rfl, by decide +kernel, rfl, by decide +kernel, by decide +kernel⟩
theorem met_Shape_init (t : T K mg) (kd : KDct K w (He.ga K "MOST_NUMBERS") "item" (.int 3)) : Met P w K mg base 4 "Shape" "__init__" ["self", "width", "height", "size", "marks"] (spShapeInit K) := by
  refine mkMet t.d_Shape_init scShapeInit (fun vs H Q E h => ?_) (fun _ _ _ _ _ _ us hl => match us, hl with | [_, _, _, _, _], _ => rfl) fun cdv A outer s H vs Q E hr h => ?_
  · obtain ⟨x, dx, w, h, s, m, dm, z, dp, b, rfl, _⟩ := h; rfl
  obtain ⟨x, dx, wd, ht, sz, m, dm, z, dp, b, rfl, hx, hw, hh, hs, hM, b8, k⟩ := h
  have hr1 : Room 1 _ := hr.mono (by decide)
  have hr2 : Room 2 _ := hr.mono (by decide)
  have hr3 : Room 3 _ := hr.mono (by decide)
  refine ⟨_, pss_cons (ps_set (i := 5) scShapeInit.nd rfl (Or.inl rfl) (pe_ok (ok_copy_of_marks t) hr3 rfl (pa_cons (pv 4) pa_nil)))
    (pss_cons (ps_if (PW.pt (pw_or (pt_not (pt_val (pe_ok (ok_are_sizes t) hr1 rfl (pa_cons (pv 1) (pa_cons (pv 2) (pa_cons (pv 3) pa_nil)))))) (pw_or1 (pt_not (pt_val (pe_ok (ok_are_marks t kd) hr2 rfl (pa_cons (pv 5) pa_nil)))))))
      pss_never
      pss_nil)
    (pss_cons (ps_fld (pv 0) (pv 1) rfl)
    (pss_cons (ps_fld (pv 0) (pv 2) rfl)
    (pss_cons (ps_fld (pv 0) (pv 3) rfl)
    (pss_one (ps_fld (pv 0) (pv 5) rfl)))))), ?_⟩
  refine ⟨_, rfl, m, dm, z, dp, b, rfl, hM, fun y dy z' dp' H1 ny s1 hM1 => ?_⟩
  refine ⟨_, rfl, _, rfl, _, rfl, wd, ht, sz, rfl, hw, hh, hs, _, rfl, ?_⟩
  refine iteF ⟨_, rfl, y, dy, z', dp', b, rfl, hM1, b8, fun H2 s2 => ⟨_, rfl, iteF ?_⟩⟩
  have hM2 := hM1.same s2
  have hx2 := s2 _ _ (s1 _ _ hx)
  have l0 : ([] : List (Str × V)).length ≤ 0 := Nat.le_refl _
  refine ⟨_, rfl, _, rfl, x, _, dx, _, rfl, hx2, t.c_Shape, t.n_Shape_width, by decide, ?_⟩
  refine ⟨_, rfl, _, rfl, x, _, dx, _, rfl, upd_same, t.c_Shape, t.n_Shape_height, (Nat.lt_of_le_of_lt (len_put_lt l0) (by decide)), ?_⟩
  rw [upd_upd]
  refine ⟨_, rfl, _, rfl, x, _, dx, _, rfl, upd_same, t.c_Shape, t.n_Shape_size, (Nat.lt_of_le_of_lt (len_put_lt (len_put_lt l0)) (by decide)), ?_⟩
  rw [upd_upd]
  refine ⟨_, rfl, _, rfl, x, _, dx, _, rfl, upd_same, t.c_Shape, t.n_Shape_marks, (Nat.lt_of_le_of_lt (len_put_lt (len_put_lt (len_put_lt l0))) (by decide)), ?_⟩
  rw [upd_upd, shF_put]
  have nyx : y ≠ x := fun e => by rw [e, hx] at ny; cases ny
  refine k y dy z' dp' _ ⟨upd_same, hM2.but (But.put _ _ _) nyx (ne_of hM2.dep hx2 (by intro z; cases z)) fun j hj => ne_of (hM2.el j hj) hx2 (by intro z; cases z)⟩ fun c o e n => by
    rw [upd_ne n]
    exact s2 _ _ (s1 _ _ e)
theorem cut_ps (p : Nat → Addr) : ∀ {ps : List Addr}, ps.length = 10 → (∀ j, j < 10 → ps[j]? = some (p j)) → cutV (ps.map V.ref) (some 2) (some 5) = [.ref (p 2), .ref (p 3), .ref (p 4)]
  | [a0, a1, a2, a3, a4, a5, a6, a7, a8, a9], _, h => by
    have e2 : a2 = p 2 := Option.some.inj (h 2 (by decide))
    have e3 : a3 = p 3 := Option.some.inj (h 3 (by decide))
    have e4 : a4 = p 4 := Option.some.inj (h 4 (by decide))
    subst e2 e3 e4
    rfl
abbrev nsLawShaped : List Str := ["made", "rows", "marks"]
theorem scLawShaped : FnScope nsLawShaped ["made"] (defScope sLawShaped) := ⟨rfl, rfl, rfl, by decide +kernel, rfl, by decide +kernel, by decide +kernel⟩
theorem ok_law_shaped (t : T K mg) (kd : KDct K w (He.ga K "MOST_NUMBERS") "item" (.int 3)) : Ok P w K mg base 6 "_law_shaped" ["made"] (spShaped K) := by
  refine mkOk t.d_law_shaped t.g_law_shaped scLawShaped (fun vs H Q E h => ?_) (fun _ _ _ _ _ _ us hl => match us, hl with | [_], _ => rfl) fun cdv A outer s H vs Q E hr h => ?_
  · obtain ⟨m, R, wd, b, ps, rfl, _⟩ := h; rfl
  obtain ⟨m, R, wd, b, ps, rfl, hwd, hm, hR, b8, k⟩ := h
  have hr2 : Room 2 _ := hr.mono (by decide)
  have hr5 : Room 5 _ := hr.mono (by decide)
  refine ⟨_, pss_cons (ps_set (i := 1) scLawShaped.nd rfl (Or.inl rfl) (pe_ix ix_list (pv 0) pe_int (fun _ _ => rfl)))
    (pss_cons (ps_set (i := 2) scLawShaped.nd rfl (Or.inl rfl) (pe_mk (met_Marks_init t) t.m_Marks t.g_Marks hr2 rfl (pa_cons (pe_ix ix_list (pv 1) pe_int (fun _ _ => rfl)) (pa_cons (pe_ix ix_list (pv 1) pe_int (fun _ _ => rfl)) (pa_cons (pe_slice sl_list (pv 1) (po_some pe_int) (po_some pe_int)) (pa_cons (pe_ix ix_list (pv 1) pe_int (fun _ _ => rfl)) (pa_cons (pe_ix ix_list (pv 1) pe_int (fun _ _ => rfl)) (pa_cons (pe_ix ix_list (pv 1) pe_int (fun _ _ => rfl)) (pa_cons (pe_ix ix_list (pv 1) pe_int (fun _ _ => rfl)) (pa_cons (pe_ix ix_list (pv 1) pe_int (fun _ _ => rfl)) pa_nil))))))))))
    (pss_one (ps_ret (pe_mk (met_Shape_init t kd) t.m_Shape t.g_Shape hr5 rfl (pa_cons (pe_ix ix_list (pv 0) pe_int (fun _ _ => rfl)) (pa_cons pe_int (pa_cons pe_int (pa_cons (pv 2) pa_nil)))))))), ?_⟩
  obtain ⟨p, hp⟩ : ∃ p : Nat → Addr, ∀ j, j < 10 → ps[j]? = some (p j) := ⟨fun j => ps.getD j 0, fun j hj => by
    have := hR.len
    show ps[j]? = some (ps.getD j 0)
    rw [List.getD_eq_getElem?_getD, List.getElem?_eq_getElem (by omega)]
    rfl⟩
  have ix : ∀ {H' : Hp} (j : Nat), j < 10 → Same H H' → SqL K H' R (ps.map V.ref) ∧ atI (ps.map V.ref) (j : Int) = some (.ref (p j)) := fun {H'} j hj s => ⟨SqL.of (s _ _ hR.at_), atI_nat (by rw [List.getElem?_map, hp j hj]; rfl)⟩
  have sr : Same H H := fun _ _ z => z
  refine ⟨_, rfl, m, _, _, .ref R, rfl, rfl, SqL.of hm, atI_nat (j := 1) rfl, ?_⟩
  refine ⟨_, rfl, R, _, _, .ref (p 0), rfl, rfl, (ix 0 (by decide) sr).1, (ix 0 (by decide) sr).2, _, rfl, R, _, _, .ref (p 1), rfl, rfl, (ix 1 (by decide) sr).1, (ix 1 (by decide) sr).2, ?_⟩
  refine ⟨_, rfl, _, rfl, _, rfl, R, _, rfl, SqL.of hR.at_, fun q hq => ?_⟩
  rw [cut_ps p hR.len hp]
  have s1 : Same H (upd H q (.lst [.ref (p 2), .ref (p 3), .ref (p 4)])) := Same.new hq
  refine ⟨_, rfl, R, _, _, .ref (p 5), rfl, rfl, (ix 5 (by decide) s1).1, (ix 5 (by decide) s1).2, _, rfl, R, _, _, .ref (p 6), rfl, rfl, (ix 6 (by decide) s1).1, (ix 6 (by decide) s1).2, ?_⟩
  refine ⟨_, rfl, R, _, _, .ref (p 7), rfl, rfl, (ix 7 (by decide) s1).1, (ix 7 (by decide) s1).2, _, rfl, R, _, _, .ref (p 8), rfl, rfl, (ix 8 (by decide) s1).1, (ix 8 (by decide) s1).2, ?_⟩
  refine ⟨_, rfl, R, _, _, .ref (p 9), rfl, rfl, (ix 9 (by decide) s1).1, (ix 9 (by decide) s1).2, fun y dy ny ndy ney => ?_⟩
  have s2 : Same H (upd (upd (upd H q (.lst [.ref (p 2), .ref (p 3), .ref (p 4)])) dy (.own y)) y (.ins (He.ga K "Marks") dy [])) := fun c o z => Same.put (Same.new ndy) ny _ _ (s1 _ _ z)
  have hq2 := Same.put (Same.new (o := .own y) ndy) (o := .ins (He.ga K "Marks") dy []) ny _ _ (upd_same (H := H) (a := q) (o := .lst [.ref (p 2), .ref (p 3), .ref (p 4)]))
  refine ⟨y, dy, q, p, b, rfl, upd_same, hq2, fun j hj => .inl (s2 _ _ (hR.el j (p j) (hp j hj))), fun z dp H1 _ hM B => ⟨rfl, ?_⟩⟩
  have s3 : Same H H1 := fun c o e => B _ _ (s2 _ _ e) (ne_of_none (s1 _ _ e) ny)
  refine ⟨_, rfl, m, _, _, .int _, rfl, rfl, SqL.of (s3 _ _ hm), atI_nat (j := 0) rfl, _, rfl, fun x dx nx ndx nex => ?_⟩
  have s4 : Same H1 (upd (upd H1 dx (.own x)) x (.ins (He.ga K "Shape") dx [])) := Same.put (Same.new ndx) nx
  refine ⟨x, dx, _, _, _, y, dy, z, dp, b, rfl, upd_same, ⟨by omega, by omega⟩, ⟨by decide, by decide⟩, ⟨by decide, by decide⟩, hM.same s4, b8, fun m' dm' z' dp' H2 hS B2 => ⟨rfl, ?_⟩⟩
  exact k x dx m' dm' z' dp' H2 hS (fun c o e => B2 _ _ (s4 _ _ (s3 _ _ e)) (ne_of_none (s3 _ _ e) nx))
end
end Sx

set_option Elab.async false
set_option linter.all false
set_option maxRecDepth 100000
set_option maxHeartbeats 1000000
namespace Sx
open PySem PySem.Spec PyProof.Rows L2 SxA PySem.W
abbrev nv (n : Nat) : V := .int (n : Int)
def roomN (W : Nat) (M : List Int) (b : Nat → Bool) (c : Nat) : Nat := W - (if c = 0 then M.length else (mR 7 (b 7)).length)
/-- what a shape and a mark and a row are -/
structure LnAt (K : PySem.W.Frag) (H : Hp) (x ma ra : Addr) (W : Nat) (M zs : List Int) (z : Nat → Addr) (b : Nat → Bool) : Prop where
  sh : ∃ dx h s m dm dp, ShAt K H x dx ((W : Nat) : Int) h s m dm z dp b
  mka : H ma = some (.tup (M.map V.int))
  row : H ra = some (.lst (zs.map V.int))
  b8 : b 8 = b 7
  wM : 2 < W ∧ M.length < W ∧ W ≤ 100 ∧ 0 < M.length
  zl : zs.length ≤ 100
theorem LnAt.same {K : PySem.W.Frag} {H H' : Hp} {x ma ra : Addr} {W : Nat} {M zs : List Int} {z : Nat → Addr} {b : Nat → Bool} (L : LnAt K H x ma ra W M zs z b) (s : Same H H') : LnAt K H' x ma ra W M zs z b := by
  obtain ⟨dx, h, sz, m, dm, dp, hS⟩ := L.sh
  exact ⟨⟨dx, h, sz, m, dm, dp, hS.same s⟩, s _ _ L.mka, s _ _ L.row, L.b8, L.wM, L.zl⟩
theorem lkW (w h s : Int) (m : Addr) : (shF w h s m).lookup ("width" : Str) = some (.int w) := rfl
theorem lkM (w h s : Int) (m : Addr) : (shF w h s m).lookup ("marks" : Str) = some (.ref m) := rfl
end Sx

set_option Elab.async false
set_option linter.all false
set_option maxRecDepth 100000
set_option maxHeartbeats 1000000
namespace Sx
open PySem PySem.Spec PyProof.Rows L2 SxA PySem.W
theorem ixN_natS {n k : Nat} (h : k < n) : ixN n (k : Int) = some k := by
  unfold ixN
  rw [if_pos (by omega), if_pos (by omega), Int.toNat_natCast]
abbrev It2 : Type := Nat × List Int
def mkI (M : List Int) (b : Nat → Bool) (k : Nat) : List Int := if k = 0 then M else if k = 1 then mR 7 (b 7) else mR 8 (b 8)
def pre (k : Nat) : List Int := if k = 1 then [0] else []
def flatI : List It2 → List Int
  | [] => []
  | (k, p) :: r => pre k ++ p ++ flatI r
theorem flatI_snoc (l : List It2) (k : Nat) (p : List Int) : flatI (l ++ [(k, p)]) = flatI l ++ (pre k ++ p) := by
  induction l with
  | nil => simp [flatI]
  | cons x r ih => obtain ⟨k1, p1⟩ := x; simp [flatI, ih]
def lineI (M : List Int) (b : Nat → Bool) (i : It2) : List Int := mkI M b i.1 ++ i.2
structure LinesAt (H : Hp) (D : Addr) (as : List Addr) (ls : List (List Int)) : Prop where
  at_ : H D = some (.lst (as.map V.ref))
  len : as.length = ls.length
  el : ∀ (i : Nat) (a : Addr) (l : List Int), as[i]? = some a → ls[i]? = some l → H a = some (.tup (l.map V.int))
theorem LinesAt.same {H H' : Hp} {D : Addr} {as : List Addr} {ls : List (List Int)} (h : LinesAt H D as ls) (s : Same H H') : LinesAt H' D as ls := ⟨s _ _ h.at_, h.len, fun i a l e1 e2 => s _ _ (h.el i a l e1 e2)⟩
theorem LinesAt.push {H : Hp} {D a : Addr} {as : List Addr} {ls : List (List Int)} {l : List Int} (h : LinesAt H D as ls) (e : H a = some (.tup (l.map V.int))) : LinesAt (upd H D (.lst (as.map V.ref ++ [.ref a]))) D (as ++ [a]) (ls ++ [l]) := by
  refine ⟨by rw [upd_same, List.map_append]; rfl, by rw [List.length_append, List.length_append, h.len]; rfl, fun i a' l' e1 e2 => ?_⟩
  rcases get_snoc h.len e1 with ⟨q1, q2⟩ | ⟨q1, rfl⟩
  · rcases get_snoc rfl e2 with ⟨q3, q4⟩ | ⟨q3, _⟩
    · have := h.el i a' l' q2 q4
      rw [upd_ne (ne_of this h.at_ (by intro z; cases z))]
      exact this
    · omega
  · rcases get_snoc rfl e2 with ⟨q3, _⟩ | ⟨_, rfl⟩
    · omega
    · rw [upd_ne (ne_of e h.at_ (by intro z; cases z))]
      exact e
def ItOk (W : Nat) (M : List Int) (b : Nat → Bool) (l : List It2) : Prop := ∀ (i k : Nat) (p : List Int), l[i]? = some (k, p) → (k = 0 ↔ i = 0) ∧ k ≤ 2 ∧ 0 < p.length ∧ (mkI M b k).length + p.length ≤ W
def gapI (W : Nat) (M : List Int) (b : Nat → Bool) (i : It2) : Nat := (W - (lineI M b i).length) ^ 2
def jnI (i : It2) : Nat := if i.1 = 2 then 50 else 0
def costI (W : Nat) (M : List Int) (b : Nat → Bool) (l : List It2) : Nat := (l.dropLast.map (gapI W M b)).sum + (l.map jnI).sum
theorem take_piece {zs : List Int} {c e : Nat} (h : c ≤ e) : zs.take e = zs.take c ++ (zs.drop c).take (e - c) := by
  have := List.take_add (l := zs) (i := c) (j := e - c)
  rw [show c + (e - c) = e by omega] at this
  exact this
theorem cut_piece {zs : List Int} {c e : Nat} (h : c ≤ e) (h2 : e ≤ zs.length) : cutV (zs.map V.int) (some (c : Int)) (some (e : Int)) = ((zs.drop c).take (e - c)).map V.int := by
  unfold cutV
  rw [HT.sIx_nat, HT.sIx_nat, List.length_map, Nat.min_eq_left h2, Nat.min_eq_left (by omega), List.map_take, List.map_drop]
end Sx

set_option Elab.async false
set_option linter.all false
set_option maxRecDepth 100000
set_option maxHeartbeats 1000000
namespace PySem
open PySem.SeqAt
open PySem.AutoSeq1 (wpAny_loadPart')
theorem list_extend_tupAny (l : Addr) (items : Array Value) (n : Nat) (b : Addr) (items2 : Array Value) (n2 : Nat) (dd2 : Option Addr) (sl2 : Array (Option Value)) (hs0 : ¬(!items.isEmpty && Builtin.List.listTooLong (items.size + items2.size)) = true) (hs1 : items.size ≤ sizeLine) (hs2 : items.size + items2.size ≤ sizeLine + 1) :
    Meets (Builtin.«list.extend» ⟨[.ref l, .ref b], []⟩) (fun _ R s => s.heap.get? l = some { cls := .type "list", dict := none, data := .seq items n, slots := #[] } ∧ s.heap.get? b = some { cls := .type "tuple", dict := dd2, data := .seq items2 n2, slots := sl2 } ∧ R (.ok (.ret Value.none)) { s with heap := s.heap.update l (Obj.mapSeq fun x => x ++ items2), toks := s.toks }) :=
  .of_wp fun prog w A R s h => by
    obtain ⟨hp, g, d, tk, os⟩ := s; obtain ⟨hl, hb, h⟩ := h; have f1 := AutoSeq1.idx_int; have f2 := AutoSeq1.sub_tuple_tuple; have f3 := AutoSeq1.sub_list_list; have f4 := AutoSeq1.sub_tuple_list; have f5 := AutoSeq1.sub_list_tuple;
    have hz' : (items ++ items2).size ≤ sizeLine + 1 := by rw [Array.size_append]; exact hs2
    wp_walk using (wpAny_updateSeq hl rfl (hz := hs1) (_hz' := hz')), wpAny_loadPart' hl, wpAny_loadPart' hb; exact ⟨_, rfl, h⟩
end PySem
namespace Sx
open PySem PySem.Spec PyProof.Rows L2 SxA
def rExtT (K : PySem.W.Frag) : V → List V → Hp → VK → Prop := fun x vs H Q => ∃ l b xs zs, x = .ref l ∧ vs = [.ref b] ∧ H l = some (.lst xs) ∧ SqT K H b zs ∧ xs.length + zs.length ≤ sizeLine ∧ Q .non (upd H l (.lst (xs ++ zs)))
theorem mt_extT {X : Cx} : MtM X "list.extend" (rExtT X.K) := by
  intro pins s σ H x vs v us Q I rx rv h
  obtain ⟨l, b, xs, zs, rfl, rfl, hH, hB, hz, q⟩ := h
  cases rx
  obtain ⟨u, rfl, ru⟩ := rv.one
  cases ru
  obtain ⟨z, its, n, r, hl, e⟩ := I.lstM hH
  obtain ⟨its2, r2, p2, _⟩ := I.tuple hB
  obtain ⟨⟨cls2, dd2, data2, sl2⟩, ho2, hc2, n2, hd2⟩ := p2
  simp only at hc2 hd2
  subst hc2 hd2
  have l2 : zs.length = its2.length := Vals.length r2
  have hsz : its.toArray.size + its2.toArray.size ≤ sizeLine := by rw [List.size_toArray, List.size_toArray]; omega
  have hlong : ¬ (!its.toArray.isEmpty && Builtin.List.listTooLong (its.toArray.size + its2.toArray.size)) = true := by
    rw [notLongL hsz, Bool.and_false]
    exact Bool.false_ne_true
  refine call_meets PySem.F.slot_list_extend ⟨_, e, rfl⟩ PySem.F.entry_list_extend (PySem.F.args_list_extend_2 _ _)
    (list_extend_tupAny l its.toArray n b its2.toArray n2 dd2 sl2 hlong (by rw [List.size_toArray]; omega) (by omega)) ⟨e, ho2, ?_⟩
  refine ⟨.non, _, I.lset (its' := its ++ its2) hH e (by simp) (r.append r2) ?_, rfl, q⟩
  rw [List.length_append]
  omega
end Sx

set_option Elab.async false
set_option linter.all false
set_option maxRecDepth 100000
set_option maxHeartbeats 1000000
namespace Sx
open PySem PySem.Spec PyProof.Rows L2 SxA PySem.W
theorem slTd {K : PySem.W.Frag} {H : Hp} {p : Addr} {xs : List Int} {n : Nat} {Q : VK} (hp : H p = some (.tup (xs.map V.int))) (k : ∀ q H', Same H H' → H' q = some (.tup ((xs.drop n).map V.int)) → Q (.ref q) H') : rSlA K (.ref p) (some (n : Int)) none H Q := by
  have e1 : HT.sIx (xs.map V.int).length 0 (some (n : Int)) = min n (xs.map V.int).length := HT.sIx_nat _ _ _
  have e2 : HT.sIx (xs.map V.int).length (xs.map V.int).length (Option.none) = (xs.map V.int).length := rfl
  refine ⟨p, _, rfl, SqT.of hp, fun h => ?_, fun h q hq => ?_⟩
  · rw [e1, List.length_map] at h
    refine k p H (fun _ _ z => z) ?_
    rw [hp]
    by_cases n0 : n = 0
    · rw [n0, List.drop_zero]
    · have : xs = [] := List.eq_nil_of_length_eq_zero (by omega)
      rw [this, List.drop_nil]
  · refine k q _ (Same.new hq) ?_
    rw [upd_same]
    unfold cutV
    rw [e1, e2, ← List.map_drop, ← List.map_take, List.length_map]
    by_cases c : n ≤ xs.length
    · rw [Nat.min_eq_left c, List.take_of_length_le (by rw [List.length_drop]; exact Nat.le_refl _)]
    · rw [Nat.min_eq_right (by omega), List.drop_length, List.take_nil, List.drop_eq_nil_of_le (by omega)]
@[irreducible] def rSlAI (K : PySem.W.Frag) : V → Option Int → Option Int → Hp → VK → Prop := rSlA K
theorem sl_tupAI {X : Cx} {K : PySem.W.Frag} (h : X.K = K) : SlR X (rSlAI K) := by
  subst h
  unfold rSlAI
  exact sl_tupA
theorem slTdI {K : PySem.W.Frag} {H : Hp} {p : Addr} {xs : List Int} {n : Nat} {Q : VK} (hp : H p = some (.tup (xs.map V.int))) (k : ∀ q H', Same H H' → H' q = some (.tup ((xs.drop n).map V.int)) → Q (.ref q) H') : rSlAI K (.ref p) (some (n : Int)) none H Q := by
  unfold rSlAI
  exact slTd hp k
def keepB (l : List Int) (a : Addr × List Int) : Bool := decide (l.take a.2.length = a.2) && decide (a.2.length < l.length)
theorem keep_own {m p : List Int} {a : Addr} (h : 0 < p.length) : keepB (m ++ p) (a, m) = true := by
  unfold keepB
  dsimp only
  rw [List.take_left, decide_eq_true rfl, Bool.true_and, List.length_append]
  exact decide_eq_true (by omega)
theorem keep_other {m m' p : List Int} {a : Addr} (hl : m'.length = m.length) (h : m ≠ m') : keepB (m ++ p) (a, m') = false := by
  unfold keepB
  dsimp only
  rw [hl, List.take_left, decide_eq_false h, Bool.false_and]
theorem on_joined (b : Nat → Bool) (h : b 8 = b 7) : mR 7 (b 7) ≠ mR 8 (b 8) ∧ (mR 7 (b 7)).length = (mR 8 (b 8)).length := by
  refine ⟨fun e => ?_, by rw [mR_len, mR_len, h]⟩
  have := congrArg List.head? e
  rw [mR_head, mR_head] at this
  have := Option.some.inj this
  omega
theorem flat_le {W : Nat} {M : List Int} {b : Nat → Bool} {l : List It2} (h : ItOk W M b l) : ∀ i, i ≤ l.length → (flatI (l.take i)).length ≤ i * (W + 1)
  | 0, _ => by rw [List.take_zero]; exact Nat.zero_le _
  | i + 1, hi => by
    have e : l[i]? = some l[i] := List.getElem?_eq_getElem (by omega)
    have ih := flat_le h i (by omega)
    have hk := h i l[i].1 l[i].2 e
    rw [List.take_add_one, e]
    show (flatI (l.take i ++ [(l[i].1, l[i].2)])).length ≤ _
    rw [flatI_snoc, List.length_append, List.length_append, Nat.add_mul]
    have : (pre l[i].1).length ≤ 1 := by unfold pre; split <;> simp
    omega
end Sx

set_option Elab.async false
set_option linter.all false
set_option maxRecDepth 100000
set_option maxHeartbeats 1000000
namespace Sx
open PySem PySem.Spec PyProof.Rows L2 SxA HT
/-! ### tuples of ints -/
abbrev ti (ns : List Int) : HO := .tup (ns.map V.int)
section
variable {K : PySem.W.Frag} {H : Hp} {Q : VK}
def pTupI (cs : List Int) : PyData := .tuple (cs.map PyData.int)
theorem eqv_tupI (xs ys : List Int) : PyData.eqv (pTupI xs) (pTupI ys) = decide (xs = ys) := by
  unfold pTupI
  rw [PyData.eqv]
  exact eqvAll_ints xs ys
theorem shaped_tupI (xs : List Int) : SeqAt.shaped (pTupI xs) = true := by
  unfold SeqAt.shaped pTupI
  rw [PyData.canLay0, lay_ints, PyData.depth]
  have := dep_ints xs
  simp
  omega
theorem eqTT {p q : Addr} {xs ys : List Int} (h1 : H p = some (ti xs)) (h2 : H q = some (ti ys)) (k : Q (.bl (decide (xs = ys))) H) : rEqD K (.ref p) (.ref q) H Q := by
  refine ⟨pTupI xs, pTupI ys, .tup (SqT.of h1) (dpAll_ints K H xs), .tup (SqT.of h2) (dpAll_ints K H ys), shaped_tupI _, shaped_tupI _, ?_⟩
  rw [eqv_tupI]
  exact k
theorem eqL {p q : Addr} {xs ys : List Int} (h1 : H p = some (.lst (xs.map V.int))) (h2 : H q = some (.lst (ys.map V.int))) (k : Q (.bl (decide (xs = ys))) H) : rEqD K (.ref p) (.ref q) H Q := by
  refine ⟨pInts xs, pInts ys, dp_ints (SqL.of h1), dp_ints (SqL.of h2), shaped_ints _, shaped_ints _, ?_⟩
  rw [eqv_ints]
  exact k
theorem slT_to {a : Addr} {xs : List V} {m : Nat} (h : H a = some (.tup xs)) (k : ∀ p H', Same H H' → H' p = some (.tup (xs.take m)) → Q (.ref p) H') : rSlA K (.ref a) none (some (m : Int)) H Q := by
  refine ⟨a, xs, rfl, SqT.of h, fun w => k a H (Same.refl H) ?_, fun _ p hp => k p _ (Same.new hp) ?_⟩
  · rw [sIx_nat] at w
    rw [h, List.take_of_length_le (by omega)]
  · rw [upd_same]
    show some (HO.tup ((xs.drop (HT.sIx xs.length 0 none)).take (HT.sIx xs.length xs.length (some (m : Int)) - HT.sIx xs.length 0 none))) = _
    rw [sIx_nat, sIx_none, List.drop_zero, Nat.sub_zero, ← List.take_eq_take_min]
theorem slT_from {a : Addr} {xs : List V} {m : Nat} (h : H a = some (.tup xs)) (k : ∀ p H', Same H H' → H' p = some (.tup (xs.drop m)) → Q (.ref p) H') : rSlA K (.ref a) (some (m : Int)) none H Q := by
  refine ⟨a, xs, rfl, SqT.of h, fun w => k a H (Same.refl H) ?_, fun _ p hp => k p _ (Same.new hp) ?_⟩
  · rw [sIx_nat] at w
    have : m = 0 ∨ xs = [] := by
      cases xs with
      | nil => exact .inr rfl
      | cons x r => left; have := w.1; rw [List.length_cons] at this; omega
    rcases this with rfl | rfl
    · rw [h, List.drop_zero]
    · rw [h]; simp
  · rw [upd_same]
    show some (HO.tup ((xs.drop (HT.sIx xs.length 0 (some (m : Int)))).take (HT.sIx xs.length xs.length none - HT.sIx xs.length 0 (some (m : Int))))) = _
    rw [sIx_nat, sIx_none]
    congr 2
    rw [List.take_of_length_le (by rw [List.length_drop]; omega)]
    by_cases q : m ≤ xs.length
    · rw [Nat.min_eq_left q]
    · rw [Nat.min_eq_right (by omega), List.drop_eq_nil_of_le (Nat.le_refl _), List.drop_eq_nil_of_le (by omega)]
theorem slT_both {a : Addr} {xs : List V} {m n : Nat} (h : H a = some (.tup xs)) (k : ∀ p H', Same H H' → H' p = some (.tup ((xs.take n).drop m)) → Q (.ref p) H') : rSlA K (.ref a) (some (m : Int)) (some (n : Int)) H Q := by
  have e : (xs.drop (min m xs.length)).take (min n xs.length - min m xs.length) = (xs.take n).drop m := by
    rw [List.drop_take]
    by_cases q : m ≤ xs.length
    · rw [Nat.min_eq_left q]
      by_cases q2 : n ≤ xs.length
      · rw [Nat.min_eq_left q2]
      · rw [Nat.min_eq_right (by omega)]
        rw [List.take_of_length_le (by rw [List.length_drop]; omega), List.take_of_length_le (by rw [List.length_drop]; omega)]
    · rw [Nat.min_eq_right (show xs.length ≤ m by omega), List.drop_eq_nil_of_le (Nat.le_refl _), List.drop_eq_nil_of_le (show xs.length ≤ m by omega)]
      simp
  refine ⟨a, xs, rfl, SqT.of h, fun w => k a H (Same.refl H) ?_, fun _ p hp => k p _ (Same.new hp) ?_⟩
  · rw [sIx_nat, sIx_nat] at w
    rw [h, ← e, w.1, w.2]
    simp
  · rw [upd_same]
    show some (HO.tup ((xs.drop (HT.sIx xs.length 0 (some (m : Int)))).take (HT.sIx xs.length xs.length (some (n : Int)) - HT.sIx xs.length 0 (some (m : Int))))) = _
    rw [sIx_nat, sIx_nat, e]
theorem catT {p q : Addr} {xs ys : List V} (h1 : H p = some (.tup xs)) (h2 : H q = some (.tup ys)) (hl : xs.length + ys.length ≤ sizeLine) (k : ∀ r H', Same H H' → H' r = some (.tup (xs ++ ys)) → Q (.ref r) H') : rCatA K (.ref p) (.ref q) H Q := by
  refine ⟨p, q, xs, ys, rfl, rfl, SqT.of h1, SqT.of h2, hl, fun e => k q H (Same.refl H) ?_, fun _ e => k p H (Same.refl H) ?_, fun _ _ r hr => k r _ (Same.new hr) upd_same⟩
  · rw [h2, e]; rfl
  · rw [h1, e, List.append_nil]
theorem op_catK {X : Cx} {K : PySem.W.Frag} (h : X.K = K) : OpR X (binaryOp .Add) (rCatA K) := by
  subst h
  exact op_catA
theorem sl_tupK {X : Cx} {K : PySem.W.Frag} (h : X.K = K) : SlR X (rSlA K) := by
  subst h
  exact sl_tupA
/-- [F(x) for x in t if f(x)], t a tuple; the test and the element change nothing -/
theorem lc_tupF {K : PySem.W.Frag} {a : Addr} {xs : List V} {f : V → Bool} {F : V → V} {tt : TT} {te : TE} {i0 : Nat} {vs : List Nat} {σ : L2.St} {H1 : Hp} {D : Addr} {Qd : Hp → Prop} (hD : H1 D = none) (ha : H1 a = some (.tup xs)) (hn : xs.length ≤ sizeLine)
    (hw : ∀ u : V, wipe ((wipe σ vs).set i0 (some u)) vs = wipe σ vs)
    (ht : ∀ (x : V) (H : Hp) (Q : Bool → Hp → Prop), x ∈ xs → Same H1 H → Q (f x) H → tt ((wipe σ vs).set i0 (some x)) H Q)
    (he : ∀ (x : V) (H : Hp) (Q : VK), x ∈ xs → Same H1 H → Q (F x) H → te ((wipe σ vs).set i0 (some x)) H Q)
    (hd : ∀ H, Same H1 H → H D = some (.lst ((xs.filter f).map F)) → Qd H) :
    ∃ W : Nat → Nat → Hp → Prop, (∃ m, W 0 m (upd H1 D (.lst []))) ∧ ∀ i m H, W i m H → ((Itt K a).stop i H ∧ Qd H) ∨ ((Itt K a).go i H ∧ ∃ Nx : Hp → Prop, (∀ H', Nx H' → ∃ m', m' < m ∧ W (i + 1) m' H') ∧
      ∀ x H', (Itt K a).yld i H x H' → (gName i0) x (wipe σ vs) H' fun σ2 H2 => wipe σ2 vs = wipe σ vs ∧ tt σ2 H2 fun b H3 => if b = true then te σ2 H3 fun y H4 => ∃ acc, H4 D = some (.lst acc) ∧ acc.length < sizeLine ∧ Nx (upd H4 D (.lst (acc ++ [y]))) else Nx H3) := by
  refine lc_tup (K := K) (a := a) (xs := xs) (g := gName i0) (tt := tt) (te := te) (fun i H => Same H1 H ∧ H D = some (.lst (((xs.take i).filter f).map F))) ⟨Same.new hD, upd_same⟩ (fun i H _ p => SqT.of (p.1 _ _ ha)) ?_ (fun H p => hd H p.1 (by rw [p.2, List.take_length]))
  rintro i x H hx ⟨sm, hH⟩
  have il := (List.getElem?_eq_some_iff.mp hx).1
  have tk : xs.take (i + 1) = xs.take i ++ [x] := by rw [List.take_add_one, hx]; rfl
  have mem : x ∈ xs := List.mem_of_getElem? hx
  refine ⟨hw x, ht x H _ mem sm ?_⟩
  by_cases h : f x = true
  · rw [if_pos h]
    refine he x H _ mem sm ⟨_, hH, ?_, Same.put sm hD, ?_⟩
    · rw [List.length_map]
      have := List.length_filter_le f (xs.take i)
      rw [List.length_take] at this
      omega
    · rw [upd_same, tk, List.filter_append, List.map_append]
      simp [List.filter_cons, h]
  · rw [if_neg h]
    refine ⟨sm, ?_⟩
    rw [hH, tk, List.filter_append, List.map_append]
    simp [List.filter_cons, h]
/-- [F(x) for x in t if f(x)], t a list; the test and the element change nothing -/
theorem lc_listF {K : PySem.W.Frag} {a : Addr} {xs : List V} {f : V → Bool} {F : V → V} {tt : TT} {te : TE} {i0 : Nat} {vs : List Nat} {σ : L2.St} {H1 : Hp} {D : Addr} {Qd : Hp → Prop} (hD : H1 D = none) (ha : H1 a = some (.lst xs)) (hn : xs.length ≤ sizeLine)
    (hw : ∀ u : V, wipe ((wipe σ vs).set i0 (some u)) vs = wipe σ vs)
    (ht : ∀ (x : V) (H : Hp) (Q : Bool → Hp → Prop), x ∈ xs → Same H1 H → Q (f x) H → tt ((wipe σ vs).set i0 (some x)) H Q)
    (he : ∀ (x : V) (H : Hp) (Q : VK), x ∈ xs → Same H1 H → Q (F x) H → te ((wipe σ vs).set i0 (some x)) H Q)
    (hd : ∀ H, Same H1 H → H D = some (.lst ((xs.filter f).map F)) → Qd H) :
    ∃ W : Nat → Nat → Hp → Prop, (∃ m, W 0 m (upd H1 D (.lst []))) ∧ ∀ i m H, W i m H → ((Itl K a).stop i H ∧ Qd H) ∨ ((Itl K a).go i H ∧ ∃ Nx : Hp → Prop, (∀ H', Nx H' → ∃ m', m' < m ∧ W (i + 1) m' H') ∧
      ∀ x H', (Itl K a).yld i H x H' → (gName i0) x (wipe σ vs) H' fun σ2 H2 => wipe σ2 vs = wipe σ vs ∧ tt σ2 H2 fun b H3 => if b = true then te σ2 H3 fun y H4 => ∃ acc, H4 D = some (.lst acc) ∧ acc.length < sizeLine ∧ Nx (upd H4 D (.lst (acc ++ [y]))) else Nx H3) := by
  refine lc_list (K := K) (a := a) (xs := xs) (g := gName i0) (tt := tt) (te := te) (fun i H => Same H1 H ∧ H D = some (.lst (((xs.take i).filter f).map F))) ⟨Same.new hD, upd_same⟩ (fun i H _ p => SqL.of (p.1 _ _ ha)) ?_ (fun H p => hd H p.1 (by rw [p.2, List.take_length]))
  rintro i x H hx ⟨sm, hH⟩
  have il := (List.getElem?_eq_some_iff.mp hx).1
  have tk : xs.take (i + 1) = xs.take i ++ [x] := by rw [List.take_add_one, hx]; rfl
  have mem : x ∈ xs := List.mem_of_getElem? hx
  refine ⟨hw x, ht x H _ mem sm ?_⟩
  by_cases h : f x = true
  · rw [if_pos h]
    refine he x H _ mem sm ⟨_, hH, ?_, Same.put sm hD, ?_⟩
    · rw [List.length_map]
      have := List.length_filter_le f (xs.take i)
      rw [List.length_take] at this
      omega
    · rw [upd_same, tk, List.filter_append, List.map_append]
      simp [List.filter_cons, h]
  · rw [if_neg h]
    refine ⟨sm, ?_⟩
    rw [hH, tk, List.filter_append, List.map_append]
    simp [List.filter_cons, h]
theorem call_tuple_ofK {X : Cx} {K : PySem.W.Frag} (h : X.K = K) : CallR X (.type "tuple") (fun xs H Q => ∃ p ys, xs = [.ref p] ∧ ((SqL K H p ys ∧ ∀ l, H l = none → Q (.ref l) (upd H l (.tup ys))) ∨ (SqT K H p ys ∧ Q (.ref p) H))) := by
  subst h
  exact call_tuple_of
end
end Sx

set_option Elab.async false
set_option linter.all false
set_option maxRecDepth 100000
set_option maxHeartbeats 1000000
namespace Sx
open PySem PySem.Spec PyProof.Rows L2 SxA PySem.W
theorem cut_init (xs : List V) : cutV xs none (some (-1)) = xs.dropLast := by
  unfold cutV
  rw [HT.sIx_none, List.drop_zero, Nat.sub_zero, List.dropLast_eq_take]
  congr 1
  show (if (-1 : Int) < 0 then ((-1 : Int) + (xs.length : Int)).toNat else min (-1 : Int).toNat xs.length) = xs.length - 1
  rw [if_pos (by decide)]
  omega
def spCostX (K : PySem.W.Frag) : Sp := fun vs H Q _ => ∃ (x ma ra D : Addr) (W : Nat) (M zs : List Int) (z : Nat → Addr) (b : Nat → Bool) (as : List Addr) (l : List It2), vs = [.ref x, .ref D] ∧ LnAt K H x ma ra W M zs z b ∧ LinesAt H D as (l.map (lineI M b)) ∧ ItOk W M b l ∧ l.length ≤ 100 ∧ (0 < M.length ∧ M.head? ≠ some 48) ∧
  ∀ H', Same H H' → Q (.int ((costI W M b l : Nat) : Int)) H'
theorem begins8 {W : Nat} {M : List Int} {b : Nat → Bool} {i : It2} (b8 : b 8 = b 7) (hM : 0 < M.length ∧ M.head? ≠ some 48) (k2 : i.1 ≤ 2) : decide ((lineI M b i).take (mR 8 (b 8)).length = mR 8 (b 8)) = decide (i.1 = 2) := by
  obtain ⟨k, p⟩ := i
  obtain ⟨onj, lonj⟩ := on_joined b b8
  have lp : 0 < (mR 8 (b 8)).length := by rw [mR_len]; split <;> decide
  rw [decide_eq_decide]
  unfold lineI mkI
  dsimp only
  have : k = 0 ∨ k = 1 ∨ k = 2 := by dsimp only at k2; omega
  rcases this with rfl | rfl | rfl
  · rw [if_pos rfl]
    constructor
    · intro e
      exfalso
      have h2 := congrArg List.head? e
      rw [mR_head] at h2
      refine hM.2 ?_
      cases M with
      | nil => exact absurd hM.1 (Nat.lt_irrefl 0)
      | cons q r =>
        obtain ⟨u, hu⟩ : ∃ u, (mR 8 (b 8)).length = u + 1 := ⟨(mR 8 (b 8)).length - 1, by omega⟩
        rw [hu, List.cons_append, List.take_succ_cons] at h2
        exact h2
    · intro e; cases e
  · rw [if_neg (by decide), if_pos rfl, ← lonj, List.take_left]
    constructor
    · intro e; exact absurd e onj
    · intro e; cases e
  · rw [if_neg (by decide), if_neg (by decide), List.take_left]
    exact ⟨fun _ => rfl, fun _ => rfl⟩
theorem sum_gap (W : Nat) (M : List Int) (b : Nat → Bool) : ∀ l : List It2, (l.map fun i => ((gapI W M b i : Nat) : Int)).sum = (((l.map (gapI W M b)).sum : Nat) : Int)
  | [] => rfl
  | i :: l => by rw [List.map_cons, List.map_cons, List.sum_cons, List.sum_cons, sum_gap W M b l, Int.natCast_add]
theorem sum_jn : ∀ l : List It2, ((l.filter fun i => decide (i.1 = 2)).map fun _ => (50 : Int)).sum = (((l.map jnI).sum : Nat) : Int)
  | [] => rfl
  | i :: l => by
    rw [List.map_cons, List.sum_cons, List.filter_cons, Int.natCast_add, ← sum_jn l]
    unfold jnI
    by_cases h : i.1 = 2
    · rw [if_pos (decide_eq_true h), if_pos h, List.map_cons, List.sum_cons]; rfl
    · rw [if_neg (fun z => h (of_decide_eq_true z)), if_neg h]; simp
section
variable {P : Program} {w : World} {K : PySem.W.Frag} {mg : Str → Option Value} {base : Heap}
abbrev nsCostOf : List Str := ["shape", "lines", "joined", "gaps", "line"]
theorem scCostOf : FnScope nsCostOf ["shape", "lines"] (defScope sCostOf) := ⟨rfl, rfl, rfl, by decide +kernel, rfl, by decide +kernel, by decide +kernel⟩
theorem LinesAt.get {H : Hp} {D : Addr} {as : List Addr} {ls : List (List Int)} (h : LinesAt H D as ls) {x : V} {j : Nat} (hx : (as.map V.ref)[j]? = some x) : ∃ (a : Addr) (l : List Int), as[j]? = some a ∧ ls[j]? = some l ∧ x = .ref a ∧ H a = some (.tup (l.map V.int)) := by
  obtain ⟨a, ea, rfl⟩ := refsAt hx
  have il : j < ls.length := by rw [← h.len]; exact (List.getElem?_eq_some_iff.mp ea).1
  exact ⟨a, ls[j], ea, List.getElem?_eq_getElem il, rfl, h.el j a _ ea (List.getElem?_eq_getElem il)⟩
theorem ok_cost_of (t : T K mg) : Ok P w K mg base 1 "cost_of" ["shape", "lines"] (spCostX K) := by
  refine mkOk t.d_cost_of t.g_cost_of scCostOf (fun vs H Q E h => ?_) (fun _ _ _ _ _ _ us hl => match us, hl with | [_, _], _ => rfl) fun cdv A outer s H vs Q E hr h => ?_
  · obtain ⟨x, ma, ra, D, W, M, zs, z, b, as, l, rfl, _⟩ := h; rfl
  obtain ⟨x, ma, ra, D, W, M, zs, z, b, as, l, rfl, hL, hLn, hok, ll, hM, k⟩ := h
  obtain ⟨_, hk_JOINED_COST⟩ := t.i_JOINED_COST
  refine ⟨_, pss_cons (ps_set (i := 2) scCostOf.nd rfl (Or.inr rfl) (pe_fld (pe_fld (pv 0) rfl) rfl))
    (pss_cons (ps_set (i := 3) scCostOf.nd rfl (Or.inl rfl) (pe_callB (cr_sum rfl) rfl t.f_sum (by decide +kernel) (pa_cons (pe_lc (own := [("line", 4)]) (g := gName 4) (tt := tYes) rfl scCostOf.nd (pi_list (pe_slice sl_list (pv 1) po_none (po_some (pe_un un_neg pe_int)))) (blkOk_by (own := [("line", 4)]) (N := nsCostOf) (sc := defScope sCostOf) (by decide +kernel)) (fun _ _ _ _ _ => pg_name (i := 4) scCostOf.nd rfl (Or.inl rfl)) (fun _ _ _ _ _ => pts_nil) (fun _ _ _ _ _ => (pe_op op_pow (pe_op op_sub (pe_fldK (K := K) rfl (pv 0)) (pe_callB (call_lenK (K := K) rfl) rfl t.f_len boot_len (pa_cons (pv 4) pa_nil))) pe_int))) pa_nil)))
    (pss_one (ps_ret (pe_op op_add (pv 3) (pe_callB (cr_sum rfl) rfl t.f_sum (by decide +kernel) (pa_cons (pe_lc (own := [("line", 4)]) (g := gName 4) rfl scCostOf.nd (pi_list (pv 1)) (blkOk_by (own := [("line", 4)]) (N := nsCostOf) (sc := defScope sCostOf) (by decide +kernel)) (fun _ _ _ _ _ => pg_name (i := 4) scCostOf.nd rfl (Or.inl rfl)) (fun _ _ _ _ _ => pts_one (pt_cmpR (op_eqDK (K := K) rfl (hu64 hr)) (pe_slice (sl_tupAK (K := K) rfl) (pv 4) po_none (po_some (pe_callB (call_lenK (K := K) rfl) rfl t.f_len boot_len (pa_cons (pv 2) pa_nil)))) (pv 2) (nomark _))) (fun _ _ _ _ _ => (pgi rfl hk_JOINED_COST))) pa_nil)))))), ?_⟩
  obtain ⟨dx, h1, sz, m, dm, dp, hS⟩ := hL.sh
  have hw := hL.wM
  refine ⟨_, rfl, x, _, dx, _, _, rfl, hS.ins, t.c_Shape, t.n_Shape_marks, lkM _ _ _ _, m, _, dm, _, _, rfl, hS.mks.ins, t.c_Marks, t.n_Marks_joined, lk8 _ _, ?_⟩
  refine ⟨_, rfl, _, rfl, _, rfl, D, _, rfl, SqL.of hLn.at_, fun e he => ⟨e, rfl, ⟨_, SqL.of upd_same⟩, fun C hC => ?_⟩⟩
  rw [cut_init]
  have sE : Same H (upd H e (.lst (as.map V.ref).dropLast)) := Same.new he
  have al : as.length = l.length := by rw [hLn.len, List.length_map]
  have hE := upd_same (H := H) (a := e) (o := .lst (as.map V.ref).dropLast)
  rw [cut_init] at hC
  refine lc_list (K := K) (a := e) (xs := (as.map V.ref).dropLast) (g := gName 4) (fun j H' => H' C = some (.lst (((l.take j).map fun i => ((gapI W M b i : Nat) : Int)).map V.int)) ∧ Same (upd H e (.lst (as.map V.ref).dropLast)) H') ⟨upd_same, Same.new hC⟩ (fun j H' _ q => SqL.of (q.2 _ _ hE)) ?_ ?_
  · rintro j v H' hv ⟨hc, s1⟩
    have jl : j < l.length - 1 := by
      have := (List.getElem?_eq_some_iff.mp hv).1
      rw [List.length_dropLast, List.length_map] at this
      omega
    rw [List.dropLast_eq_take, List.getElem?_take, if_pos (by rw [List.length_map]; omega)] at hv
    obtain ⟨a, ln, ea, el, rfl, ha⟩ := ((hLn.same sE).same s1).get hv
    rw [List.getElem?_map] at el
    obtain ⟨it, hit⟩ : ∃ it, l[j]? = some it := ⟨_, List.getElem?_eq_getElem (by omega)⟩
    rw [hit] at el
    obtain rfl := Option.some.inj el
    have lw : (lineI M b it).length ≤ W := by
      obtain ⟨kk, p⟩ := it
      obtain ⟨_, _, _, q⟩ := hok j kk p hit
      unfold lineI
      rw [List.length_append]
      exact q
    have hS' := (hS.same sE).same s1
    refine ⟨rfl, ?_⟩
    refine ⟨_, rfl, x, _, dx, _, _, rfl, hS'.ins, t.c_Shape, t.n_Shape_width, lkW _ _ _ _, _, rfl, a, _, rfl, .inr (SqT.of ha), _, _, rfl, rfl, _, _, rfl, rfl, ⟨by decide, by decide, by rw [List.length_map]; omega⟩, ?_⟩
    have tk : l.take (j + 1) = l.take j ++ [it] := by rw [List.take_add_one, hit]; rfl
    refine ⟨_, hc, by rw [List.length_map, List.length_map, List.length_take]; exact small1 (by omega), ?_, Same.put s1 hC⟩
    rw [upd_same, tk, List.map_append, List.map_append]
    have : ((W : Int) - ((((lineI M b it).map V.int).length : Nat) : Int)) ^ (2 : Int).toNat = ((gapI W M b it : Nat) : Int) := by
      unfold gapI
      rw [List.length_map, Int.natCast_pow, Int.natCast_sub lw]
      rfl
    show some (HO.lst (_ ++ [V.int (((W : Int) - ((((lineI M b it).map V.int).length : Nat) : Int)) ^ (2 : Int).toNat)])) = _
    rw [this]
    rfl
  rintro H1 ⟨hc, s1⟩
  rw [List.length_dropLast, List.length_map, al, ← List.dropLast_eq_take] at hc
  refine ⟨C, _, rfl, SqL.of hc, ?_⟩
  have s01 := sE.trans s1
  refine ⟨_, rfl, _, rfl, D, rfl, ⟨_, SqL.of (s01 _ _ hLn.at_)⟩, fun C2 hC2 => ?_⟩
  refine lc_list (K := K) (a := D) (xs := as.map V.ref) (g := gName 4) (fun j H' => H' C2 = some (.lst ((((l.take j).filter fun i => decide (i.1 = 2)).map fun _ => (50 : Int)).map V.int)) ∧ Same H1 H') ⟨upd_same, Same.new hC2⟩ (fun j H' _ q => SqL.of (q.2 _ _ (s01 _ _ hLn.at_))) ?_ ?_
  · rintro j v H2 hv ⟨hc2, s2⟩
    have s02 := s01.trans s2
    obtain ⟨a, ln, ea, el, rfl, ha⟩ := (hLn.same s02).get hv
    have jl : j < l.length := by rw [← al]; exact (List.getElem?_eq_some_iff.mp ea).1
    rw [List.getElem?_map] at el
    obtain ⟨it, hit⟩ : ∃ it, l[j]? = some it := ⟨_, List.getElem?_eq_getElem jl⟩
    rw [hit] at el
    obtain rfl := Option.some.inj el
    have k2 := (hok j it.1 it.2 hit).2.1
    have hj2 := s02 _ _ (hS.mks.el 8 (by decide))
    have tk : l.take (j + 1) = l.take j ++ [it] := by rw [List.take_add_one, hit]; rfl
    refine ⟨rfl, ?_⟩
    refine ⟨_, rfl, _, rfl, z 8, _, rfl, .inr (SqT.of hj2), _, rfl, ?_⟩
    rw [List.length_map]
    refine slT ha fun r H5 s5 hr5 => ⟨_, rfl, eqT hr5 (s5 _ _ hj2) ?_⟩
    rw [begins8 (W := W) hL.b8 hM k2]
    refine ⟨_, rfl, ?_⟩
    rw [tk, List.filter_append, List.map_append, List.map_append]
    have sml : ((((l.take j).filter fun i => decide (i.1 = 2)).map fun _ => (50 : Int)).map V.int).length ≤ 100 := by
      rw [List.length_map, List.length_map]
      have := List.length_filter_le (fun i : It2 => decide (i.1 = 2)) (l.take j)
      rw [List.length_take] at this
      omega
    refine ite2 (fun h => ?_) (fun h => ?_)
    · refine ⟨_, s5 _ _ hc2, small1 (by omega), ?_, Same.put (s2.trans s5) hC2⟩
      rw [upd_same, List.filter_cons, if_pos h]
      rfl
    · refine ⟨?_, s2.trans s5⟩
      rw [s5 _ _ hc2, List.filter_cons, if_neg h]
      simp
  rintro H2 ⟨hc2, s2⟩
  rw [List.length_map, al, List.take_length] at hc2
  refine ⟨C2, _, rfl, SqL.of hc2, _, _, rfl, rfl, ?_⟩
  have e1 := sum_gap W M b l.dropLast
  have e2 := sum_jn l
  have := k H2 (s01.trans s2)
  unfold costI at this
  rw [Int.natCast_add, ← e1, ← e2] at this
  exact this
end
end Sx

set_option Elab.async false
set_option linter.all false
set_option maxRecDepth 100000
set_option maxHeartbeats 1000000
namespace Sx
open PySem PySem.Spec PyProof.Rows L2 SxA PySem.W
theorem getz {zs : List Int} {i : Nat} (h : i < zs.length) : (zs.map V.int)[i]? = some (.int (zs.getD i 1)) := by
  rw [List.getElem?_map, List.getD_eq_getElem?_getD, List.getElem?_eq_getElem h]
  rfl
/-- the words of the ways -/
def wS (k : Nat) : Str := if k = 0 then Str.ofString "first" else if k = 1 then Str.ofString "on" else Str.ofString "joined"
def mkS (M : List Int) (b : Nat → Bool) (k : Nat) : List Int := if k = 0 then M else if k = 1 then mR 7 (b 7) else mR 8 (b 8)
def spMark (K : PySem.W.Frag) : Sp := fun vs H Q _ => ∃ (m R ma : Addr) (W : Nat) (M : List Int) (b : Nat → Bool) (ps : List Addr) (kind : Nat), vs = [.ref m, .ref ma, .str (wS kind)] ∧ kind < 3 ∧ H m = some (.lst [.int (W : Int), .ref R]) ∧ RowsAt H R 10 b ps ∧ H ma = some (.tup (M.map V.int)) ∧
  ∀ p H', Same H H' → H' p = some (.lst ((mkS M b kind).map V.int)) → Q (.ref p) H'
/-- what _law_following says: (the beginning, "on" or "joined") -/
def folW (zs : List Int) (e : Nat) : List (Nat × Nat) := (e, 2) :: (if zs.getD e 1 = 0 ∧ e + 1 < zs.length then [(e + 1, 1)] else [])
structure WaysAt (H : Hp) (p : Addr) (l : List (Nat × Nat)) : Prop where
  ex : ∃ ps : List Addr, H p = some (.lst (ps.map V.ref)) ∧ ps.length = l.length ∧ ∀ (i : Nat) (q : Addr) (k : Nat × Nat), ps[i]? = some q → l[i]? = some k → H q = some (.tup [nv k.1, .str (wS k.2)])
theorem WaysAt.same {H H' : Hp} {p : Addr} {l : List (Nat × Nat)} (h : WaysAt H p l) (s : Same H H') : WaysAt H' p l := by
  obtain ⟨ps, h1, h2, h3⟩ := h.ex
  exact ⟨ps, s _ _ h1, h2, fun i q k e1 e2 => s _ _ (h3 i q k e1 e2)⟩
def spFolW : Sp := fun vs H Q _ => ∃ (ra : Addr) (zs : List Int) (e : Nat), vs = [.ref ra, .int (e : Int)] ∧ H ra = some (.lst (zs.map V.int)) ∧ e < zs.length ∧ ∀ p H', H p = Option.none → Same H H' → WaysAt H' p (folW zs e) → Q (.ref p) H'
theorem pick3 (x y z : Addr) {kind : Nat} (h : kind < 3) : valV (mergeK [] [(Sum.inr (Str.ofString "first"), V.ref x), (Sum.inr (Str.ofString "on"), V.ref y), (Sum.inr (Str.ofString "joined"), V.ref z)]) (Sum.inr (wS kind) : Key) = some (.ref (if kind = 0 then x else if kind = 1 then y else z)) := by
  have : kind = 0 ∨ kind = 1 ∨ kind = 2 := by omega
  rcases this with rfl | rfl | rfl <;> rfl
section
variable {P : Program} {w : World} {K : PySem.W.Frag} {mg : Str → Option Value} {base : Heap}
abbrev nsLawMark : List Str := ["made", "mark", "way"]
theorem scLawMark : FnScope nsLawMark ["made", "mark", "way"] (defScope sLawMark) := ⟨rfl, rfl, rfl, by decide +kernel, rfl, by decide +kernel, by decide +kernel⟩
theorem ok_law_mark (t : T K mg) : Ok P w K mg base 1 "_law_mark" ["made", "mark", "way"] (spMark K) := by
  refine mkOk t.d_law_mark t.g_law_mark scLawMark (fun vs H Q E h => ?_) (fun _ _ _ _ _ _ us hl => match us, hl with | [_, _, _], _ => rfl) fun cdv A outer s H vs Q E hr h => ?_
  · obtain ⟨m, R, ma, W, M, b, ps, kind, rfl, _⟩ := h; rfl
  obtain ⟨m, R, ma, W, M, b, ps, kind, rfl, hk, hm, hR, hma, k⟩ := h
  refine ⟨_, pss_one (ps_ret (pe_dget (hu_of hr) (pe_disp (pps_cons pe_str (pe_callTy call_list_of rfl t.f_list (by decide +kernel) (pa_cons (pv 1) pa_nil)) (pps_cons pe_str (pe_ix ix_list (pe_ix ix_list (pv 0) pe_int (fun _ _ => rfl)) pe_int (fun _ _ => rfl)) (pps_cons pe_str (pe_ix ix_list (pe_ix ix_list (pv 0) pe_int (fun _ _ => rfl)) pe_int (fun _ _ => rfl)) pps_nil))) rfl rfl (by simp) (by decide)) (pv 2) (fun _ _ => rfl))), ?_⟩
  refine fun p hp => ?_
  have hl10 := hR.len
  obtain ⟨p7, e7⟩ : ∃ q, ps[7]? = some q := ⟨_, List.getElem?_eq_getElem (by omega)⟩
  obtain ⟨p8, e8⟩ : ∃ q, ps[8]? = some q := ⟨_, List.getElem?_eq_getElem (by omega)⟩
  have sp : Same H (upd H p (.dK [])) := Same.new hp
  refine ⟨_, rfl, ma, _, rfl, .inr (SqT.of (sp _ _ hma)), fun l hl => ?_⟩
  have sl' : Same H (upd (upd H p (.dK [])) l (.lst (M.map V.int))) := sp.trans (Same.new hl)
  have npl : p ≠ l := fun z => by rw [← z, upd_same] at hl; cases hl
  refine ⟨_, rfl, m, _, _, .ref R, rfl, rfl, SqL.of (sl' _ _ hm), atI_nat (j := 1) rfl, R, _, _, .ref p7, rfl, rfl, SqL.of (sl' _ _ hR.at_), atI_nat (j := 7) (by rw [List.getElem?_map, e7]; rfl), ?_⟩
  refine ⟨_, rfl, m, _, _, .ref R, rfl, rfl, SqL.of (sl' _ _ hm), atI_nat (j := 1) rfl, R, _, _, .ref p8, rfl, rfl, SqL.of (sl' _ _ hR.at_), atI_nat (j := 8) (by rw [List.getElem?_map, e8]; rfl), ?_⟩
  refine ⟨by rw [upd_ne npl]; exact upd_same, [(Sum.inr (Str.ofString "first"), .ref l), (Sum.inr (Str.ofString "on"), .ref p7), (Sum.inr (Str.ofString "joined"), .ref p8)], rfl, (by show 3 ≤ 15; decide), _, rfl, p, .ref (if kind = 0 then l else if kind = 1 then p7 else p8), rfl, .inl ⟨_, Sum.inr (wS kind), .inl upd_same, rfl, (pick3 l p7 p8 hk).symm⟩, ?_⟩
  have s2 : Same H (upd (upd (upd H p (.dK [])) l (.lst (M.map V.int))) p (.dK (mergeK [] [(Sum.inr (Str.ofString "first"), V.ref l), (Sum.inr (Str.ofString "on"), .ref p7), (Sum.inr (Str.ofString "joined"), .ref p8)]))) := Same.put sl' hp
  refine k _ _ s2 ?_
  unfold mkS
  have : kind = 0 ∨ kind = 1 ∨ kind = 2 := by omega
  rcases this with rfl | rfl | rfl
  · rw [if_pos rfl, if_pos rfl, upd_ne npl.symm, upd_same]
  · exact s2 _ _ (hR.el 7 p7 e7)
  · exact s2 _ _ (hR.el 8 p8 e8)
abbrev nsLawFollowing : List Str := ["row", "end", "found"]
theorem scLawFollowing : FnScope nsLawFollowing ["row", "end"] (defScope sLawFollowing) := ⟨rfl, rfl, rfl, by decide +kernel, rfl, by decide +kernel, by decide +kernel⟩
theorem ok_law_following (t : T K mg) : Ok P w K mg base 1 "_law_following" ["row", "end"] spFolW := by
  refine mkOk t.d_law_following t.g_law_following scLawFollowing (fun vs H Q E h => ?_) (fun _ _ _ _ _ _ us hl => match us, hl with | [_, _], _ => rfl) fun cdv A outer s H vs Q E hr h => ?_
  · obtain ⟨ra, zs, e, rfl, _⟩ := h; rfl
  obtain ⟨ra, zs, e, rfl, hz, he, k⟩ := h
  refine ⟨_, pss_cons (ps_set (i := 2) scLawFollowing.nd rfl (Or.inl rfl) (pe_lst (pa_cons (pe_tup (pa_cons (pv 1) (pa_cons pe_str pa_nil))) pa_nil)))
    (C8.pss_cut (ps_if (PW.pt (pw_and (pt_cmpR op_eq (pe_ix ix_list (pv 0) (pv 1) (fun _ _ => rfl)) pe_int (nomark _)) (pw_and1 (pt_cmpR op_lt (pe_op op_add (pv 1) pe_int) (pe_callB call_len_seq rfl t.f_len boot_len (pa_cons (pv 0) pa_nil)) (nomark _)))))
      (pss_one (ps_expr (pe_bm PySem.F.plainAttrs_list PySem.F.slot_list_append PySem.F.type_list_append mt_append (pv 2) (pa_cons (pe_tup (pa_cons (pe_op op_add (pv 1) pe_int) (pa_cons pe_str pa_nil))) pa_nil))))
      pss_nil)
    (pss_one (ps_ret (pv 2)))), ?_⟩
  have ln : (zs.map V.int).length = zs.length := List.length_map ..
  refine ⟨_, rfl, (by show 2 ≤ sizeLine; decide), fun q1 hq1 => ⟨(by show 1 ≤ sizeLine; decide), fun p hp => ?_⟩⟩
  have n1 : q1 ≠ p := fun z => by rw [← z, upd_same] at hp; cases hp
  have hp0 : H p = Option.none := Sx.Same.none (Same.new hq1) _ hp
  have s1 : Same H (upd (upd H q1 (.tup [nv e, .str (wS 2)])) p (.lst [.ref q1])) := (Same.new hq1).trans (Same.new hp)
  have hq1p : upd (upd H q1 (.tup [nv e, .str (wS 2)])) p (.lst [.ref q1]) q1 = some (.tup [nv e, .str (wS 2)]) := by rw [upd_ne n1]; exact upd_same
  have base0 : ∀ cond : ¬ (zs.getD e 1 = 0 ∧ e + 1 < zs.length), WaysAt (upd (upd H q1 (.tup [nv e, .str (wS 2)])) p (.lst [.ref q1])) p (folW zs e) := fun cond => by
    unfold folW
    rw [if_neg cond]
    refine ⟨[q1], upd_same, rfl, fun i q k e1 e2 => ?_⟩
    match i, e1, e2 with
    | 0, e1, e2 =>
      obtain rfl := Option.some.inj e1
      obtain rfl := Option.some.inj e2
      exact hq1p
  refine ⟨fun σ2 H2 => σ2 = [some (.ref ra), some (.int (e : Int)), some (.ref p)] ∧ Same H H2 ∧ WaysAt H2 p (folW zs e), ?_, ?_⟩
  · refine ⟨_, rfl, _, rfl, ra, _, _, .int (zs.getD e 1), rfl, rfl, SqL.of (s1 _ _ hz), atI_nat (getz he), rfl, _, rfl, ite2 (fun h1 => ?_) (fun h1 => ?_)⟩
    · have z0 : zs.getD e 1 = 0 := V.int.inj (of_decide_eq_true h1)
      refine ⟨_, rfl, _, _, rfl, rfl, _, rfl, ra, _, rfl, .inl (SqL.of (s1 _ _ hz)), _, _, rfl, rfl, _, rfl, ite2 (fun h2 => ?_) (fun h2 => ?_)⟩
      · have l2 : e + 1 < zs.length := by have := of_decide_eq_true h2; rw [ln] at this; omega
        refine ⟨_, rfl, .inl ⟨rfl, _, SqL.of upd_same⟩, _, rfl, _, _, rfl, rfl, (by show 2 ≤ sizeLine; decide), fun q2 hq2 => ?_⟩
        have n2 : q2 ≠ p := fun z => by rw [z, upd_same] at hq2; cases hq2
        have n3 : q2 ≠ q1 := fun z => by rw [z] at hq2; exact absurd (hq1p.symm.trans hq2) (by intro h; cases h)
        refine ⟨p, _, _, rfl, rfl, by rw [upd_ne n2.symm]; exact upd_same, (by show 1 < sizeLine; decide), rfl, Same.put (s1.trans (Same.new hq2)) hp0, ?_⟩
        unfold folW
        rw [if_pos ⟨z0, l2⟩]
        refine ⟨[q1, q2], upd_same, rfl, fun i q k e1 e2 => ?_⟩
        match i, e1, e2 with
        | 0, e1, e2 =>
          obtain rfl := Option.some.inj e1
          obtain rfl := Option.some.inj e2
          rw [upd_ne n1, upd_ne n3.symm]
          exact hq1p
        | 1, e1, e2 =>
          obtain rfl := Option.some.inj e1
          obtain rfl := Option.some.inj e2
          rw [upd_ne n2, upd_same]
          rfl
      · exact ⟨rfl, s1, base0 fun z => h2 (by rw [ln]; exact decide_eq_true (by omega))⟩
    · exact ⟨rfl, s1, base0 fun z => h1 (by rw [z.1]; rfl)⟩
  · rintro σ2 H2 ⟨rfl, s2, hW⟩
    exact ⟨_, rfl, k p H2 hp0 s2 hW⟩
end
end Sx

set_option Elab.async false
set_option linter.all false
set_option maxRecDepth 100000
set_option maxHeartbeats 1000000
namespace Sx
open PySem PySem.Spec PyProof.Rows L2 SxA PySem.W
theorem cut_to (xs : List V) (n : Nat) : cutV xs none (some (n : Int)) = xs.take n := by
  unfold cutV
  rw [HT.sIx_nat, HT.sIx_none, List.drop_zero, Nat.sub_zero, ← List.take_eq_take_min]
theorem cut_from (xs : List V) (n : Nat) : cutV xs (some (n : Int)) none = xs.drop n := by
  unfold cutV
  rw [HT.sIx_nat, HT.sIx_none, List.take_of_length_le (by rw [List.length_drop]; omega)]
  by_cases q : n ≤ xs.length
  · rw [Nat.min_eq_left q]
  · rw [Nat.min_eq_right (by omega), List.drop_eq_nil_of_le (Nat.le_refl _), List.drop_eq_nil_of_le (by omega)]
theorem Dk.lst {H : Hp} {d l : Addr} (h : Dk H d l) : ∃ xs, H d = some (.lst xs) := by
  obtain ⟨ns, a, b, c, e, _⟩ := h.ex
  exact ⟨_, e⟩
theorem Dk.neP {H : Hp} {d l p : Addr} {ps : List Addr} (h : Dk H d l) (hp : H p = some (.lst (ps.map V.ref))) : p ≠ d := by
  obtain ⟨ns, a, b, c, e, _⟩ := h.ex
  intro z
  rw [z, e] at hp
  have hp := HO.lst.inj (Option.some.inj hp)
  cases ps with
  | nil => cases hp
  | cons x r =>
    cases r with
    | nil => cases hp
    | cons y r =>
      rw [List.map_cons, List.map_cons] at hp
      injection hp with _ hp
      injection hp with hp _
      cases hp
theorem ShAt.but {K : PySem.W.Frag} {H H' : Hp} {x dx m dm dp d l : Addr} {w h s : Int} {z : Nat → Addr} {b : Nat → Bool} (S : ShAt K H x dx w h s m dm z dp b) (e : But d H H') (D : Dk H d l) : ShAt K H' x dx w h s m dm z dp b := by
  obtain ⟨ns, a, y1, y2, hd, _⟩ := D.ex
  exact ⟨e _ _ S.ins (ne_of S.ins hd (by intro z; cases z)), S.mks.but e (ne_of S.mks.ins hd (by intro z; cases z)) (D.neR S.mks.dep) fun j hj => ne_of (S.mks.el j hj) hd (by intro z; cases z)⟩
theorem RowsAt.ned {H : Hp} {R d l : Addr} {b : Nat → Bool} {ps : List Addr} (h : RowsAt H R 10 b ps) (D : Dk H d l) : R ≠ d := by
  have hl := h.len
  have ha := h.at_
  match ps, hl, ha with
  | x :: y :: r, _, ha => exact D.neR ha
theorem LnAt.but {K : PySem.W.Frag} {H H' : Hp} {d l x ma ra : Addr} {W : Nat} {M zs : List Int} {z : Nat → Addr} {b : Nat → Bool} (L : LnAt K H x ma ra W M zs z b) (e : But d H H') (D : Dk H d l) : LnAt K H' x ma ra W M zs z b := by
  obtain ⟨dx, h, sz, m, dm, dp, hS⟩ := L.sh
  obtain ⟨xs, hd⟩ := D.lst
  exact ⟨⟨dx, h, sz, m, dm, dp, hS.but e D⟩, e _ _ L.mka (ne_of L.mka hd (by intro z; cases z)), e _ _ L.row (D.neI L.row), L.b8, L.wM, L.zl⟩
/-- all that the law made -/
structure Made (K : PySem.W.Frag) (H : Hp) (d l m R x ma ra : Addr) (W : Nat) (M zs : List Int) (z : Nat → Addr) (b : Nat → Bool) (ps : List Addr) : Prop where
  ln : LnAt K H x ma ra W M zs z b
  mk_ : H m = some (.lst [.int (W : Int), .ref R])
  rows : RowsAt H R 10 b ps
  dk : Dk H d l
  nm : m ≠ d
theorem Made.same {K : PySem.W.Frag} {H H' : Hp} {d l m R x ma ra : Addr} {W : Nat} {M zs : List Int} {z : Nat → Addr} {b : Nat → Bool} {ps : List Addr} (S : Made K H d l m R x ma ra W M zs z b ps) (s : Same H H') : Made K H' d l m R x ma ra W M zs z b ps := ⟨S.ln.same s, s _ _ S.mk_, S.rows.same s, S.dk.same s, S.nm⟩
theorem Made.but {K : PySem.W.Frag} {H H' : Hp} {d l m R x ma ra : Addr} {W : Nat} {M zs : List Int} {z : Nat → Addr} {b : Nat → Bool} {ps : List Addr} (S : Made K H d l m R x ma ra W M zs z b ps) (s : But d H H') (D : Dk H' d l) : Made K H' d l m R x ma ra W M zs z b ps := ⟨S.ln.but s S.dk, s _ _ S.mk_ S.nm, S.rows.but s S.dk (S.rows.ned S.dk), D, S.nm⟩
end Sx

set_option Elab.async false
set_option linter.all false
set_option maxRecDepth 100000
set_option maxHeartbeats 2000000
namespace Sx
open PySem PySem.Spec PyProof.Rows L2 SxA PySem.W
def spAny (K : PySem.W.Frag) : Sp := fun vs H Q _ => ∃ (d l0 m R x ma ra : Addr) (W : Nat) (M zs : List Int) (z : Nat → Addr) (b : Nat → Bool) (ps : List Addr), vs = [.ref d, .ref m, .ref ma, .ref ra] ∧ Made K H d l0 m R x ma ra W M zs z b ps ∧ 0 < zs.length ∧
  ∀ D as l H', H D = Option.none → LinesAt H' D as (l.map (lineI M b)) → ItOk W M b l → flatI l = zs → 0 < l.length → l.length ≤ 100 → Dk H' d l0 → But d H H' → Q (.ref D) H'
theorem LinesAt.but {H H' : Hp} {d l0 D : Addr} {as : List Addr} {ls : List (List Int)} (h : LinesAt H D as ls) (s : But d H H') (K : Dk H d l0) : LinesAt H' D as ls := ⟨s _ _ h.at_ (K.neP h.at_), h.len, fun i a l e1 e2 => by
  obtain ⟨xs, hd⟩ := K.lst
  have := h.el i a l e1 e2
  exact s _ _ this (ne_of this hd (by intro z; cases z))⟩
theorem wS_0 : Str.ofString "first" = wS 0 := rfl
section
variable {P : Program} {w : World} {K : PySem.W.Frag} {mg : Str → Option Value} {base : Heap}
abbrev nsLawAnyLines : List Str := ["deck", "made", "mark", "row", "lines", "cell", "way", "turn", "start", "room", "end", "chosen", "pair"]
theorem scLawAnyLines : FnScope nsLawAnyLines ["deck", "made", "mark", "row"] (defScope sLawAnyLines) := ⟨rfl, rfl, rfl, by decide +kernel, rfl, by decide +kernel, by decide +kernel⟩
theorem ok_law_any_lines (t : T K mg) : Ok P w K mg base 2 "_law_any_lines" ["deck", "made", "mark", "row"] (spAny K) := by
  refine mkOk t.d_law_any_lines t.g_law_any_lines scLawAnyLines (fun vs H Q E h => ?_) (fun _ _ _ _ _ _ us hl => match us, hl with | [_, _, _, _], _ => rfl) fun cdv A outer s H vs Q E hr h => ?_
  · obtain ⟨d, l0, m, R, x, ma, ra, W, M, zs, z, b, ps, rfl, _⟩ := h; rfl
  obtain ⟨d, l0, m, R, x, ma, ra, W, M, zs, z, b, ps, rfl, S, nz, k⟩ := h
  have hr1 : Room 1 _ := hr.mono (by decide)
  refine ⟨_, pss_cons (ps_set (i := 4) scLawAnyLines.nd rfl (Or.inl rfl) (pe_lst pa_nil))
    (pss_cons (ps_set (i := 5) scLawAnyLines.nd rfl (Or.inl rfl) pe_int)
    (pss_cons (ps_set (i := 6) scLawAnyLines.nd rfl (Or.inl rfl) pe_str)
    (pss_cons (ps_for PassesOwn.never rfl (pi_range1 rfl t.f_range (pa_cons (pe_callB call_len_seq rfl t.f_len boot_len (pa_cons (pv 3) pa_nil)) pa_nil)) (pg_name (i := 7) scLawAnyLines.nd rfl (Or.inl rfl))
      (pss_one (ps_if (pt_cmpR op_lt (pv 5) (pe_callB call_len_seq rfl t.f_len boot_len (pa_cons (pv 3) pa_nil)) (nomark _))
      (pss_cons (ps_set (i := 8) scLawAnyLines.nd rfl (Or.inl rfl) (pe_ok (ok_law_mark t) hr1 rfl (pa_cons (pv 1) (pa_cons (pv 2) (pa_cons (pv 6) pa_nil)))))
    (pss_cons (ps_set (i := 9) scLawAnyLines.nd rfl (Or.inl rfl) (pe_callB (call_min2 rfl) rfl t.f_min boot_min (pa_cons (pe_op op_sub (pe_callB call_len_seq rfl t.f_len boot_len (pa_cons (pv 3) pa_nil)) (pv 5)) (pa_cons (pe_op op_sub (pe_ix ix_list (pv 1) pe_int (fun _ _ => rfl)) (pe_callB call_len_seq rfl t.f_len boot_len (pa_cons (pv 8) pa_nil))) pa_nil))))
    (pss_cons (ps_set (i := 10) scLawAnyLines.nd rfl (Or.inl rfl) (pe_op op_add (pe_op op_add (pv 5) pe_int) (pe_ok (ok_law_draw t) hr1 rfl (pa_cons (pv 0) (pa_cons (pv 9) pa_nil)))))
    (pss_cons (ps_expr (pe_bm PySem.F.plainAttrs_list PySem.F.slot_list_append PySem.F.type_list_append mt_append (pv 4) (pa_cons (pe_callTy call_tuple_of rfl t.f_tuple (by decide +kernel) (pa_cons (pe_op op_cat (pv 8) (pe_slice sl_list (pv 3) (po_some (pv 5)) (po_some (pv 10)))) pa_nil)) pa_nil)))
    (pss_cons (ps_set (i := 5) scLawAnyLines.nd rfl (Or.inl rfl) (pv 10))
    (pss_one (ps_if (pt_cmpR op_lt (pv 10) (pe_callB call_len_seq rfl t.f_len boot_len (pa_cons (pv 3) pa_nil)) (nomark _))
      (pss_cons (ps_set (i := 11) scLawAnyLines.nd rfl (Or.inl rfl) (pe_ok (ok_law_following t) hr1 rfl (pa_cons (pv 3) (pa_cons (pv 10) pa_nil))))
    (pss_cons (ps_set (i := 12) scLawAnyLines.nd rfl (Or.inl rfl) (pe_ix ix_list (pv 11) (pe_ok (ok_law_draw t) hr1 rfl (pa_cons (pv 0) (pa_cons (pe_callB call_len_seq rfl t.f_len boot_len (pa_cons (pv 11) pa_nil)) pa_nil))) (fun _ _ => rfl)))
    (pss_cons (ps_set (i := 5) scLawAnyLines.nd rfl (Or.inl rfl) (pe_ix ix_tup (pv 12) pe_int (fun _ _ => rfl)))
    (pss_one (ps_set (i := 6) scLawAnyLines.nd rfl (Or.inl rfl) (pe_ix ix_tup (pv 12) pe_int (fun _ _ => rfl)))))))
      pss_nil)))))))
      pss_nil)))
    (pss_one (ps_ret (pv 4)))))), ?_⟩
  have hL := S.ln
  have hw := hL.wM
  have zl := hL.zl
  have lu : (mR 7 (b 7)).length ≤ 2 ∧ 0 < (mR 7 (b 7)).length := by rw [mR_len]; split <;> decide
  have l8 : (mR 8 (b 8)).length = (mR 7 (b 7)).length := by rw [mR_len, mR_len, hL.b8]
  have ln : (zs.map V.int).length = zs.length := List.length_map ..
  refine ⟨(by show 0 ≤ sizeLine; decide), fun D hD => ?_⟩
  have dD := S.dk.ne hD
  have lD := S.dk.neL hD
  have sD : Same H (upd H D (.lst [])) := Same.new hD
  refine ⟨_, rfl, ra, _, rfl, .inl (SqL.of (sD _ _ hL.row)), _, rfl, by omega, by omega, ?_⟩
  rw [ln, show (((zs.length : Nat) : Int)).toNat = zs.length by omega]
  refine for_range (lo := 0) (n := zs.length) (fun i σ' H' => (∃ (c kk : Nat) (l : List It2) (as : List Addr) (o7 o8 o9 o10 o11 o12 : Option V), σ' = [some (.ref d), some (.ref m), some (.ref ma), some (.ref ra), some (.ref D), some (nv c), some (.str (wS kk)), o7, o8, o9, o10, o11, o12] ∧ kk ≤ 2 ∧ LinesAt H' D as (l.map (lineI M b)) ∧ ItOk W M b l ∧ l.length ≤ c ∧ c ≤ zs.length ∧
    ((i ≤ c ∧ c < zs.length ∧ zs.take c = flatI l ++ pre kk ∧ (kk = 0 ↔ l = []) ∧ (kk = 0 ↔ c = 0)) ∨ (c = zs.length ∧ flatI l = zs ∧ 0 < l.length))) ∧ But d H H' ∧ Dk H' d l0) ?_ ?_ ?_
  · exact ⟨⟨0, 0, [], [], none, none, none, none, none, none, rfl, by decide, ⟨upd_same, rfl, fun i a l e1 e2 => by simp at e1⟩, (fun i k p e => by simp at e), Nat.le_refl _, Nat.zero_le _, .inl ⟨Nat.le_refl _, nz, rfl, ⟨fun _ => rfl, fun _ => rfl⟩, ⟨fun _ => rfl, fun _ => rfl⟩⟩⟩, But.of sD, S.dk.same sD⟩
  · rintro i σ' H1 hi ⟨⟨c, kk, l, as, o7, o8, o9, o10, o11, o12, rfl, k2, hLn, hok, lc, cz, hst⟩, b1, D1⟩
    have S1 := S.but b1 D1
    have al : as.length = l.length := by rw [hLn.len, List.length_map]
    refine ⟨_, rfl, _, rfl, ra, _, rfl, .inl (SqL.of S1.ln.row), _, _, rfl, rfl, _, rfl, ite2 (fun h1 => ?_) (fun h1 => ?_)⟩
    · have lt : c < zs.length := by
        have := of_decide_eq_true h1
        rw [ln] at this
        omega
      obtain ⟨ic, _, tk, k0, kc⟩ := hst.resolve_right (fun h => absurd h.1 (by omega))
      refine ⟨_, rfl, _, rfl, _, rfl, m, R, ma, W, M, b, ps, kk, rfl, by omega, S1.mk_, S1.rows, S1.ln.mka, fun st H2 s2 hst2 => ?_⟩
      have emk : mkS M b kk = mkI M b kk := rfl
      rw [emk] at hst2
      have S2 := S1.same s2
      have mlt : (mkI M b kk).length < W ∧ 0 < (mkI M b kk).length := by
        unfold mkI
        split
        · omega
        · split
          · omega
          · rw [l8]; omega
      refine ⟨_, rfl, ra, _, rfl, .inl (SqL.of S2.ln.row), _, rfl, _, _, rfl, rfl, _, rfl, m, _, _, _, rfl, rfl, SqL.of S2.mk_, atI_nat (j := 0) rfl, _, rfl, st, _, rfl, .inl (SqL.of hst2), _, _, rfl, rfl, _, _, rfl, ?_⟩
      obtain ⟨rm, hrm, rm0, rm1, rm2⟩ : ∃ rm : Nat, (if (W : Int) - ((((mkI M b kk).map V.int).length : Nat) : Int) < (((zs.map V.int).length : Nat) : Int) - (c : Int) then (W : Int) - ((((mkI M b kk).map V.int).length : Nat) : Int) else (((zs.map V.int).length : Nat) : Int) - (c : Int)) = (rm : Int) ∧ 0 < rm ∧ rm ≤ zs.length - c ∧ rm ≤ W - (mkI M b kk).length := by
        rw [ln, List.length_map]
        refine ⟨min (zs.length - c) (W - (mkI M b kk).length), ?_, by omega, by omega, by omega⟩
        split <;> omega
      rw [hrm]
      refine ⟨_, rfl, _, _, rfl, rfl, _, rfl, _, rfl, d, l0, ((rm : Nat) : Int), rfl, S2.dk, by omega, by omega, fun v H3 v0 v1 D3 B3 => ?_⟩
      obtain ⟨vn, rfl⟩ : ∃ n : Nat, v = (n : Int) := ⟨v.toNat, by omega⟩
      have S3 := S2.but B3 D3
      have hLn3 := (hLn.same s2).but B3 S2.dk
      have hst3 := B3 _ _ hst2 (S2.dk.neI hst2)
      obtain ⟨e, he⟩ : ∃ e, e = c + 1 + vn := ⟨_, rfl⟩
      have eI : (c : Int) + 1 + (vn : Int) = ((e : Nat) : Int) := by omega
      have ez : e ≤ zs.length := by omega
      refine ⟨_, _, rfl, rfl, ?_⟩
      show gName 10 (V.int ((c : Int) + 1 + (vn : Int))) _ _ _
      rw [eI]
      obtain ⟨p, hp⟩ : ∃ p, p = (zs.drop c).take (e - c) := ⟨_, rfl⟩
      have pl : p.length = e - c := by
        rw [hp, List.length_take, List.length_drop]
        omega
      refine ⟨_, rfl, .inl ⟨rfl, _, SqL.of hLn3.at_⟩, _, rfl, _, rfl, _, rfl, _, rfl, _, rfl, _, rfl, ra, _, rfl, SqL.of S3.ln.row, fun r1 hr1 => ?_⟩
      rw [cut_piece (by omega) ez, ← hp]
      have t1 : Same H3 (upd H3 r1 (.lst (p.map V.int))) := Same.new hr1
      refine ⟨st, r1, _, _, rfl, rfl, t1 _ _ hst3, upd_same, by rw [List.length_map, List.length_map]; exact Nat.le_of_lt (small1 (by omega)), fun r2 hr2 => ?_⟩
      have t2 := t1.trans (Same.new (o := .lst ((mkI M b kk).map V.int ++ p.map V.int)) hr2)
      refine ⟨r2, _, rfl, .inl ⟨SqL.of upd_same, fun r3 hr3 => ?_⟩⟩
      have t3 := t2.trans (Same.new (o := .tup ((mkI M b kk).map V.int ++ p.map V.int)) hr3)
      have hLn4 := hLn3.same t3
      have hr3' : (upd (upd (upd H3 r1 (.lst (p.map V.int))) r2 (.lst ((mkI M b kk).map V.int ++ p.map V.int))) r3 (.tup ((mkI M b kk).map V.int ++ p.map V.int))) r3 = some (.tup ((lineI M b (kk, p)).map V.int)) := by
        rw [upd_same]
        unfold lineI
        rw [List.map_append]
      have hpush := hLn4.push hr3'
      refine ⟨D, _, _, rfl, rfl, hLn4.at_, by rw [List.length_map]; exact small1 (by omega), _, rfl, ?_⟩
      have bN : But d H (upd (upd (upd (upd H3 r1 (.lst (p.map V.int))) r2 (.lst ((mkI M b kk).map V.int ++ p.map V.int))) r3 (.tup ((mkI M b kk).map V.int ++ p.map V.int))) D (.lst (as.map V.ref ++ [.ref r3]))) := (((b1.same s2).trans B3).same t3).new hD
      have DN : Dk (upd (upd (upd (upd H3 r1 (.lst (p.map V.int))) r2 (.lst ((mkI M b kk).map V.int ++ p.map V.int))) r3 (.tup ((mkI M b kk).map V.int ++ p.map V.int))) D (.lst (as.map V.ref ++ [.ref r3]))) d l0 := (D3.same t3).upd dD lD
      generalize upd (upd (upd (upd H3 r1 (.lst (p.map V.int))) r2 (.lst ((mkI M b kk).map V.int ++ p.map V.int))) r3 (.tup ((mkI M b kk).map V.int ++ p.map V.int))) D (.lst (as.map V.ref ++ [.ref r3])) = H5 at hpush bN DN
      have S5 := S.but bN DN
      have hokN : ItOk W M b (l ++ [(kk, p)]) := fun i k p' e1 => by
        rcases get_snoc rfl e1 with ⟨_, q2⟩ | ⟨q1, q2⟩
        · exact hok i k p' q2
        · injection q2 with q3 q4
          subst q3 q4
          refine ⟨k0.trans ?_, k2, by omega, by omega⟩
          rw [q1]
          exact List.length_eq_zero_iff.symm
      have flN : flatI (l ++ [(kk, p)]) = zs.take e := by
        rw [flatI_snoc, ← List.append_assoc, ← tk, hp]
        exact (take_piece (by omega)).symm
      have lN : (l ++ [(kk, p)]).length ≤ e := by rw [List.length_append]; show l.length + 1 ≤ e; omega
      refine ⟨_, rfl, _, rfl, ra, _, rfl, .inl (SqL.of S5.ln.row), _, _, rfl, rfl, _, rfl, ite2 (fun h2 => ?_) (fun h2 => ?_)⟩
      · have lt2 : e < zs.length := by
          have := of_decide_eq_true h2
          rw [ln] at this
          omega
        refine ⟨_, rfl, _, rfl, ra, zs, e, rfl, S5.ln.row, lt2, fun pw H6 hpw s6 hW6 => ?_⟩
        obtain ⟨ps2, hps2, psl2, hpe⟩ := hW6.ex
        have fw : 0 < (folW zs e).length ∧ (folW zs e).length ≤ 2 := by
          unfold folW
          rw [List.length_cons]
          split
          · exact ⟨by omega, by show 1 + 1 ≤ 2; omega⟩
          · exact ⟨by omega, by show 0 + 1 ≤ 2; omega⟩
        have S6 := S5.same s6
        refine ⟨_, rfl, _, rfl, _, rfl, pw, _, rfl, .inl (SqL.of hps2), d, l0, _, rfl, S6.dk, by rw [List.length_map]; omega, by rw [List.length_map]; omega, fun u H7 u0 u1 D7 B7 => ?_⟩
        obtain ⟨un, rfl⟩ : ∃ n : Nat, u = (n : Int) := ⟨u.toNat, by omega⟩
        rw [List.length_map] at u1
        obtain ⟨q, eq⟩ : ∃ q, ps2[un]? = some q := ⟨_, List.getElem?_eq_getElem (by omega)⟩
        obtain ⟨kq, ek⟩ : ∃ kq, (folW zs e)[un]? = some kq := ⟨_, List.getElem?_eq_getElem (by omega)⟩
        obtain ⟨xs6, hd6⟩ := S6.dk.lst
        have hq6 := hpe un q kq eq ek
        have hq7 := B7 _ _ hq6 (ne_of hq6 hd6 (by intro z; cases z))
        have hps7 := B7 _ _ hps2 (S6.dk.neP hps2)
        refine ⟨pw, _, _, .ref q, rfl, rfl, SqL.of hps7, atI_nat (by rw [List.getElem?_map, eq]; rfl), ?_⟩
        refine ⟨_, rfl, q, _, _, _, rfl, rfl, SqT.of hq7, atI_nat (j := 0) rfl, ?_⟩
        refine ⟨_, rfl, q, _, _, _, rfl, rfl, SqT.of hq7, atI_nat (j := 1) rfl, ?_⟩
        have hLn7 := (LinesAt.same (by rw [← List.map_singleton (f := lineI M b), ← List.map_append] at hpush; exact hpush) s6 : LinesAt H6 D (as ++ [r3]) ((l ++ [(kk, p)]).map (lineI M b))).but B7 S6.dk
        have km := List.mem_of_getElem? ek
        unfold folW at km
        rw [List.mem_cons] at km
        rcases km with rfl | km
        · refine ⟨⟨e, 2, l ++ [(kk, p)], as ++ [r3], _, _, _, _, _, _, rfl, by decide, hLn7, hokN, lN, ez, .inl ⟨by omega, lt2, ?_, ⟨fun h => absurd h (by decide), fun h => absurd h (by simp)⟩, ⟨fun h => absurd h (by decide), fun h => by omega⟩⟩⟩, (bN.same s6).trans B7, D7⟩
          rw [flN]
          exact (List.append_nil _).symm
        · split at km
          · rename_i cnd
            rw [List.mem_singleton] at km
            subst km
            refine ⟨⟨e + 1, 1, l ++ [(kk, p)], as ++ [r3], _, _, _, _, _, _, rfl, by decide, hLn7, hokN, by omega, by omega, .inl ⟨by omega, cnd.2, ?_, ⟨fun h => absurd h (by decide), fun h => absurd h (by simp)⟩, ⟨fun h => absurd h (by decide), fun h => by omega⟩⟩⟩, (bN.same s6).trans B7, D7⟩
            rw [flN, List.take_add_one]
            have ge : zs[e]? = some 0 := by
              have w4 := cnd.1
              rw [List.getD_eq_getElem?_getD, List.getElem?_eq_getElem (by omega)] at w4
              rw [List.getElem?_eq_getElem (by omega)]
              exact congrArg some w4
            rw [ge]
            rfl
          · cases km
      · have en : e = zs.length := by
          have : ¬ e < zs.length := fun h => h2 (decide_eq_true (by rw [ln]; omega))
          omega
        refine ⟨⟨e, kk, l ++ [(kk, p)], as ++ [r3], _, _, _, _, _, _, rfl, k2, by rw [List.map_append]; exact hpush, hokN, lN, ez, .inr ⟨en, ?_, by rw [List.length_append]; exact Nat.succ_pos _⟩⟩, bN, DN⟩
        rw [flN, en, List.take_length]
    · have lt : ¬ c < zs.length := fun h => h1 (decide_eq_true (by rw [ln]; omega))
      exact ⟨⟨c, kk, l, as, _, _, _, _, _, _, rfl, k2, hLn, hok, lc, cz, .inr (hst.resolve_left fun h => lt h.2.1)⟩, b1, D1⟩
  · rintro σ' H1 ⟨⟨c, kk, l, as, o7, o8, o9, o10, o11, o12, rfl, k2, hLn, hok, lc, cz, hst⟩, b1, D1⟩
    obtain ⟨q1, q2, q3⟩ := hst.resolve_left (fun h => by omega)
    exact ⟨_, rfl, k D as l H1 hD hLn hok q2 q3 (by omega) D1 b1⟩
end
end Sx

set_option Elab.async false
set_option linter.all false
set_option maxRecDepth 100000
set_option maxHeartbeats 2000000
namespace Sx
open PySem PySem.Spec PyProof.Rows L2 SxA SxK PySem.W
/-! ### Unreadable((number,), reason) -/
def erU (p : Addr) (r : Str) : List (Str × V) := [("reason", .str r), ("place", .ref p)]
def spUInit (K : PySem.W.Frag) : Sp := fun vs H Q _ => ∃ (a p : Addr) (n : Int) (r : Str), vs = [.ref a, .ref p, .str r] ∧ H a = some (exo a (He.ga K "Unreadable") none) ∧ H p = some (.tup [.int n]) ∧ (0 ≤ n ∧ n < 10 ^ 10) ∧ r.length ≤ 100 ∧
  ∀ H1 d, Same H H1 → H1 d = none → d ≠ a → Q .non (upd (upd H1 a (exo a (He.ga K "Unreadable") (some d))) d (exd d (erU p r)))
theorem zUnr : ScSup (defScope sUnreadableInit) ["self", "place", "reason"] := ⟨rfl, rfl, rfl, by decide +kernel, by decide +kernel, by decide +kernel, by decide +kernel, by decide +kernel, by decide +kernel⟩
theorem pointS1 (n : Int) : pointS [n] = Str.ofString (toString n) := rfl
theorem app_len (a b : Str) : (a ++ b).length = a.length + b.length := by
  show (a.cps ++ b.cps).size = _
  rw [Array.size_append]
  rfl
section
variable {P : Program} {w : World} {K : PySem.W.Frag} {mg : Str → Option Value} {base : Heap}
theorem ok_uinit (t : T K mg) (er : ErrC P K mg xUnreadable) : ∃ fd, FnOk P w K mg base (L2.CX P w) 3 (xUnreadable.I K) fd ["self", "place", "reason"] (spUInit K) ∧ Binds K fd ["self", "place", "reason"] [] := by
  obtain ⟨cc, cda, fd, S⟩ := er.sup
  refine ⟨fd, ?_, ?_⟩
  · refine fn_sup (k := 2) (CX := L2.CX P w) S zUnr rfl rfl (fun vs H Q E h => ?_) (fun A outer s H vs Q E hr h => ?_) (fun _ => rfl) (fun _ => rfl) (fun _ => rfl) (fun _ => rfl)
    · obtain ⟨a, p, n, r, rfl, _⟩ := h
      rfl
    · obtain ⟨a, p, n, r, rfl, ha, hp, hn, hr1, hq⟩ := h
      refine ⟨_, _, a, _, pa_cons (pe_joined (.cons pe_str (.cons (pe_fmt (pe_ok (ok_point_word t) hr rfl (pa_cons (pv 1) pa_nil))) (.cons pe_str (.cons (pe_fmt (pv 2)) .nil))))) pa_nil,
        pss_cons (ps_ost (pv 0) (pv 1)) (pss_one (ps_ost (pv 0) (pv 2))), rfl, ha, ?_⟩
      have tl : (Str.ofString (toString n)).length ≤ 10 := toString_length_le hn.1 (by decide) hn.2
      have e0 : Str.empty.length = 0 := rfl
      have e1 : (Str.ofString "fault at ").length = 9 := by decide +kernel
      have e3 : (Str.ofString ": ").length = 2 := by decide +kernel
      refine ⟨_, rfl, (by rw [app_len, e0, e1, sizeLine_eq]; omega), ?_⟩
      refine ⟨_, rfl, p, [n], rfl, hp, (by show 1 ≤ 100; decide), (fun x hx => by rw [List.mem_singleton.mp hx]; exact hn), fun H1 s1 => .inl ⟨_, rfl, (by rw [pointS1, sizeLine_eq]; omega), _, rfl, (by rw [pointS1, app_len, app_len, e0, e1, sizeLine_eq]; omega), ?_⟩⟩
      have ha1 := s1 _ _ ha
      refine ⟨_, rfl, (by rw [pointS1, app_len, app_len, app_len, e0, e1, e3, sizeLine_eq]; omega), ?_⟩
      refine ⟨_, rfl, .inl ⟨r, rfl, (by rw [sizeLine_eq]; omega), _, rfl, (by rw [pointS1, app_len, app_len, app_len, app_len, e0, e1, e3, sizeLine_eq]; omega), ?_⟩⟩
      refine ⟨(by show 1 ≤ 1000; decide), ha1, ?_⟩
      have hn : ∀ f ∈ xUnreadable.ats, PySem.W.findIn K (.ref (He.ga K "Unreadable")) f = some none := er.ats
      refine ⟨_, rfl, _, rfl, a, _, rfl, S.ex, hn "place" (by decide), .inl ⟨ha1, fun dx hdx ne => ?_⟩⟩
      refine ⟨_, rfl, _, rfl, a, _, rfl, S.ex, hn "reason" (by decide), .inr ⟨dx, _, upd_same, (by rw [upd_ne ne]; exact upd_same), (by show 1 ≤ 900; decide), ?_⟩⟩
      have q := hq H1 dx s1 hdx ne
      have eH : ∀ (o1 o2 o4 : HO), upd (upd (upd H1 dx o1) a o4) dx o2 = upd (upd H1 a o4) dx o2 := fun o1 o2 o4 => funext fun b => by
        by_cases hb : b = dx
        · subst hb
          rw [upd_same, upd_same]
        · rw [upd_ne hb, upd_ne hb]
          by_cases hb2 : b = a
          · subst hb2
            rw [upd_same, upd_same]
          · rw [upd_ne hb2, upd_ne hb2, upd_ne hb]
      show Q .non _
      rw [eH]
      exact q
  · obtain ⟨oc, od, kV, doc, pm, an, ct, osl, efd, hf⟩ := S.fn
    subst efd
    intro s us _ hl
    rw [List.append_nil] at hl ⊢
    match us, hl with
    | [_, _, _], _ => exact .of_eq rfl
theorem pmk_u {X : Cx} {k : Nat} {p pos : Pos} {a : Expr} {as : List Expr} {ta : TA} (t : T X.K X.mg) (er : ErrC X.prog X.K X.mg xUnreadable) (hr : Room (k + 4) X.A) (hg : Gl X "Unreadable") (ha : PA X (a :: as) ta)
    (he : starEach (a :: as) X.env = (false, eval a X.env) :: starEach as X.env := by rfl) (hpl : (backTo pos (starEach as X.env)).any (·.1) = false := by rfl) :
    PMk X (.Call (.Name "Unreadable" p) (a :: as) [] pos) (tMkO (He.ga X.K "Unreadable") (spUInit X.K) [] ta) := by
  obtain ⟨fd, F, b⟩ := ok_uinit (w := X.w) (base := X.base) t er
  obtain ⟨cc, cda, fd2, S⟩ := er.sup
  exact pmk_oex (k := 3) S.ex S.iC S.tI F (hr.mono (by omega)) b .nil (fun pins σ H s e s' I c => by
    obtain ⟨_, _, _, _, _, _, _, _, _, _, _, _, z⟩ := c
    exact z.elim) hg er.glob ha (by decide) he hpl
/-- what an Unreadable lets be known -/
def ErU (K : PySem.W.Frag) (E : XK) (H : Hp) (n : Int) (r : Str) : Prop := ∀ d p H', Same H H' → H' d = some (.xd (erU p r)) → H' p = some (.tup [.int n]) → E (.ref (He.ga K "Unreadable")) (some d) H'
theorem ErU.same {E : XK} {H H2 : Hp} {n : Int} {r : Str} (e : ErU K E H n r) (s : Same H H2) : ErU K E H2 n r := fun d p H' s2 h => e d p H' (s.trans s2) h
/-- the reading behind its arguments -/
theorem mk_errU {H : Hp} {p : Addr} {n : Int} {r : Str} {Q : XK} (hp : H p = some (.tup [.int n])) (hn : 0 ≤ n ∧ n < 10 ^ 10) (hr : r.length ≤ 100) (q : ErU K Q H n r) :
    [V.ref p, V.str r].length ≤ 1000 ∧ ∀ a, H a = none → spUInit K (.ref a :: ([V.ref p, V.str r] ++ [])) (upd H a (exo a (He.ga K "Unreadable") none))
      (fun v H2 => v = .non ∧ ∃ (d : Addr) (fs : List (Str × V)), H2 a = some (exo a (He.ga K "Unreadable") (some d)) ∧ H2 d = some (exd d fs) ∧ H d = none ∧ Q (.ref (He.ga K "Unreadable")) (some d) (upd (del H2 a) d (.xd fs))) (fun _ _ _ => False) := by
  refine ⟨(by show 2 ≤ 1000; decide), fun a ha => ⟨a, p, n, r, rfl, upd_same, by rw [upd_ne (ne_of_none hp ha)]; exact hp, hn, hr, fun H1 d s1 hd ne => ?_⟩⟩
  have hd0 : H d = none := by
    have e := s1.free hd
    rw [upd_ne ne] at e
    exact e
  have keep : Same H (upd (del (upd (upd H1 a (exo a (He.ga K "Unreadable") (some d))) d (exd d (erU p r))) a) d (.xd (erU p r))) := fun b o hb => by
    have b1 : b ≠ d := ne_of_none hb hd0
    have b2 : b ≠ a := ne_of_none hb ha
    rw [upd_ne b1, del_ne b2, upd_ne b1, upd_ne b2]
    exact s1 b o (by rw [upd_ne b2]; exact hb)
  refine ⟨rfl, d, erU p r, by rw [upd_ne ne.symm]; exact upd_same, upd_same, hd0, ?_⟩
  exact q d p _ keep upd_same (keep _ _ hp)
end
end Sx

set_option Elab.async false
set_option linter.all false
set_option maxRecDepth 100000
set_option maxHeartbeats 2000000
namespace Sx
open PySem PySem.Spec PyProof.Rows L2 SxA SxK PySem.W
/-! ### what any lines are, put together -/
def kindsI (i : Nat) : List Nat := if i = 0 then [0] else [1, 2]
def keepI (M : List Int) (b : Nat → Bool) (ln : List Int) (k : Nat) : Bool := decide (ln.take (mkI M b k).length = mkI M b k) && decide ((mkI M b k).length < ln.length)
def fitI (M : List Int) (b : Nat → Bool) (i : Nat) (ln : List Int) : List Nat := (kindsI i).filter (keepI M b ln)
def pieceG (M : List Int) (b : Nat → Bool) (i : Nat) (ln : List Int) : List Int := match fitI M b i ln with
  | [] => []
  | k :: _ => pre k ++ ln.drop (mkI M b k).length
def flatG (M : List Int) (b : Nat → Bool) (ls : List (List Int)) (n : Nat) : List Int := (List.range n).flatMap fun j => pieceG M b j (ls.getD j [])
theorem flatG_succ (M : List Int) (b : Nat → Bool) (ls : List (List Int)) (n : Nat) : flatG M b ls (n + 1) = flatG M b ls n ++ pieceG M b n (ls.getD n []) := by
  unfold flatG
  rw [List.range_succ, List.flatMap_append, List.flatMap_cons, List.flatMap_nil, List.append_nil]
/-- short lines, few of them -/
def ShortL (ls : List (List Int)) : Prop := ls.length ≤ 100 ∧ ∀ l, l ∈ ls → l.length ≤ 100
theorem pieceG_len (M : List Int) (b : Nat → Bool) (i : Nat) (ln : List Int) : (pieceG M b i ln).length ≤ ln.length + 1 := by
  unfold pieceG
  cases fitI M b i ln with
  | nil => exact Nat.zero_le _
  | cons k r =>
    have : (pre k).length ≤ 1 := by unfold pre; split <;> simp
    show (pre k ++ ln.drop (mkI M b k).length).length ≤ _
    rw [List.length_append, List.length_drop]
    omega
theorem flatG_len {M : List Int} {b : Nat → Bool} {ls : List (List Int)} (h : ShortL ls) : ∀ n, (flatG M b ls n).length ≤ 101 * n
  | 0 => Nat.zero_le _
  | n + 1 => by
    have := flatG_len (M := M) (b := b) h n
    have e := pieceG_len M b n (ls.getD n [])
    have : (ls.getD n []).length ≤ 100 := by
      rw [List.getD_eq_getElem?_getD]
      cases z : ls[n]? with
      | none => exact Nat.zero_le _
      | some l => exact h.2 l (List.mem_of_getElem? z)
    rw [flatG_succ, List.length_append]
    omega
theorem kinds_le {i k : Nat} (h : k ∈ kindsI i) : k ≤ 2 ∧ (k = 0 ↔ i = 0) := by
  unfold kindsI at h
  split at h
  · rename_i q
    rw [List.mem_singleton.mp h]
    exact ⟨by omega, fun _ => q, fun _ => rfl⟩
  · rename_i q
    rcases List.mem_cons.mp h with rfl | h
    · exact ⟨by omega, fun z => by omega, fun z => absurd z q⟩
    · rw [List.mem_singleton.mp h]
      exact ⟨by omega, fun z => by omega, fun z => absurd z q⟩
theorem fit_mem {M : List Int} {b : Nat → Bool} {i k : Nat} {ln : List Int} (h : k ∈ fitI M b i ln) : k ≤ 2 ∧ (k = 0 ↔ i = 0) := kinds_le (List.mem_filter.mp h).1
def spUnb (K : PySem.W.Frag) : Sp := fun vs H Q E => ∃ (x ma ra D : Addr) (W : Nat) (M zs : List Int) (z : Nat → Addr) (b : Nat → Bool) (as : List Addr) (ls : List (List Int)), vs = [.ref x, .ref D, .ref ma] ∧ LnAt K H x ma ra W M zs z b ∧ LinesAt H D as ls ∧ ShortL ls ∧
  ((∀ j, j < ls.length → fitI M b j (ls.getD j []) ≠ []) → ∀ R H', H R = Option.none → Same H H' → H' R = some (.lst ((flatG M b ls ls.length).map V.int)) → Q (.ref R) H') ∧
  (∀ k, k < ls.length → (∀ j, j < k → fitI M b j (ls.getD j []) ≠ []) → fitI M b k (ls.getD k []) = [] → ErU K E H (k : Int) "line")
section
variable {P : Program} {w : World} {K : PySem.W.Frag} {mg : Str → Option Value} {base : Heap}
abbrev nsUnbroken : List Str := ["shape", "lines", "mark", "row", "number", "line", "begins", "found", "begin"]
theorem scUnbroken : FnScope nsUnbroken ["shape", "lines", "mark"] (defScope sUnbroken) := ⟨rfl, rfl, rfl, by decide +kernel, rfl, by decide +kernel, by decide +kernel⟩
theorem ok_unbroken (t : T K mg) (er : ErrC P K mg xUnreadable) : OkX P w K mg base 5 "unbroken" ["shape", "lines", "mark"] (spUnb K) := by
  refine mkOkX t.d_unbroken t.g_unbroken scUnbroken (fun vs H Q E h => ?_) (fun _ _ _ _ _ _ us hl => match us, hl with | [_, _, _], _ => rfl) fun cdv A outer s H vs Q E hr h => ?_
  · obtain ⟨x, ma, ra, D, W, M, zs, z, b, as, ls, rfl, _⟩ := h; rfl
  obtain ⟨x, ma, ra, D, W, M, zs, z, b, as, ls, rfl, hL, hLn, hsh, k, ke⟩ := h
  refine ⟨_, pss_cons (ps_set (i := 3) scUnbroken.nd rfl (Or.inl rfl) (pe_lst pa_nil))
    (pss_cons (ps_for (passes_of rfl) rfl (pi_enum (by rfl) t.f_enumerate (pa_cons (pv 1) pa_nil)) (pg_tup rfl (pgs_cons (pg_name (i := 4) scUnbroken.nd rfl (Or.inl rfl)) (pgs_cons (pg_name (i := 5) scUnbroken.nd rfl (Or.inr rfl)) pgs_nil)))
      (C8.pss_cut (ps_set (i := 6) scUnbroken.nd rfl (Or.inl rfl) (pe_ifExp (pt_cmpR op_eq (pv 4) pe_int (nomark _)) (pe_lst (pa_cons (pv 2) pa_nil)) (pe_lst (pa_cons (pe_fld (pe_fld (pv 0) rfl) rfl) (pa_cons (pe_fld (pe_fld (pv 0) rfl) rfl) pa_nil)))))
    (pss_cons (ps_setLc (i := 7) (own := [("begin", 8)]) (g := gName 8) (by rfl) scUnbroken.nd rfl rfl (sw_true rfl rfl rfl (by decide +kernel)) (pi_list (pv 6)) (blkOk_by (own := [("begin", 8)]) (N := nsUnbroken) (sc := defScope sUnbroken) (by decide +kernel)) (fun _ _ _ _ _ => pg_name (i := 8) scUnbroken.nd rfl (Or.inl rfl)) (fun _ _ _ _ _ => pts_one (PW.pt (pw_and (pt_cmpR (op_eqDK (K := K) rfl (hu64 hr)) (pe_slice (sl_tupAK (K := K) rfl) (pv 5) po_none (po_some (pe_callB (call_lenK (K := K) rfl) rfl t.f_len boot_len (pa_cons (pv 8) pa_nil)))) (pv 8) (nomark _)) (pw_and1 (pt_cmpR op_gt (pe_callB (call_lenK (K := K) rfl) rfl t.f_len boot_len (pa_cons (pv 5) pa_nil)) (pe_callB (call_lenK (K := K) rfl) rfl t.f_len boot_len (pa_cons (pv 8) pa_nil)) (nomark _)))))) (fun _ _ _ _ _ => (pv 8)))
    (pss_cons (ps_if (pt_not (pt_truth (pv 7) (by intro _; rfl)))
      (pss_one (ps_raise rfl (takes_of rfl rfl rfl rfl) (pmk_u (k := 0) t er hr rfl (pa_cons (pe_tup (pa_cons (pv 4) pa_nil)) (pa_cons pe_str pa_nil)))))
      pss_nil)
    (C8.pss_cut (ps_if (PW.pt (pw_and (pt_cmpR op_gt (pv 4) pe_int (nomark _)) (pw_and1 (pt_cmpR (op_eqD (hu64 hr)) (pe_ix ix_list (pv 7) pe_int (fun _ _ => rfl)) (pe_fld (pe_fld (pv 0) rfl) rfl) (nomark _)))))
      (pss_one (ps_expr (pe_bm PySem.F.plainAttrs_list PySem.F.slot_list_append PySem.F.type_list_append mt_append (pv 3) (pa_cons pe_int pa_nil))))
      pss_nil)
    (pss_one (ps_expr (pe_bm PySem.F.plainAttrs_list PySem.F.slot_list_extend PySem.F.type_list_extend mt_extT (pv 3) (pa_cons (pe_slice (sl_tupAI (K := K) rfl) (pv 5) (po_some (pe_callB call_len_seq rfl t.f_len boot_len (pa_cons (pe_ix ix_list (pv 7) pe_int (fun _ _ => rfl)) pa_nil))) po_none) pa_nil)))))))))
    (pss_one (ps_ret (pv 3)))), ?_⟩
  have hw := hL.wM
  obtain ⟨onj, lonj⟩ := on_joined b hL.b8
  refine ⟨(by show 0 ≤ sizeLine; decide), fun R hR => ?_⟩
  have sR : Same H (upd H R (.lst [])) := Same.new hR
  have al : as.length = ls.length := hLn.len
  refine ⟨_, rfl, D, _, rfl, SqL.of (sR _ _ hLn.at_), ?_⟩
  refine for_it (walk_enum (K := K) (a := D) (xs := as.map V.ref)) (fun i σ' H' => (∃ o4 o5 o6 o7 : Option V, σ' = [some (.ref x), some (.ref D), some (.ref ma), some (.ref R), o4, o5, o6, o7, none]) ∧ Same H H' ∧ H' R = some (.lst ((flatG M b ls i).map V.int)) ∧ ∀ j, j < i → fitI M b j (ls.getD j []) ≠ []) ⟨⟨_, _, _, _, rfl⟩, sR, upd_same, fun j h => absurd h (Nat.not_lt_zero _)⟩ (fun i σ' H' _ p => SqL.of (p.2.1 _ _ hLn.at_)) ?_ ?_
  · rintro i v σ' H1 H2 hi ⟨⟨o4, o5, o6, o7, rfl⟩, s1, hR1, good⟩ ⟨T, x1, y, rfl, hT, rfl, ex, ey⟩
    have ex := (Option.some.inj ex).symm
    subst ex
    obtain ⟨a, ln, ea, el, rfl, ha⟩ := LinesAt.get (hLn.same s1) ey
    have il : i < ls.length := (List.getElem?_eq_some_iff.mp el).1
    have eg : ls.getD i [] = ln := by rw [List.getD_eq_getElem?_getD, el]; rfl
    have ll : ln.length ≤ 100 := hsh.2 ln (List.mem_of_getElem? el)
    have i100 := hsh.1
    have hline : H a = some (.tup (ln.map V.int)) := hLn.el i a ln ea el
    have s2 : Same H (upd H1 T (.tup [V.int ((i : Nat) : Int), V.ref a])) := fun c o e => Same.new hT _ _ (s1 _ _ e)
    have hR2 := Same.new (o := .tup [V.int ((i : Nat) : Int), V.ref a]) hT _ _ hR1
    obtain ⟨dx, hh, sz, m, dm, dp, hS⟩ := hL.sh
    refine ⟨T, _, rfl, SqT.of upd_same, rfl, _, _, rfl, _, _, rfl, rfl, ?_⟩
    refine ⟨fun σ2 H3 => ∃ (G : Addr) (bs : List (Addr × Nat)), σ2 = [some (.ref x), some (.ref D), some (.ref ma), some (.ref R), some (.int ((i : Nat) : Int)), some (.ref a), some (.ref G), o7, none] ∧ Same H H3 ∧ H3 R = some (.lst ((flatG M b ls i).map V.int)) ∧ H3 G = some (.lst (bs.map fun q => V.ref q.1)) ∧ bs.length ≤ 2 ∧ (∀ q ∈ bs, H3 q.1 = some (.tup ((mkI M b q.2).map V.int))) ∧ bs.map (·.2) = kindsI i, ?_, ?_⟩
    · refine ⟨_, rfl, rfl, _, rfl, ?_⟩
      refine ite2 (fun h1 => ?_) (fun h1 => ?_)
      · have i0 : i = 0 := by
          have := V.int.inj (of_decide_eq_true h1)
          omega
        refine ⟨_, rfl, (by show 1 ≤ sizeLine; decide), fun G hG => ⟨G, [(ma, 0)], rfl, fun c o e => Same.new hG _ _ (s2 _ _ e), Same.new hG _ _ hR2, upd_same, by show 1 ≤ 2; decide, fun q hq => ?_, ?_⟩⟩
        · rw [List.mem_singleton.mp hq]
          exact Same.new hG _ _ (s2 _ _ hL.mka)
        · unfold kindsI
          rw [if_pos i0]
          rfl
      · have i0 : i ≠ 0 := fun e => h1 (by rw [e]; exact decide_eq_true rfl)
        have hS2 := hS.same s2
        refine ⟨_, rfl, x, _, dx, _, _, rfl, hS2.ins, t.c_Shape, t.n_Shape_marks, lkM _ _ _ _, m, _, dm, _, _, rfl, hS2.mks.ins, t.c_Marks, t.n_Marks_on, lk7 _ _, _, rfl, x, _, dx, _, _, rfl, hS2.ins, t.c_Shape, t.n_Shape_marks, lkM _ _ _ _, m, _, dm, _, _, rfl, hS2.mks.ins, t.c_Marks, t.n_Marks_joined, lk8 _ _, (by show 2 ≤ sizeLine; decide), fun G hG => ?_⟩
        refine ⟨G, [(z 7, 1), (z 8, 2)], rfl, fun c o e => Same.new hG _ _ (s2 _ _ e), Same.new hG _ _ hR2, upd_same, Nat.le_refl _, fun q hq => ?_, ?_⟩
        · rcases List.mem_cons.mp hq with rfl | hq
          · exact Same.new hG _ _ (hS2.mks.el 7 (by decide))
          · rw [List.mem_singleton.mp hq]
            exact Same.new hG _ _ (hS2.mks.el 8 (by decide))
        · unfold kindsI
          rw [if_neg i0]
          rfl
    rintro σ2 H3 ⟨G, bs, rfl, s3, hR3, hG, bl, hbs, hks⟩
    have hl3 := s3 _ _ hline
    refine ⟨_, rfl, G, rfl, ⟨_, SqL.of hG⟩, fun C hC => ?_⟩
    refine lc_list (K := K) (a := G) (xs := bs.map fun q => V.ref q.1) (g := gName 8) (fun j H' => H' C = some (.lst (((bs.take j).filter fun q => keepI M b ln q.2).map fun q => V.ref q.1)) ∧ Same H3 H') ⟨upd_same, Same.new hC⟩ (fun j H' _ q => SqL.of (q.2 _ _ hG)) ?_ ?_
    · rintro j v H4 hv ⟨hc, s4⟩
      rw [List.getElem?_map] at hv
      obtain ⟨⟨qa, ql⟩, hq, rfl⟩ : ∃ q, bs[j]? = some q ∧ V.ref q.1 = v := by
        cases zz : bs[j]? with
        | none => rw [zz] at hv; cases hv
        | some q => rw [zz] at hv; exact ⟨q, rfl, Option.some.inj hv⟩
      have hqa : H4 qa = some (.tup ((mkI M b ql).map V.int)) := s4 _ _ (hbs _ (List.mem_of_getElem? hq))
      have hl4 := s4 _ _ hl3
      have tk : bs.take (j + 1) = bs.take j ++ [(qa, ql)] := by rw [List.take_add_one, hq]; rfl
      have small : ((bs.take j).filter fun q => keepI M b ln q.2).length ≤ 2 := by
        have := List.length_filter_le (fun q : Addr × Nat => keepI M b ln q.2) (bs.take j)
        rw [List.length_take] at this
        omega
      refine ⟨rfl, ?_⟩
      refine ⟨_, rfl, _, rfl, qa, _, rfl, .inr (SqT.of hqa), _, rfl, ?_⟩
      rw [List.length_map]
      refine slT hl4 fun r H5 s5 hr5 => ?_
      refine ⟨_, rfl, eqT hr5 (s5 _ _ hqa) ?_⟩
      refine ⟨_, rfl, ?_⟩
      have hc5 := s5 _ _ hc
      have s45 : Same H3 H5 := fun c o e => s5 _ _ (s4 _ _ e)
      refine ite2 (fun h1 => ?_) (fun h1 => ?_)
      · refine ⟨_, rfl, a, _, rfl, .inr (SqT.of (s5 _ _ hl4)), _, rfl, qa, _, rfl, .inr (SqT.of (s5 _ _ hqa)), _, _, rfl, rfl, _, rfl, ?_⟩
        refine ite2 (fun h2 => ?_) (fun h2 => ?_)
        · have kp : keepI M b ln ql = true := by
            unfold keepI
            rw [h1, Bool.true_and]
            have := of_decide_eq_true h2
            rw [List.length_map, List.length_map] at this
            exact decide_eq_true (by omega)
          refine ⟨_, rfl, _, hc5, by rw [List.length_map]; exact small1 (by omega), ?_, fun c o e => by rw [upd_ne (ne_of_none e hC)]; exact s45 _ _ e⟩
          rw [upd_same, tk, List.filter_append, List.map_append, List.filter_cons, if_pos kp]
          rfl
        · have kp : keepI M b ln ql = false := by
            unfold keepI
            rw [h1, Bool.true_and]
            refine decide_eq_false fun lt => h2 (decide_eq_true ?_)
            rw [List.length_map, List.length_map]
            omega
          refine ⟨?_, s45⟩
          rw [hc5, tk, List.filter_append, List.filter_cons, if_neg (by rw [kp]; decide)]
          simp
      · have kp : keepI M b ln ql = false := by
          unfold keepI
          rw [Bool.eq_false_iff.mpr h1, Bool.false_and]
        refine ⟨?_, s45⟩
        rw [hc5, tk, List.filter_append, List.filter_cons, if_neg (by rw [kp]; decide)]
        simp
    rintro H4 ⟨hc, s4⟩
    rw [List.length_map, List.take_length] at hc
    have hR4 := s4 _ _ hR3
    have hl4 := s4 _ _ hl3
    have sH4 : Same H H4 := fun c o e => s4 _ _ (s3 _ _ e)
    have hfit : (bs.filter fun q => keepI M b ln q.2).map (·.2) = fitI M b i ln := by
      unfold fitI
      rw [← hks, List.filter_map]
      rfl
    have hfm : ∀ q ∈ bs.filter (fun q => keepI M b ln q.2), H4 q.1 = some (.tup ((mkI M b q.2).map V.int)) := fun q hq => s4 _ _ (hbs q (List.mem_filter.mp hq).1)
    generalize bs.filter (fun q => keepI M b ln q.2) = fs at hc hfit hfm
    cases fs with
    | nil =>
      refine ⟨_, rfl, false, .inl ⟨_, SqL.of hc, rfl⟩, iteT ?_⟩
      refine ⟨_, rfl, (by show 1 ≤ sizeLine; decide), fun Pl hPl => ?_⟩
      have q := ke i il good (by rw [eg, ← hfit]; rfl)
      exact mk_errU upd_same (by constructor <;> omega) (by decide +kernel) (q.same (sH4.trans (Same.new hPl)))
    | cons q0 r0 =>
      obtain ⟨am, kk⟩ := q0
      have hfit : fitI M b i ln = kk :: r0.map (·.2) := hfit.symm
      have ham4 : H4 am = some (.tup ((mkI M b kk).map V.int)) := hfm (am, kk) List.mem_cons_self
      have km := fit_mem (M := M) (b := b) (i := i) (ln := ln) (k := kk) (by rw [hfit]; exact List.mem_cons_self)
      have epc : pieceG M b i ln = pre kk ++ ln.drop (mkI M b kk).length := by unfold pieceG; rw [hfit]
      have fl := flatG_len (M := M) (b := b) hsh i
      have hS4 := hS.same sH4
      refine ⟨_, rfl, true, .inl ⟨_, SqL.of hc, rfl⟩, iteF ?_⟩
      have nCR : C ≠ R := fun e => by rw [e, hR3] at hC; cases hC
      have g0 : atI ((am, kk) :: r0 |>.map fun q => V.ref q.1) 0 = some (.ref am) := atI_nat (j := 0) rfl
      refine ⟨fun σ2 H5 => σ2 = [some (.ref x), some (.ref D), some (.ref ma), some (.ref R), some (.int ((i : Nat) : Int)), some (.ref a), some (.ref G), some (.ref C), none] ∧ Same H H5 ∧ H5 R = some (.lst ((flatG M b ls i ++ pre kk).map V.int)) ∧ H5 C = some (.lst (((am, kk) :: r0).map fun q => V.ref q.1)) ∧ H5 am = some (.tup ((mkI M b kk).map V.int)), ?_, ?_⟩
      · refine ⟨_, rfl, _, _, rfl, rfl, _, rfl, ?_⟩
        refine ite2 (fun h1 => ?_) (fun h1 => ?_)
        · have ip : 0 < i := by
            have := of_decide_eq_true h1
            omega
          have kz : kk ≠ 0 := fun e => by have := km.2.mp e; omega
          refine ⟨_, rfl, C, _, _, .ref am, rfl, rfl, SqL.of hc, g0, _, rfl, x, _, dx, _, _, rfl, hS4.ins, t.c_Shape, t.n_Shape_marks, lkM _ _ _ _, m, _, dm, _, _, rfl, hS4.mks.ins, t.c_Marks, t.n_Marks_on, lk7 _ _, eqT ham4 (hS4.mks.el 7 (by decide)) ⟨_, rfl, ?_⟩⟩
          refine ite2 (fun h2 => ?_) (fun h2 => ?_)
          · have k1 : kk = 1 := by
              have e := of_decide_eq_true h2
              by_cases k1 : kk = 1
              · exact k1
              · unfold mkI at e
                rw [if_neg kz, if_neg k1] at e
                exact absurd e.symm onj
            refine ⟨_, rfl, .inl ⟨rfl, _, SqL.of hR4⟩, R, _, _, rfl, rfl, hR4, by rw [List.length_map]; exact small1 (by omega), rfl, fun c o e => by rw [upd_ne (ne_of_none e hR)]; exact sH4 _ _ e, ?_, by rw [upd_ne nCR]; exact hc, by rw [upd_ne (ne_of ham4 hR4 (by intro z; cases z))]; exact ham4⟩
            rw [upd_same, k1, List.map_append]
            rfl
          · have k1 : kk ≠ 1 := fun e => h2 (decide_eq_true (by unfold mkI; rw [if_neg kz, if_pos e]))
            refine ⟨rfl, sH4, ?_, hc, ham4⟩
            rw [hR4, show pre kk = [] by unfold pre; rw [if_neg k1], List.append_nil]
        · have i0 : i = 0 := by
            by_cases z : i = 0
            · exact z
            · exact absurd (decide_eq_true (by omega)) h1
          have kz := km.2.mpr i0
          refine ⟨rfl, sH4, ?_, hc, ham4⟩
          rw [hR4, show pre kk = [] by unfold pre; rw [if_neg (by omega)], List.append_nil]
      rintro σ2 H5 ⟨rfl, s5, hR5, hc5, ham5⟩
      have hl5 := s5 _ _ hline
      refine ⟨_, rfl, .inl ⟨rfl, _, SqL.of hR5⟩, _, rfl, _, rfl, C, _, _, .ref am, rfl, rfl, SqL.of hc5, g0, am, _, rfl, .inr (SqT.of ham5), _, rfl, ?_⟩
      rw [List.length_map]
      show rSlAI K (.ref a) (some (((mkI M b kk).length : Nat) : Int)) none _ _
      refine slTdI hl5 fun q H6 s6 hq6 => ?_
      have pk : (pre kk).length ≤ 1 := by unfold pre; split <;> simp
      refine ⟨R, q, _, _, rfl, rfl, s6 _ _ hR5, SqT.of hq6, ?_, ⟨_, _, _, _, rfl⟩, fun c o e => ?_, ?_, fun j hj => ?_⟩
      · rw [List.length_map, List.length_map, List.length_append, List.length_drop]
        exact Nat.le_of_lt (small1 (by omega))
      · rw [upd_ne (ne_of_none e hR)]
        exact s6 _ _ (s5 _ _ e)
      · rw [upd_same, flatG_succ, eg, epc, List.map_append, List.map_append, List.map_append, List.append_assoc]
      · by_cases q : j < i
        · exact good j q
        · obtain rfl : j = i := by omega
          rw [eg, hfit]
          exact List.cons_ne_nil _ _
  · rintro σ' H' ⟨⟨o4, o5, o6, o7, rfl⟩, s1, hR1, good⟩
    rw [List.length_map, al] at hR1 good
    exact ⟨_, rfl, k good R H' hR s1 hR1⟩
end
end Sx

set_option Elab.async false
set_option linter.all false
set_option maxRecDepth 100000
set_option maxHeartbeats 1000000
namespace Sx
open PySem PySem.Spec PyProof.Rows L2 SxA SxK PySem.W
def AllFit (M : List Int) (b : Nat → Bool) (ls : List (List Int)) : Prop := ∀ j, j < ls.length → fitI M b j (ls.getD j []) ≠ []
theorem fit_first (M : List Int) (b : Nat → Bool) (ls : List (List Int)) : ∀ n, (∀ j, j < n → fitI M b j (ls.getD j []) ≠ []) ∨ ∃ k, k < n ∧ (∀ j, j < k → fitI M b j (ls.getD j []) ≠ []) ∧ fitI M b k (ls.getD k []) = []
  | 0 => .inl fun j h => absurd h (Nat.not_lt_zero _)
  | n + 1 => by
    rcases fit_first M b ls n with h | ⟨k, h1, h2⟩
    · by_cases q : fitI M b n (ls.getD n []) = []
      · exact .inr ⟨n, by omega, h, q⟩
      · refine .inl fun j hj => ?_
        by_cases z : j < n
        · exact h j z
        · obtain rfl : j = n := by omega
          exact q
    · exact .inr ⟨k, by omega, h2⟩
def BrkP (W : Nat) (M : List Int) (b : Nat → Bool) (zs : List Int) (ls : List (List Int)) : Prop := (∀ l, l ∈ ls → l.length ≤ W) ∧ AllFit M b ls ∧ flatG M b ls ls.length = zs
def spBrk (K : PySem.W.Frag) : Sp := fun vs H Q _ => ∃ (x ma ra D : Addr) (W : Nat) (M zs : List Int) (z : Nat → Addr) (b : Nat → Bool) (as : List Addr) (ls : List (List Int)), vs = [.ref x, .ref ma, .ref ra, .ref D] ∧ LnAt K H x ma ra W M zs z b ∧ LinesAt H D as ls ∧ ShortL ls ∧
  ∀ (v : Bool) H', (v = true ↔ BrkP W M b zs ls) → Same H H' → Q (.bl v) H'
/-- is the line too long -/
def gtL (H : Hp) (W : Nat) : V → V := fun v => match v with
  | .ref a => match H a with
    | some (.tup xs) => .bl (decide ((W : Int) < ((xs.length : Nat) : Int)))
    | _ => .non
  | _ => .non
theorem gtL_all {H : Hp} {W : Nat} {D : Addr} : ∀ {as : List Addr} {ls : List (List Int)}, as.length = ls.length → (∀ (i : Nat) (a : Addr) (l : List Int), as[i]? = some a → ls[i]? = some l → H a = some (.tup (l.map V.int))) → (as.map V.ref).map (gtL H W) = (ls.map fun l => decide ((W : Int) < ((l.length : Nat) : Int))).map V.bl
  | [], [], _, _ => rfl
  | [], _ :: _, h, _ => absurd h (by simp)
  | _ :: _, [], h, _ => absurd h (by simp)
  | a :: as, l :: ls, h, e => by
    have h0 := e 0 a l rfl rfl
    have ih := gtL_all (H := H) (W := W) (D := D) (as := as) (ls := ls) (by simpa using h) fun i a' l' q1 q2 => e (i + 1) a' l' q1 q2
    rw [List.map_cons, List.map_cons, List.map_cons, List.map_cons, ih]
    congr 1
    show (match H a with | some (.tup xs) => V.bl (decide ((W : Int) < ((xs.length : Nat) : Int))) | _ => .non) = _
    rw [h0]
    show V.bl (decide ((W : Int) < (((l.map V.int).length : Nat) : Int))) = _
    rw [List.length_map]
section
variable {P : Program} {w : World} {K : PySem.W.Frag} {mg : Str → Option Value} {base : Heap}
abbrev nsIsBroken : List Str := ["shape", "mark", "row", "lines", "line"]
theorem scIsBroken : FnScope nsIsBroken ["shape", "mark", "row", "lines"] (defScope sIsBroken) := ⟨rfl, rfl, rfl, by decide +kernel, rfl, by decide +kernel, by decide +kernel⟩
theorem ok_is_broken (t : T K mg) (er : ErrC P K mg xUnreadable) : Ok P w K mg base 6 "is_broken" ["shape", "mark", "row", "lines"] (spBrk K) := by
  refine mkOk t.d_is_broken t.g_is_broken scIsBroken (fun vs H Q E h => ?_) (fun _ _ _ _ _ _ us hl => match us, hl with | [_, _, _, _], _ => rfl) fun cdv A outer s H vs Q E hr h => ?_
  · obtain ⟨x, ma, ra, D, W, M, zs, z, b, as, ls, rfl, _⟩ := h; rfl
  obtain ⟨x, ma, ra, D, W, M, zs, z, b, as, ls, rfl, hL, hLn, hsh, k⟩ := h
  refine ⟨_, pss_cons (ps_if (pt_val (pe_callB (cr_any rfl) rfl t.f_any (by decide +kernel) (pa_cons (pe_lc (own := [("line", 4)]) (g := gName 4) (tt := tYes) rfl scIsBroken.nd (pi_list (pv 3)) (blkOk_by (own := [("line", 4)]) (N := nsIsBroken) (sc := defScope sIsBroken) (by decide +kernel)) (fun _ _ _ _ _ => pg_name (i := 4) scIsBroken.nd rfl (Or.inl rfl)) (fun _ _ _ _ _ => pts_nil) (fun _ _ _ _ _ => (pe_cmpR op_gt (pe_callB (call_lenK (K := K) rfl) rfl t.f_len boot_len (pa_cons (pv 4) pa_nil)) (pe_fldK (K := K) rfl (pv 0)) (nomark _)))) pa_nil)))
      (pss_one (ps_ret pe_bl))
      pss_nil)
    (pss_one (ps_try_only rfl rfl ⟨rfl, by decide, .inl t.g_Unreadable⟩ takes0 (fun W pn xe tk _ => pss_one (ps_ret (pe_cmpR (op_eqDK (K := K) rfl (hu64 hr)) (pe_okX (ok_unbroken t er) hr rfl tk (pa_cons (pv 0) (pa_cons (pv 3) (pa_cons (pv 1) pa_nil)))) (pv 2) (nomark _)))) (fun a oe cls d pn _ _ => pss_one (ps_ret pe_bl)))), ?_⟩
  obtain ⟨dx, h1, sz, m, dm, dp, hS⟩ := hL.sh
  have al := hLn.len
  refine ⟨_, rfl, D, rfl, ⟨_, SqL.of hLn.at_⟩, fun C hC => ?_⟩
  refine lc_listF (K := K) (f := fun _ => true) (F := gtL H W) hC hLn.at_ (by rw [List.length_map]; exact Nat.le_of_lt (small1 (by have := hsh.1; omega))) (fun _ => rfl) (fun x H Q _ _ q => q) ?_ ?_
  · rintro u H8 Q8 hu s8 q8
    obtain ⟨j, hj⟩ := List.getElem?_of_mem hu
    obtain ⟨a, ln, ea, el, rfl, ha⟩ := hLn.get hj
    have hS' := hS.same s8
    refine ⟨_, rfl, a, _, rfl, .inr (SqT.of (s8 _ _ ha)), _, rfl, x, _, dx, _, _, rfl, hS'.ins, t.c_Shape, t.n_Shape_width, lkW _ _ _ _, _, _, rfl, rfl, ?_⟩
    have e : gtL H W (.ref a) = .bl (decide ((W : Int) < (((ln.map V.int).length : Nat) : Int))) := by
      show (match H a with | some (.tup xs) => V.bl (decide ((W : Int) < ((xs.length : Nat) : Int))) | _ => .non) = _
      rw [ha]
    rw [e] at q8
    exact q8
  rintro H4 s4 hD4
  rw [List.filter_eq_self.mpr (fun _ _ => rfl), gtL_all (D := D) al hLn.el] at hD4
  refine ⟨C, _, rfl, SqL.of hD4, _, rfl, ?_⟩
  refine ite2 (fun h2 => ?_) (fun h2 => ?_)
  · refine k false H4 ⟨(fun h => absurd h (by decide)), fun h => ?_⟩ s4
    rw [List.any_eq_true] at h2
    obtain ⟨v, hv, hv2⟩ := h2
    obtain ⟨l, hl, rfl⟩ := List.mem_map.mp hv
    have := of_decide_eq_true hv2
    have := h.1 l hl
    omega
  have short : ∀ l, l ∈ ls → l.length ≤ W := fun l hl => by
    by_cases q : l.length ≤ W
    · exact q
    · exact absurd (List.any_eq_true.mpr ⟨true, List.mem_map.mpr ⟨l, hl, decide_eq_true (by omega)⟩, rfl⟩) h2
  have hL4 := hL.same s4
  refine ⟨_, rfl, _, rfl, _, rfl, x, ma, ra, D, W, M, zs, z, b, as, ls, rfl, hL4, hLn.same s4, hsh, fun good R H5 hR s5 h5 => ?_, fun kk hk good bad d p H5 s5 hd hp => ⟨true, er.exm, fun _ a ha => ?_, fun h => absurd h (by decide)⟩⟩
  · refine ⟨_, rfl, eqL h5 (s5 _ _ hL4.row) ?_⟩
    refine k _ H5 ⟨fun h => ⟨short, good, of_decide_eq_true h⟩, fun h => decide_eq_true h.2.2⟩ (s4.trans s5)
  · exact k false H5 ⟨(fun h => absurd h (by decide)), fun h => absurd bad (h.2.1 kk hk)⟩ (s4.trans s5)
end
end Sx

set_option Elab.async false
set_option linter.all false
set_option maxRecDepth 100000
set_option maxHeartbeats 2000000
namespace Sx
open PySem PySem.Spec PyProof.Rows L2 SxA SxK PySem.W
/-! ### _law_same of equal data -/
def atomV : V → Bool
  | .int _ => true
  | .bl _ => true
  | .str _ => true
  | _ => false
def Eqd : Nat → Hp → V → V → Prop
  | 0, _, x, y => x = y ∧ atomV x = true
  | n + 1, H, x, y => (x = y ∧ atomV x = true) ∨ ∃ a b xs ys, x = .ref a ∧ y = .ref b ∧ ((H a = some (.lst xs) ∧ H b = some (.lst ys)) ∨ (H a = some (.tup xs) ∧ H b = some (.tup ys))) ∧ xs.length = ys.length ∧ xs.length ≤ 100000 ∧ ∀ (i : Nat) u v, xs[i]? = some u → ys[i]? = some v → Eqd n H u v
def spEqd : Nat → Sp
  | 0 => fun _ _ _ _ => False
  | n + 1 => fun vs H Q _ => ∃ x y, vs = [x, y] ∧ Eqd n H x y ∧ Q (.bl true) H
section
variable {P : Program} {w : World} {K : PySem.W.Frag} {mg : Str → Option Value} {base : Heap}
abbrev nsLawSame : List Str := ["actual", "due", "k"]
theorem scLawSame : FnScope nsLawSame ["actual", "due"] (defScope sLawSame) := ⟨rfl, rfl, rfl, by decide +kernel, rfl, by decide +kernel, by decide +kernel⟩
theorem ok_law_same (t : T K mg) : ∀ n, Ok P w K mg base (n + 1) "_law_same" ["actual", "due"] (spEqd n)
  | 0 => mkOk t.d_law_same t.g_law_same scLawSame (fun vs H Q E h => h.elim) (fun _ _ _ _ _ _ us hl => match us, hl with | [_, _], _ => rfl) fun cdv A outer s H vs Q E hr h => h.elim
  | n + 1 => by
    have ih := ok_law_same t n
    refine mkOk t.d_law_same t.g_law_same scLawSame (fun vs H Q E h => ?_) (fun _ _ _ _ _ _ us hl => match us, hl with | [_, _], _ => rfl) fun cdv A outer s H vs Q E hr h => ?_
    · obtain ⟨x, y, rfl, _⟩ := h; rfl
    obtain ⟨x, y, rfl, hE, k⟩ := h
    refine ⟨_, pss_cons (ps_if (PW.pt (pw_or (pt_val (pe_callB call_isi rfl t.f_isinstance (by decide +kernel) (pa_cons (pv 1) (pa_cons (pe_bltn (v := .ty "tuple") rfl t.f_tuple (by decide +kernel) rfl) pa_nil)))) (pw_or1 (pt_val (pe_callB call_isi rfl t.f_isinstance (by decide +kernel) (pa_cons (pv 1) (pa_cons (pe_bltn (v := .ty "list") rfl t.f_list (by decide +kernel) rfl) pa_nil)))))))
        (pss_cons (ps_if (PW.pt (pw_or (pt_cmpR op_ne (pe_callB call_isi rfl t.f_isinstance (by decide +kernel) (pa_cons (pv 1) (pa_cons (pe_bltn (v := .ty "tuple") rfl t.f_tuple (by decide +kernel) rfl) pa_nil))) (pe_callB call_isi rfl t.f_isinstance (by decide +kernel) (pa_cons (pv 0) (pa_cons (pe_bltn (v := .ty "tuple") rfl t.f_tuple (by decide +kernel) rfl) pa_nil))) (nomark _)) (pw_or1 (pt_cmpR op_ne (pe_callB call_isi rfl t.f_isinstance (by decide +kernel) (pa_cons (pv 1) (pa_cons (pe_bltn (v := .ty "list") rfl t.f_list (by decide +kernel) rfl) pa_nil))) (pe_callB call_isi rfl t.f_isinstance (by decide +kernel) (pa_cons (pv 0) (pa_cons (pe_bltn (v := .ty "list") rfl t.f_list (by decide +kernel) rfl) pa_nil))) (nomark _)))))
        (pss_one (ps_ret pe_bl))
        pss_nil)
      (pss_cons (ps_if (pt_cmpR op_ne (pe_callB call_len_seq rfl t.f_len boot_len (pa_cons (pv 0) pa_nil)) (pe_callB call_len_seq rfl t.f_len boot_len (pa_cons (pv 1) pa_nil)) (nomark _))
        (pss_one (ps_ret pe_bl))
        pss_nil)
      (pss_cons (ps_for PassesOwn.never rfl (pi_range1 rfl t.f_range (pa_cons (pe_callB call_len_seq rfl t.f_len boot_len (pa_cons (pv 1) pa_nil)) pa_nil)) (pg_name (i := 2) scLawSame.nd rfl (Or.inl rfl))
        (pss_one (ps_if (pt_not (pt_val (pe_ok ih hr rfl (pa_cons (pe_ix ix_seq (pv 0) (pv 2) (fun _ _ => rfl)) (pa_cons (pe_ix ix_seq (pv 1) (pv 2) (fun _ _ => rfl)) pa_nil)))))
        (pss_one (ps_ret pe_bl))
        pss_nil)))
      (pss_one (ps_ret pe_bl)))))
        pss_nil)
      (pss_cons (ps_if (PW.pt (pw_or (pt_val (pe_callB call_isi rfl t.f_isinstance (by decide +kernel) (pa_cons (pv 1) (pa_cons (pe_bltn (v := .ty "bool") rfl t.f_bool (by decide +kernel) rfl) pa_nil)))) (pw_or1 (pt_val (pe_callB call_isi rfl t.f_isinstance (by decide +kernel) (pa_cons (pv 0) (pa_cons (pe_bltn (v := .ty "bool") rfl t.f_bool (by decide +kernel) rfl) pa_nil)))))))
        (pss_one (ps_ret (pe_and (pe_callB call_isi rfl t.f_isinstance (by decide +kernel) (pa_cons (pv 1) (pa_cons (pe_bltn (v := .ty "bool") rfl t.f_bool (by decide +kernel) rfl) pa_nil))) (pe_and (pe_callB call_isi rfl t.f_isinstance (by decide +kernel) (pa_cons (pv 0) (pa_cons (pe_bltn (v := .ty "bool") rfl t.f_bool (by decide +kernel) rfl) pa_nil))) (pe_one (pe_cmpR op_eq (pv 1) (pv 0) (nomark _)))))))
        pss_nil)
      (pss_cons (ps_if (pt_val (pe_callB call_isi rfl t.f_isinstance (by decide +kernel) (pa_cons (pv 1) (pa_cons (pe_bltn (v := .ty "int") rfl t.f_int (by decide +kernel) rfl) pa_nil))))
        (pss_one (ps_ret (pe_and (pe_callB call_isi rfl t.f_isinstance (by decide +kernel) (pa_cons (pv 0) (pa_cons (pe_bltn (v := .ty "int") rfl t.f_int (by decide +kernel) rfl) pa_nil))) (pe_one (pe_cmpR op_eq (pv 0) (pv 1) (nomark _))))))
        pss_nil)
      (pss_cons (ps_if (pt_val (pe_callB call_isi rfl t.f_isinstance (by decide +kernel) (pa_cons (pv 1) (pa_cons (pe_bltn (v := .ty "str") rfl t.f_str (by decide +kernel) rfl) pa_nil))))
        (pss_one (ps_ret (pe_and (pe_callB call_isi rfl t.f_isinstance (by decide +kernel) (pa_cons (pv 0) (pa_cons (pe_bltn (v := .ty "str") rfl t.f_str (by decide +kernel) rfl) pa_nil))) (pe_one (pe_cmpR op_eq (pv 0) (pv 1) (nomark _))))))
        pss_nil)
      (pss_one (ps_ret (pe_and (pe_cmpR op_isN (pv 1) pe_non (nomark _)) (pe_one (pe_cmpR op_isN (pv 0) pe_non (nomark _))))))))), ?_⟩
    have fl : (x = y ∧ atomV x = true) ∨ ∃ m, n = m + 1 ∧ ∃ a b xs ys, x = .ref a ∧ y = .ref b ∧ ((H a = some (.lst xs) ∧ H b = some (.lst ys)) ∨ (H a = some (.tup xs) ∧ H b = some (.tup ys))) ∧ xs.length = ys.length ∧ xs.length ≤ 100000 ∧ ∀ (i : Nat) u v, xs[i]? = some u → ys[i]? = some v → Eqd m H u v := by
      cases n with
      | zero => exact .inl hE
      | succ m => exact hE.imp id fun h => ⟨m, rfl, h⟩
    rcases fl with ⟨rfl, hf⟩ | ⟨m, rfl, a, b, xs, ys, rfl, rfl, hab, hl, hs, hi⟩
    · have fin : Q (.bl (decide (x = x))) H := by rw [decide_eq_true rfl]; exact k
      cases x with
      | bl c =>
        refine ⟨_, rfl, _, _, _, _, false, rfl, .ty _, .base (.bl _), kit_ty (by decide +kernel), _, rfl, iteF ⟨_, rfl, _, _, _, _, false, rfl, .ty _, .base (.bl _), kit_ty (by decide +kernel), _, rfl, iteF ?_⟩⟩
        refine ⟨_, rfl, _, _, _, _, true, rfl, .ty _, .base (.bl _), kit_ty (by decide +kernel), _, rfl, iteT (iteT ?_)⟩
        refine ⟨_, rfl, _, _, _, _, true, rfl, .ty _, .base (.bl _), kit_ty (by decide +kernel), true, rfl, iteT ?_⟩
        refine ⟨_, rfl, _, _, _, _, true, rfl, .ty _, .base (.bl _), kit_ty (by decide +kernel), true, rfl, iteT ?_⟩
        exact ⟨_, rfl, _, rfl, rfl, fin⟩
      | int c =>
        refine ⟨_, rfl, _, _, _, _, false, rfl, .ty _, .base (.int _), kit_ty (by decide +kernel), _, rfl, iteF ⟨_, rfl, _, _, _, _, false, rfl, .ty _, .base (.int _), kit_ty (by decide +kernel), _, rfl, iteF ?_⟩⟩
        refine ⟨_, rfl, _, _, _, _, false, rfl, .ty _, .base (.int _), kit_ty (by decide +kernel), _, rfl, iteF ⟨_, rfl, _, _, _, _, false, rfl, .ty _, .base (.int _), kit_ty (by decide +kernel), _, rfl, iteF ?_⟩⟩
        refine ⟨_, rfl, _, _, _, _, true, rfl, .ty _, .base (.int _), kit_ty (by decide +kernel), _, rfl, iteT ?_⟩
        refine ⟨_, rfl, _, _, _, _, true, rfl, .ty _, .base (.int _), kit_ty (by decide +kernel), true, rfl, iteT ?_⟩
        exact ⟨_, rfl, _, rfl, rfl, fin⟩
      | str c =>
        refine ⟨_, rfl, _, _, _, _, false, rfl, .ty _, .base (.str _), kit_ty (by decide +kernel), _, rfl, iteF ⟨_, rfl, _, _, _, _, false, rfl, .ty _, .base (.str _), kit_ty (by decide +kernel), _, rfl, iteF ?_⟩⟩
        refine ⟨_, rfl, _, _, _, _, false, rfl, .ty _, .base (.str _), kit_ty (by decide +kernel), _, rfl, iteF ⟨_, rfl, _, _, _, _, false, rfl, .ty _, .base (.str _), kit_ty (by decide +kernel), _, rfl, iteF ?_⟩⟩
        refine ⟨_, rfl, _, _, _, _, false, rfl, .ty _, .base (.str _), kit_ty (by decide +kernel), _, rfl, iteF ?_⟩
        refine ⟨_, rfl, _, _, _, _, true, rfl, .ty _, .base (.str _), kit_ty (by decide +kernel), _, rfl, iteT ?_⟩
        refine ⟨_, rfl, _, _, _, _, true, rfl, .ty _, .base (.str _), kit_ty (by decide +kernel), true, rfl, iteT ?_⟩
        exact ⟨_, rfl, _, rfl, rfl, fin⟩
      | _ => cases hf
    · have la : SqL K H a xs ∨ SqT K H a xs := hab.imp (fun h => SqL.of h.1) (fun h => SqT.of h.1)
      have lb : SqL K H b ys ∨ SqT K H b ys := hab.imp (fun h => SqL.of h.2) (fun h => SqT.of h.2)
      have qa : ∀ (j : Nat) (u : V) (Qr : VK), xs[j]? = some u → Qr u H → rIx K (.ref a) (.int (j : Int)) H Qr := fun j u Qr h q => la.elim (fun l => .inl ⟨_, _, _, _, rfl, rfl, l, atI_nat h, q⟩) (fun l => .inr (.inl ⟨_, _, _, _, rfl, rfl, l, atI_nat h, q⟩))
      have qb : ∀ (j : Nat) (u : V) (Qr : VK), ys[j]? = some u → Qr u H → rIx K (.ref b) (.int (j : Int)) H Qr := fun j u Qr h q => lb.elim (fun l => .inl ⟨_, _, _, _, rfl, rfl, l, atI_nat h, q⟩) (fun l => .inr (.inl ⟨_, _, _, _, rfl, rfl, l, atI_nat h, q⟩))
      refine Or.elim hab (fun hc => ?_) (fun hc => ?_)
      refine ⟨_, rfl, _, _, _, _, false, rfl, .ty _, .base (.lst hc.2), kit_ty (by decide +kernel), _, rfl, iteF ⟨_, rfl, _, _, _, _, true, rfl, .ty _, .base (.lst hc.2), kit_ty (by decide +kernel), _, rfl, iteT ?_⟩⟩
      refine ⟨_, rfl, _, _, _, _, false, rfl, .ty _, .base (.lst hc.2), kit_ty (by decide +kernel), _, rfl, _, _, _, _, false, rfl, .ty _, .base (.lst hc.1), kit_ty (by decide +kernel), rfl, _, rfl, iteF ?_⟩
      refine ⟨_, rfl, _, _, _, _, true, rfl, .ty _, .base (.lst hc.2), kit_ty (by decide +kernel), _, rfl, _, _, _, _, true, rfl, .ty _, .base (.lst hc.1), kit_ty (by decide +kernel), rfl, _, rfl, iteF ?_⟩
      rotate_left
      refine ⟨_, rfl, _, _, _, _, true, rfl, .ty _, .base (.tup hc.2), kit_ty (by decide +kernel), _, rfl, iteT (iteT ?_)⟩
      refine ⟨_, rfl, _, _, _, _, true, rfl, .ty _, .base (.tup hc.2), kit_ty (by decide +kernel), _, rfl, _, _, _, _, true, rfl, .ty _, .base (.tup hc.1), kit_ty (by decide +kernel), rfl, _, rfl, iteF ?_⟩
      refine ⟨_, rfl, _, _, _, _, false, rfl, .ty _, .base (.tup hc.2), kit_ty (by decide +kernel), _, rfl, _, _, _, _, false, rfl, .ty _, .base (.tup hc.1), kit_ty (by decide +kernel), rfl, _, rfl, iteF ?_⟩
      rotate_left
      all_goals
        refine ⟨_, rfl, a, _, rfl, la, _, rfl, b, _, rfl, lb, rfl, _, rfl, ?_⟩
        rw [hl, decide_eq_true rfl]
        refine iteF ?_
        refine ⟨_, rfl, b, _, rfl, lb, _, rfl, by omega, by omega, ?_⟩
        refine for_range (lo := 0) (n := ((ys.length : Nat) : Int).toNat) (fun i σ' H' => (∃ o2 : Option V, σ' = [some (.ref a), some (.ref b), o2]) ∧ H' = H) ⟨⟨_, rfl⟩, rfl⟩ ?_ (fun σ' H' p => by rw [p.2]; exact k)
        rintro i σ' H' hi' ⟨⟨o2, rfl⟩, rfl⟩
        have ix : i < xs.length := by omega
        have iy : i < ys.length := by omega
        have gx : xs[i]? = some xs[i] := List.getElem?_eq_getElem ix
        have gy : ys[i]? = some ys[i] := List.getElem?_eq_getElem iy
        have e0 : (0 : Int) + (i : Int) = (i : Int) := by omega
        rw [e0]
        refine ⟨_, rfl, _, rfl, qa i _ _ gx ⟨_, rfl, _, rfl, qb i _ _ gy ⟨_, _, rfl, hi i _ _ gx gy, _, rfl, iteF ⟨⟨_, rfl⟩, rfl⟩⟩⟩⟩
theorem eqd_ints {H : Hp} {p q : Addr} {xs : List Int} {n : Nat} (hp : H p = some (.lst (xs.map V.int))) (hq : H q = some (.lst (xs.map V.int))) (hl : xs.length ≤ 100000) : Eqd (n + 1) H (.ref p) (.ref q) :=
  .inr ⟨p, q, _, _, rfl, rfl, .inl ⟨hp, hq⟩, rfl, by rw [List.length_map]; exact hl, fun i u v e1 e2 => by
    rw [e1] at e2
    obtain rfl := Option.some.inj e2
    rw [List.getElem?_map] at e1
    cases z : xs[i]? with
    | none => rw [z] at e1; cases e1
    | some c =>
      rw [z] at e1
      obtain rfl := Option.some.inj e1
      cases n with
      | zero => exact ⟨rfl, rfl⟩
      | succ n => exact .inl ⟨rfl, rfl⟩⟩
theorem eqd_err {H : Hp} {T1 T2 p1 p2 : Addr} {n : Int} {r : Str} (h1 : H T1 = some (.tup [.ref p1, .str r])) (h2 : H T2 = some (.tup [.ref p2, .str r])) (g1 : H p1 = some (.tup [.int n])) (g2 : H p2 = some (.tup [.int n])) : Eqd 2 H (.ref T1) (.ref T2) :=
  .inr ⟨T1, T2, _, _, rfl, rfl, .inr ⟨h1, h2⟩, rfl, (by show 2 ≤ 100000; decide), fun i u v e1 e2 => by
    match i, e1, e2 with
    | 0, e1, e2 =>
      obtain rfl := Option.some.inj e1
      obtain rfl := Option.some.inj e2
      exact .inr ⟨p1, p2, _, _, rfl, rfl, .inr ⟨g1, g2⟩, rfl, (by show 1 ≤ 100000; decide), fun j u v e1 e2 => by
        match j, e1, e2 with
        | 0, e1, e2 =>
          obtain rfl := Option.some.inj e1
          obtain rfl := Option.some.inj e2
          exact ⟨rfl, rfl⟩⟩
    | 1, e1, e2 =>
      obtain rfl := Option.some.inj e1
      obtain rfl := Option.some.inj e2
      exact .inl ⟨rfl, rfl⟩⟩
end
end Sx

set_option Elab.async false
set_option linter.all false
set_option maxRecDepth 100000
set_option maxHeartbeats 1000000
namespace Sx
open PySem PySem.Spec PyProof.Rows L2 SxA SxK PySem.W
/-! ### _law_told -/
def spTold (K : PySem.W.Frag) : Sp := fun vs H Q _ => ∃ (x ma ra D : Addr) (W : Nat) (M zs : List Int) (z : Nat → Addr) (b : Nat → Bool) (as : List Addr) (ls : List (List Int)), vs = [.ref x, .ref D, .ref ma] ∧ LnAt K H x ma ra W M zs z b ∧ LinesAt H D as ls ∧ ShortL ls ∧
  (AllFit M b ls → ∀ R H', Same H H' → H' R = some (.lst ((flatG M b ls ls.length).map V.int)) → Q (.ref R) H') ∧
  (∀ k, k < ls.length → (∀ j, j < k → fitI M b j (ls.getD j []) ≠ []) → fitI M b k (ls.getD k []) = [] → ∀ T p H', Same H H' → H' T = some (.tup [.ref p, .str (Str.ofString "line")]) → H' p = some (.tup [.int (k : Int)]) → Q (.ref T) H')
theorem erP (p : Addr) (r : Str) : (erU p r).lookup ("place" : Str) = some (.ref p) := rfl
theorem erR (p : Addr) (r : Str) : (erU p r).lookup ("reason" : Str) = some (.str r) := rfl
section
variable {P : Program} {w : World} {K : PySem.W.Frag} {mg : Str → Option Value} {base : Heap}
abbrev nsLawTold : List Str := ["shape", "lines", "mark", "e"]
theorem scLawTold : FnScope nsLawTold ["shape", "lines", "mark"] (defScope sLawTold) := ⟨rfl, rfl, rfl, by decide +kernel, rfl, by decide +kernel, by decide +kernel⟩
theorem ok_law_told (t : T K mg) (er : ErrC P K mg xUnreadable) : Ok P w K mg base 6 "_law_told" ["shape", "lines", "mark"] (spTold K) := by
  refine mkOk t.d_law_told t.g_law_told scLawTold (fun vs H Q E h => ?_) (fun _ _ _ _ _ _ us hl => match us, hl with | [_, _, _], _ => rfl) fun cdv A outer s H vs Q E hr h => ?_
  · obtain ⟨x, ma, ra, D, W, M, zs, z, b, as, ls, rfl, _⟩ := h; rfl
  obtain ⟨x, ma, ra, D, W, M, zs, z, b, as, ls, rfl, hL, hLn, hsh, k, ke⟩ := h
  refine ⟨_, pss_one (ps_try_first (i := 3) (c := .ref (He.ga K "Unreadable")) (tb := fun W => tRet (tCallS (spUnb K) (WE W) (tCons (tVar 0) (tCons (tVar 1) (tCons (tVar 2) tNil))))) (ts := fun a cls d => tRet (tTup (tCons (tXf a cls d (He.ga K "Unreadable") "place" (tVar 3)) (tCons (tXf a cls d (He.ga K "Unreadable") "reason" (tVar 3)) tNil))))
    rfl rfl scLawTold.nd rfl rfl ⟨rfl, by decide, .inl er.glob⟩
    (fun W pn xe tk _ => pss_one (ps_ret (pe_okX (ok_unbroken t er) hr rfl tk (by exact (pa_cons (pv 0) (pa_cons (pv 1) (pa_cons (pv 2) pa_nil)))))))
    (fun a oe cls d pn hz2 hf => pss_one (ps_ret (pe_tup (pa_cons (pe_xf er.xf (er.ats _ (by decide)) hz2 hf (pv 3)) (pa_cons (pe_xf er.xf (er.ats _ (by decide)) hz2 hf (pv 3)) pa_nil)))))), ?_⟩
  refine ⟨_, rfl, _, rfl, _, rfl, x, ma, ra, D, W, M, zs, z, b, as, ls, rfl, hL, hLn, hsh, fun good R H5 hR s5 h5 => k good R H5 s5 h5, fun kk hk good bad d p H5 s5 hd hp => ⟨er.exm, fun a ha => ?_⟩⟩
  refine ⟨_, rfl, rfl, rfl, d, _, _, rfl, hd, erP p _, _, rfl, rfl, rfl, d, _, _, rfl, hd, erR p _, (by show 2 ≤ sizeLine; decide), fun T hT => ?_⟩
  exact ke kk hk good bad T p _ (s5.trans (Same.new hT)) upd_same (by rw [upd_ne (ne_of_none hp hT)]; exact hp)
end
end Sx

set_option Elab.async false
set_option linter.all false
set_option maxRecDepth 100000
set_option maxHeartbeats 2000000
namespace Sx
open PySem PySem.Spec PyProof.Rows L2 SxA SxK PySem.W
/-! ### _law_unbroken -/
def spUb (K : PySem.W.Frag) : Sp := fun vs H Q _ => ∃ (m R ma D : Addr) (W : Nat) (M : List Int) (b : Nat → Bool) (ps as : List Addr) (ls : List (List Int)), vs = [.ref m, .ref ma, .ref D] ∧ H m = some (.lst [.int (W : Int), .ref R]) ∧ RowsAt H R 10 b ps ∧ H ma = some (.tup (M.map V.int)) ∧ LinesAt H D as ls ∧ ShortL ls ∧ b 8 = b 7 ∧
  (AllFit M b ls → ∀ p H', Same H H' → H' p = some (.lst ((flatG M b ls ls.length).map V.int)) → Q (.ref p) H') ∧
  (∀ k, k < ls.length → (∀ j, j < k → fitI M b j (ls.getD j []) ≠ []) → fitI M b k (ls.getD k []) = [] → ∀ H', Same H H' → Q (.int (k : Int)) H')
abbrev wV (k : Nat) : V := .str (wS k)
theorem wS_ok (k : Nat) : PyData.strOk (wS k) = true := by
  unfold wS
  split
  · decide +kernel
  · split
    · decide +kernel
    · decide +kernel
theorem eq_nil {K : PySem.W.Frag} {H : Hp} {p q : Addr} {l : List Nat} {Q : VK} (hl : l.length ≤ 2) (hp : H p = some (.lst (l.map wV))) (hq : H q = some (.lst [])) (k : Q (.bl (decide (l = []))) H) : rEqD K (.ref p) (.ref q) H Q := by
  match l, hl with
  | [], _ => exact ⟨.list [], .list [], .lst (SqL.of hp) .nil, .lst (SqL.of hq) .nil, rfl, rfl, k⟩
  | [x], _ => exact ⟨.list [.str (wS x)], .list [], .lst (SqL.of hp) (.cons (.str _) .nil), .lst (SqL.of hq) .nil, by simp [SeqAt.shaped, PyData.canLay0, PyData.canLayAll0, PyData.depth, PyData.depthAll, wS_ok], rfl, k⟩
  | [x, y], _ => exact ⟨.list [.str (wS x), .str (wS y)], .list [], .lst (SqL.of hp) (.cons (.str _) (.cons (.str _) .nil)), .lst (SqL.of hq) .nil, by simp [SeqAt.shaped, PyData.canLay0, PyData.canLayAll0, PyData.depth, PyData.depthAll, wS_ok], rfl, k⟩
section
variable {P : Program} {w : World} {K : PySem.W.Frag} {mg : Str → Option Value} {base : Heap}
abbrev nsLawUnbroken : List Str := ["made", "mark", "lines", "found", "k", "line", "ways", "fitting", "way", "start"]
theorem scLawUnbroken : FnScope nsLawUnbroken ["made", "mark", "lines"] (defScope sLawUnbroken) := ⟨rfl, rfl, rfl, by decide +kernel, rfl, by decide +kernel, by decide +kernel⟩
theorem ok_law_unbroken (t : T K mg) : Ok P w K mg base 2 "_law_unbroken" ["made", "mark", "lines"] (spUb K) := by
  refine mkOk t.d_law_unbroken t.g_law_unbroken scLawUnbroken (fun vs H Q E h => ?_) (fun _ _ _ _ _ _ us hl => match us, hl with | [_, _, _], _ => rfl) fun cdv A outer s H vs Q E hr h => ?_
  · obtain ⟨m, R, ma, D, W, M, b, ps, as, ls, rfl, _⟩ := h; rfl
  obtain ⟨m, R, ma, D, W, M, b, ps, as, ls, rfl, hm, hR, hma, hLn, hsh, b8, k, ke⟩ := h
  have hr1 : Room 1 _ := hr.mono (by decide)
  refine ⟨_, pss_cons (ps_set (i := 3) scLawUnbroken.nd rfl (Or.inl rfl) (pe_lst pa_nil))
    (pss_cons (ps_for PassesOwn.never rfl (pi_range1 rfl t.f_range (pa_cons (pe_callB call_len_seq rfl t.f_len boot_len (pa_cons (pv 2) pa_nil)) pa_nil)) (pg_name (i := 4) scLawUnbroken.nd rfl (Or.inl rfl))
      (pss_cons (ps_set (i := 5) scLawUnbroken.nd rfl (Or.inl rfl) (pe_callTy call_list_of rfl t.f_list (by decide +kernel) (pa_cons (pe_ix ix_list (pv 2) (pv 4) (fun _ _ => rfl)) pa_nil)))
    (pss_cons (ps_set (i := 6) scLawUnbroken.nd rfl (Or.inl rfl) (pe_lst (pa_cons pe_str (pa_cons pe_str pa_nil))))
    (C8.pss_cut (ps_if (pt_cmpR op_eq (pv 4) pe_int (nomark _))
      (pss_one (ps_set (i := 6) scLawUnbroken.nd rfl (Or.inl rfl) (pe_lst (pa_cons pe_str pa_nil))))
      pss_nil)
    (pss_cons (ps_set (i := 7) scLawUnbroken.nd rfl (Or.inl rfl) (pe_lst pa_nil))
    (pss_cons (ps_for PassesOwn.never rfl (pi_list (pv 6)) (pg_name (i := 8) scLawUnbroken.nd rfl (Or.inl rfl))
      (pss_cons (ps_set (i := 9) scLawUnbroken.nd rfl (Or.inl rfl) (pe_ok (ok_law_mark t) hr1 rfl (pa_cons (pv 0) (pa_cons (pv 1) (pa_cons (pv 8) pa_nil)))))
    (pss_one (ps_if (PW.pt (pw_and (pt_cmpR (op_eqD (hu64 hr)) (pe_slice sl_list (pv 5) po_none (po_some (pe_callB call_len_seq rfl t.f_len boot_len (pa_cons (pv 9) pa_nil)))) (pv 9) (nomark _)) (pw_and1 (pt_cmpR op_gt (pe_callB call_len_seq rfl t.f_len boot_len (pa_cons (pv 5) pa_nil)) (pe_callB call_len_seq rfl t.f_len boot_len (pa_cons (pv 9) pa_nil)) (nomark _)))))
      (pss_one (ps_expr (pe_bm PySem.F.plainAttrs_list PySem.F.slot_list_append PySem.F.type_list_append mt_append (pv 7) (pa_cons (pv 8) pa_nil))))
      pss_nil))))
    (pss_cons (ps_if (pt_cmpR (op_eqD (hu64 hr)) (pv 7) (pe_lst pa_nil) (nomark _))
      (pss_one (ps_ret (pv 4)))
      pss_nil)
    (pss_one (ps_set (i := 3) scLawUnbroken.nd rfl (Or.inl rfl) (pe_op op_cat (pe_op op_cat (pv 3) (pe_slice sl_list (pe_lst (pa_cons pe_int pa_nil)) po_none (po_some (pe_callTy call_int1 rfl t.f_int (by decide +kernel) (pa_cons (pe_cmpR op_eq (pe_ix ix_list (pv 7) pe_int (fun _ _ => rfl)) pe_str (nomark _)) pa_nil))))) (pe_slice sl_list (pv 5) (po_some (pe_callB call_len_seq rfl t.f_len boot_len (pa_cons (pe_ok (ok_law_mark t) hr1 rfl (pa_cons (pv 0) (pa_cons (pv 1) (pa_cons (pe_ix ix_list (pv 7) pe_int (fun _ _ => rfl)) pa_nil)))) pa_nil))) po_none)))))))))))
    (pss_one (ps_ret (pv 3)))), ?_⟩
  have al := hLn.len
  have l100 := hsh.1
  refine ⟨(by show 0 ≤ sizeLine; decide), fun F0 hF0 => ?_⟩
  have s0 : Same H (upd H F0 (.lst [])) := Same.new hF0
  refine ⟨_, rfl, D, _, rfl, .inl (SqL.of (s0 _ _ hLn.at_)), _, rfl, by rw [List.length_map]; omega, by rw [List.length_map]; omega, ?_⟩
  rw [List.length_map, al, Int.toNat_natCast]
  refine for_range (lo := 0) (n := ls.length) (fun i σ' H' => (∃ (F : Addr) (o4 o5 o6 o7 o8 o9 : Option V), σ' = [some (.ref m), some (.ref ma), some (.ref D), some (.ref F), o4, o5, o6, o7, o8, o9] ∧ H' F = some (.lst ((flatG M b ls i).map V.int))) ∧ Same H H' ∧ ∀ j, j < i → fitI M b j (ls.getD j []) ≠ []) ⟨⟨F0, _, _, _, _, _, _, rfl, upd_same⟩, s0, fun j h => absurd h (Nat.not_lt_zero _)⟩ ?_ ?_
  · rintro i σ' H1 hi ⟨⟨F, o4, o5, o6, o7, o8, o9, rfl, hF⟩, s1, good⟩
    rw [show (0 : Int) + (i : Int) = (i : Int) by omega]
    obtain ⟨a, ea⟩ : ∃ a, as[i]? = some a := ⟨_, List.getElem?_eq_getElem (by omega)⟩
    obtain ⟨ln, el⟩ : ∃ l, ls[i]? = some l := ⟨_, List.getElem?_eq_getElem hi⟩
    have ha := hLn.el i a ln ea el
    have eg : ls.getD i [] = ln := by rw [List.getD_eq_getElem?_getD, el]; rfl
    have ll : ln.length ≤ 100 := hsh.2 ln (List.mem_of_getElem? el)
    refine ⟨_, rfl, _, rfl, D, _, _, .ref a, rfl, rfl, SqL.of (s1 _ _ hLn.at_), atI_nat (by rw [List.getElem?_map, ea]; rfl), a, _, rfl, .inr (SqT.of (s1 _ _ ha)), fun L hL => ?_⟩
    have s2 := s1.trans (Same.new (o := .lst (ln.map V.int)) hL)
    have hL2 : (upd H1 L (.lst (ln.map V.int))) L = some (.lst (ln.map V.int)) := upd_same
    have hF2 : (upd H1 L (.lst (ln.map V.int))) F = some (.lst ((flatG M b ls i).map V.int)) := (Same.new hL) _ _ hF
    generalize upd H1 L (.lst (ln.map V.int)) = H2 at s2 hL2 hF2
    refine ⟨(by show 2 ≤ sizeLine; decide), fun w1 hw1 => ?_⟩
    have s3 : Same H2 (upd H2 w1 (.lst ([1, 2].map wV))) := Same.new hw1
    have hw3 : (upd H2 w1 (.lst ([1, 2].map wV))) w1 = some (.lst ([1, 2].map wV)) := upd_same
    refine ⟨fun σ3 H3 => ∃ G : Addr, σ3 = [some (.ref m), some (.ref ma), some (.ref D), some (.ref F), some (nv i), some (.ref L), some (.ref G), o7, o8, o9] ∧ Same H2 H3 ∧ H3 G = some (.lst ((kindsI i).map wV)), ?_, ?_⟩
    · refine ⟨_, rfl, rfl, _, rfl, ite2 (fun h1 => ?_) (fun h1 => ?_)⟩
      · have i0 : i = 0 := by
          have := V.int.inj (of_decide_eq_true h1)
          omega
        refine ⟨(by show 1 ≤ sizeLine; decide), fun G hG => ⟨G, rfl, s3.trans (Same.new hG), ?_⟩⟩
        unfold kindsI
        rw [if_pos i0]
        exact upd_same
      · have i0 : i ≠ 0 := fun e => h1 (by rw [e]; exact decide_eq_true rfl)
        refine ⟨w1, rfl, s3, ?_⟩
        unfold kindsI
        rw [if_neg i0]
        exact hw3
    rintro σ3 H3 ⟨G, rfl, s23, hG⟩
    have s13 := s2.trans s23
    refine ⟨(by show 0 ≤ sizeLine; decide), fun F2 hF2' => ?_⟩
    have kl : (kindsI i).length ≤ 2 := by unfold kindsI; split <;> decide
    refine ⟨_, rfl, G, rfl, ⟨_, SqL.of ((Same.new hF2') _ _ hG)⟩, ?_⟩
    refine for_list (K := K) (a := G) (xs := (kindsI i).map wV) (fun j σ' H' => (∃ o8 o9 : Option V, σ' = [some (.ref m), some (.ref ma), some (.ref D), some (.ref F), some (nv i), some (.ref L), some (.ref G), some (.ref F2), o8, o9]) ∧ H' F2 = some (.lst ((((kindsI i).take j).filter (keepI M b ln)).map wV)) ∧ Same H3 H') ⟨⟨_, _, rfl⟩, upd_same, Same.new hF2'⟩ (fun j σ' H' _ q => SqL.of (q.2.2 _ _ hG)) ?_ ?_
    · rintro j v σ' H4 hv ⟨⟨o8, o9, rfl⟩, hc, s4⟩
      obtain ⟨kk, hk, rfl⟩ : ∃ kk, (kindsI i)[j]? = some kk ∧ v = wV kk := by
        rw [List.getElem?_map] at hv
        cases zz : (kindsI i)[j]? with
        | none => rw [zz] at hv; cases hv
        | some q => rw [zz] at hv; exact ⟨q, rfl, (Option.some.inj hv).symm⟩
      have k3 := (kinds_le (List.mem_of_getElem? hk)).1
      have s14 := s13.trans s4
      have tk : (kindsI i).take (j + 1) = (kindsI i).take j ++ [kk] := by rw [List.take_add_one, hk]; rfl
      refine ⟨_, rfl, _, rfl, _, rfl, m, R, ma, W, M, b, ps, kk, rfl, by omega, s14 _ _ hm, hR.same s14, s14 _ _ hma, fun st H5 s5 hst => ?_⟩
      have emk : mkS M b kk = mkI M b kk := rfl
      rw [emk] at hst
      have hL5 := s5 _ _ (s4 _ _ (s23 _ _ hL2))
      refine ⟨_, rfl, _, rfl, st, _, rfl, .inl (SqL.of hst), _, rfl, L, _, rfl, SqL.of hL5, fun r hr => ?_⟩
      rw [List.length_map, cut_to, ← List.map_take]
      refine ⟨_, rfl, eqL upd_same ((Same.new hr) _ _ hst) ?_⟩
      refine ⟨_, rfl, ?_⟩
      have s6 := s5.trans (Same.new (o := .lst ((ln.take (mkI M b kk).length).map V.int)) hr)
      have hc6 := s6 _ _ hc
      refine ite2 (fun h1 => ?_) (fun h1 => ?_)
      · refine ⟨_, rfl, L, _, rfl, .inl (SqL.of ((Same.new hr) _ _ hL5)), _, rfl, st, _, rfl, .inl (SqL.of ((Same.new hr) _ _ hst)), _, _, rfl, rfl, _, rfl, ?_⟩
        refine ite2 (fun h2 => ?_) (fun h2 => ?_)
        · have kp : keepI M b ln kk = true := by
            unfold keepI
            rw [h1, Bool.true_and]
            have := of_decide_eq_true h2
            rw [List.length_map, List.length_map] at this
            exact decide_eq_true (by omega)
          refine ⟨_, rfl, .inl ⟨rfl, _, SqL.of hc6⟩, _, rfl, F2, _, _, rfl, rfl, hc6, ?_, ⟨_, _, rfl⟩, ?_, Same.put (s4.trans s6) hF2'⟩
          · rw [List.length_map]
            have := List.length_filter_le (keepI M b ln) ((kindsI i).take j)
            rw [List.length_take] at this
            exact small1 (by omega)
          · rw [upd_same, tk, List.filter_append, List.map_append, List.filter_cons, if_pos kp]
            rfl
        · have kp : keepI M b ln kk = false := by
            unfold keepI
            rw [h1, Bool.true_and]
            refine decide_eq_false fun lt => h2 (decide_eq_true ?_)
            rw [List.length_map, List.length_map]
            omega
          refine ⟨⟨_, _, rfl⟩, ?_, s4.trans s6⟩
          rw [hc6, tk, List.filter_append, List.filter_cons, if_neg (by rw [kp]; decide)]
          simp
      · have kp : keepI M b ln kk = false := by
          unfold keepI
          rw [Bool.eq_false_iff.mpr h1, Bool.false_and]
        refine ⟨⟨_, _, rfl⟩, ?_, s4.trans s6⟩
        rw [hc6, tk, List.filter_append, List.filter_cons, if_neg (by rw [kp]; decide)]
        simp
    · rintro σ' H4 ⟨⟨o8, o9, rfl⟩, hc, s4⟩
      rw [List.length_map, List.take_length] at hc
      have efit : (kindsI i).filter (keepI M b ln) = fitI M b i ln := rfl
      rw [efit] at hc
      have fl2 : (fitI M b i ln).length ≤ 2 := Nat.le_trans (List.length_filter_le _ _) kl
      refine ⟨_, rfl, (by show 0 ≤ sizeLine; decide), fun e he => eq_nil fl2 ((Same.new he) _ _ hc) upd_same ⟨_, rfl, ite2 (fun h1 => ?_) (fun h1 => ?_)⟩⟩
      · exact ⟨_, rfl, ke i hi good (by rw [eg]; exact of_decide_eq_true h1) _ ((s13.trans s4).trans (Same.new he))⟩
      have s5 := s4.trans (Same.new (o := .lst []) he)
      have hc5 := (Same.new (o := .lst []) he) _ _ hc
      have s15 := s13.trans s5
      generalize upd H4 e (.lst []) = H5 at s5 hc5 s15
      cases hf : fitI M b i ln with
      | nil => exact absurd (decide_eq_true hf) h1
      | cons kk r =>
      rw [hf] at hc5
      have km := fit_mem (M := M) (b := b) (i := i) (ln := ln) (k := kk) (by rw [hf]; exact List.mem_cons_self)
      have epc : pieceG M b i ln = pre kk ++ ln.drop (mkI M b kk).length := by unfold pieceG; rw [hf]
      have hF5 := s5 _ _ (s23 _ _ hF2)
      have hL5 := s5 _ _ (s23 _ _ hL2)
      have fl := flatG_len (M := M) (b := b) hsh i
      refine ⟨_, rfl, (by show 1 ≤ sizeLine; decide), fun z1 hz1 => ?_⟩
      have t1 : Same H5 (upd H5 z1 (.lst [.int 0])) := Same.new hz1
      refine ⟨_, rfl, F2, _, _, wV kk, rfl, rfl, SqL.of (t1 _ _ hc5), atI_nat (j := 0) rfl, rfl, .inr ⟨_, rfl, ?_⟩⟩
      have ew : decide (wV kk = V.str (Str.ofString "on")) = decide (kk = 1) := by
        have : kk = 0 ∨ kk = 1 ∨ kk = 2 := by omega
        rcases this with rfl | rfl | rfl <;> decide +kernel
      refine ⟨_, rfl, ?_⟩
      rw [ew]
      have ec : cutV [V.int 0] none (some (if decide (kk = 1) = true then (1 : Int) else 0)) = (pre kk).map V.int := by
        unfold pre
        by_cases q : kk = 1
        · rw [if_pos (decide_eq_true q), if_pos q]; rfl
        · rw [if_neg (by rw [decide_eq_false q]; decide), if_neg q]; rfl
      refine ⟨z1, _, rfl, SqL.of upd_same, fun y hy => ?_⟩
      rw [ec]
      have t2 := t1.trans (Same.new (o := .lst ((pre kk).map V.int)) hy)
      have pk : (pre kk).length ≤ 1 := by unfold pre; split <;> simp
      refine ⟨F, y, _, _, rfl, rfl, t2 _ _ hF5, upd_same, by rw [List.length_map, List.length_map]; exact Nat.le_of_lt (small1 (by omega)), fun u hu => ?_⟩
      have t3 := t2.trans (Same.new (o := .lst ((flatG M b ls i).map V.int ++ (pre kk).map V.int)) hu)
      have s17 := s15.trans t3
      refine ⟨_, rfl, _, rfl, _, rfl, _, rfl, F2, _, _, wV kk, rfl, rfl, SqL.of (t3 _ _ hc5), atI_nat (j := 0) rfl, m, R, ma, W, M, b, ps, kk, rfl, by omega, s17 _ _ hm, hR.same s17, s17 _ _ hma, fun st H8 s8 hst => ?_⟩
      have emk : mkS M b kk = mkI M b kk := rfl
      rw [emk] at hst
      refine ⟨st, _, rfl, .inl (SqL.of hst), _, rfl, ?_⟩
      rw [List.length_map]
      have hL8 := s8 _ _ (t3 _ _ hL5)
      have hu8 := s8 _ _ (upd_same (H := upd (upd H5 z1 (.lst [.int 0])) y (.lst ((pre kk).map V.int))) (a := u) (o := .lst ((flatG M b ls i).map V.int ++ (pre kk).map V.int)))
      unfold tNoPart
      refine ⟨L, _, rfl, SqL.of hL8, fun v hv => ?_⟩
      rw [cut_from, ← List.map_drop]
      refine ⟨u, v, _, _, rfl, rfl, (Same.new hv) _ _ hu8, upd_same, ?_, fun f hf' => ⟨⟨f, _, _, _, _, _, _, rfl, ?_⟩, ?_, fun j hj => ?_⟩⟩
      · rw [List.length_append, List.length_map, List.length_map, List.length_map, List.length_drop]
        exact Nat.le_of_lt (small1 (by omega))
      · rw [upd_same, flatG_succ, eg, epc, List.map_append, List.map_append, List.append_assoc]
      · exact ((s17.trans s8).trans (Same.new hv)).trans (Same.new hf')
      · by_cases q : j < i
        · exact good j q
        · obtain rfl : j = i := by omega
          rw [eg, hf]
          exact List.cons_ne_nil _ _
  · rintro σ' H' ⟨⟨F, o4, o5, o6, o7, o8, o9, rfl, hF⟩, s1, good⟩
    exact ⟨_, rfl, k good F H' s1 hF⟩
end
end Sx

set_option Elab.async false
set_option linter.all false
set_option maxRecDepth 100000
set_option maxHeartbeats 2000000
namespace Sx
open PySem PySem.Spec PyProof.Rows L2 SxA SxK PySem.W
/-! ### _law_bent -/
def LS (H : Hp) (as : List Addr) (ls : List (List Int)) : Prop := as.length = ls.length ∧ ∀ (i : Nat) (a : Addr) (l : List Int), as[i]? = some a → ls[i]? = some l → H a = some (.tup (l.map V.int))
theorem LS.same {H H' : Hp} {as : List Addr} {ls : List (List Int)} (h : LS H as ls) (s : Same H H') : LS H' as ls := ⟨h.1, fun i a l e1 e2 => s _ _ (h.2 i a l e1 e2)⟩
theorem LS.take {H : Hp} {as : List Addr} {ls : List (List Int)} (h : LS H as ls) (n : Nat) : LS H (as.take n) (ls.take n) := ⟨by rw [List.length_take, List.length_take, h.1], fun i q k a b => by
  rw [List.getElem?_take] at a b
  by_cases z : i < n
  · rw [if_pos z] at a b; exact h.2 i q k a b
  · rw [if_neg z] at a; cases a⟩
theorem LS.drop {H : Hp} {as : List Addr} {ls : List (List Int)} (h : LS H as ls) (n : Nat) : LS H (as.drop n) (ls.drop n) := ⟨by rw [List.length_drop, List.length_drop, h.1], fun i q k a b => by
  rw [List.getElem?_drop] at a b
  exact h.2 _ q k a b⟩
theorem LS.append {H : Hp} {ps qs : List Addr} {l m : List (List Int)} (h : LS H ps l) (g : LS H qs m) : LS H (ps ++ qs) (l ++ m) := ⟨by rw [List.length_append, List.length_append, h.1, g.1], fun i q k a b => by
  by_cases z : i < ps.length
  · rw [List.getElem?_append_left z] at a
    rw [List.getElem?_append_left (by rw [← h.1]; exact z)] at b
    exact h.2 i q k a b
  · rw [List.getElem?_append_right (by omega)] at a
    rw [List.getElem?_append_right (by rw [← h.1]; omega), ← h.1] at b
    exact g.2 _ q k a b⟩
theorem LS.one {H : Hp} {q : Addr} {k : List Int} (h : H q = some (.tup (k.map V.int))) : LS H [q] [k] := ⟨rfl, fun i q' k' a b => by
  match i, a, b with
  | 0, a, b =>
    obtain rfl := Option.some.inj a
    obtain rfl := Option.some.inj b
    exact h⟩
theorem LinesAt.ls {H : Hp} {D : Addr} {as : List Addr} {ls : List (List Int)} (h : LinesAt H D as ls) : LS H as ls := ⟨h.len, h.el⟩
theorem LinesAt.of {H : Hp} {D : Addr} {as : List Addr} {ls : List (List Int)} (h : H D = some (.lst (as.map V.ref))) (g : LS H as ls) : LinesAt H D as ls := ⟨h, g.1, g.2⟩
theorem cut_one (xs : List V) (n : Nat) : cutV xs (some (n : Int)) (some ((n + 1 : Nat) : Int)) = (xs.drop n).take 1 := by
  unfold cutV
  rw [HT.sIx_nat, HT.sIx_nat]
  by_cases q : n < xs.length
  · rw [Nat.min_eq_left (by omega), Nat.min_eq_left (by omega), show n + 1 - n = 1 by omega]
  · rw [Nat.min_eq_right (by omega), Nat.min_eq_right (by omega), Nat.sub_self, List.take_zero, List.drop_eq_nil_of_le (by omega), List.take_nil]
def spBent (K : PySem.W.Frag) : Sp := fun vs H Q _ => ∃ (d l0 m R x ma ra : Addr) (W : Nat) (M zs : List Int) (z : Nat → Addr) (b : Nat → Bool) (ps : List Addr) (D : Addr) (as : List Addr) (ls : List (List Int)) (c : Nat), vs = [.ref d, .ref m, .ref D] ∧ Made K H d l0 m R x ma ra W M zs z b ps ∧ LinesAt H D as ls ∧ ls.length ≤ 90 ∧ (∀ l, l ∈ ls → l.length ≤ c) ∧ c ≤ 90 ∧
  ∀ D' as' ls' H', LinesAt H' D' as' ls' → ls'.length ≤ ls.length + 1 → (∀ l, l ∈ ls' → l.length ≤ c + 2) → Dk H' d l0 → But d H H' → Q (.ref D') H'
section
variable {P : Program} {w : World} {K : PySem.W.Frag} {mg : Str → Option Value} {base : Heap}
abbrev nsLawBent : List Str := ["deck", "made", "lines", "at", "kind"]
theorem scLawBent : FnScope nsLawBent ["deck", "made", "lines"] (defScope sLawBent) := ⟨rfl, rfl, rfl, by decide +kernel, rfl, by decide +kernel, by decide +kernel⟩
theorem ok_law_bent (t : T K mg) : Ok P w K mg base 2 "_law_bent" ["deck", "made", "lines"] (spBent K) := by
  refine mkOk t.d_law_bent t.g_law_bent scLawBent (fun vs H Q E h => ?_) (fun _ _ _ _ _ _ us hl => match us, hl with | [_, _, _], _ => rfl) fun cdv A outer s H vs Q E hr h => ?_
  · obtain ⟨d, l0, m, R, x, ma, ra, W, M, zs, z, b, ps, D, as, ls, c, rfl, _⟩ := h; rfl
  obtain ⟨d, l0, m, R, x, ma, ra, W, M, zs, z, b, ps, D, as, ls, c, rfl, S0, hLn0, l90, hc, c90, k⟩ := h
  have hr1 : Room 1 _ := hr.mono (by decide)
  refine ⟨_, pss_cons (ps_set (i := 3) scLawBent.nd rfl (Or.inl rfl) (pe_ok (ok_law_draw t) hr1 rfl (pa_cons (pv 0) (pa_cons (pe_op op_add (pe_callB call_len_seq rfl t.f_len boot_len (pa_cons (pv 2) pa_nil)) pe_int) pa_nil))))
    (pss_cons (ps_set (i := 4) scLawBent.nd rfl (Or.inl rfl) (pe_ok (ok_law_draw t) hr1 rfl (pa_cons (pv 0) (pa_cons pe_int pa_nil))))
    (C8.pss_cut (ps_if (PW.pt (pw_and (pt_cmpR op_eq (pv 4) pe_int (nomark _)) (pw_and1 (pt_cmpR op_gt (pe_callB call_len_seq rfl t.f_len boot_len (pa_cons (pv 2) pa_nil)) pe_int (nomark _)))))
      (pss_one (ps_ret (pe_op op_cat (pe_slice sl_list (pv 2) po_none (po_some (pv 3))) (pe_slice sl_list (pv 2) (po_some (pe_op op_add (pv 3) pe_int)) po_none))))
      pss_nil)
    (pss_cons (ps_if (pt_cmpR op_eq (pv 4) pe_int (nomark _))
      (pss_one (ps_ret (pe_op op_cat (pe_op op_cat (pe_slice sl_list (pv 2) po_none (po_some (pv 3))) (pe_slice sl_list (pv 2) (po_some (pv 3)) (po_some (pe_op op_add (pv 3) pe_int)))) (pe_slice sl_list (pv 2) (po_some (pv 3)) po_none))))
      pss_nil)
    (C8.pss_cut (ps_if (PW.pt (pw_and (pt_cmpR op_eq (pv 4) pe_int (nomark _)) (pw_and1 (pt_cmpR op_lt (pv 3) (pe_callB call_len_seq rfl t.f_len boot_len (pa_cons (pv 2) pa_nil)) (nomark _)))))
      (pss_one (ps_ret (pe_op op_cat (pe_op op_cat (pe_slice sl_list (pv 2) po_none (po_some (pv 3))) (pe_lst (pa_cons (pe_op op_catA (pe_ix ix_list (pv 2) (pv 3) (fun _ _ => rfl)) (pe_tup (pa_cons pe_int pa_nil))) pa_nil))) (pe_slice sl_list (pv 2) (po_some (pe_op op_add (pv 3) pe_int)) po_none))))
      pss_nil)
    (C8.pss_cut (ps_if (PW.pt (pw_and (pt_cmpR op_eq (pv 4) pe_int (nomark _)) (pw_and1 (pt_cmpR op_lt (pv 3) (pe_callB call_len_seq rfl t.f_len boot_len (pa_cons (pv 2) pa_nil)) (nomark _)))))
      (pss_one (ps_ret (pe_op op_cat (pe_op op_cat (pe_slice sl_list (pv 2) po_none (po_some (pv 3))) (pe_lst (pa_cons (pe_op op_catA (pe_callTy call_tuple_of rfl t.f_tuple (by decide +kernel) (pa_cons (pe_ix ix_list (pe_ix ix_list (pv 1) pe_int (fun _ _ => rfl)) (pe_ok (ok_law_draw t) hr1 rfl (pa_cons (pv 0) (pa_cons pe_int pa_nil))) (fun _ _ => rfl)) pa_nil)) (pe_slice sl_tupA (pe_ix ix_list (pv 2) (pv 3) (fun _ _ => rfl)) (po_some pe_int) po_none)) pa_nil))) (pe_slice sl_list (pv 2) (po_some (pe_op op_add (pv 3) pe_int)) po_none))))
      pss_nil)
    (pss_cons (ps_if (pt_cmpR op_eq (pv 4) pe_int (nomark _))
      (pss_one (ps_ret (pe_op op_cat (pe_op op_cat (pe_slice sl_list (pv 2) po_none (po_some (pv 3))) (pe_lst (pa_cons (pe_callTy call_tuple_of rfl t.f_tuple (by decide +kernel) (pa_cons (pe_ix ix_list (pe_ix ix_list (pv 1) pe_int (fun _ _ => rfl)) (pe_op op_add pe_int (pe_ok (ok_law_draw t) hr1 rfl (pa_cons (pv 0) (pa_cons pe_int pa_nil)))) (fun _ _ => rfl)) pa_nil)) pa_nil))) (pe_slice sl_list (pv 2) (po_some (pv 3)) po_none))))
      pss_nil)
    (pss_one (ps_ret (pv 2))))))))), ?_⟩
  have al := hLn0.len
  have mal : (as.map V.ref).length = as.length := List.length_map ..
  refine ⟨_, rfl, _, rfl, D, _, rfl, .inl (SqL.of hLn0.at_), _, _, rfl, rfl, d, l0, _, rfl, S0.dk, by rw [mal]; omega, by rw [mal]; omega, fun av Ha a0 a1 Da Ba => ?_⟩
  rw [mal] at a1
  obtain ⟨n, rfl⟩ : ∃ n : Nat, av = (n : Int) := ⟨av.toNat, by omega⟩
  have n1 : n ≤ ls.length := by omega
  have Sa := S0.but Ba Da
  have hLa := hLn0.but Ba S0.dk
  refine ⟨_, rfl, d, l0, 6, rfl, Da, by decide, by decide, fun kv Hb k0 k6 Db Bb => ?_⟩
  have S := Sa.but Bb Db
  have hLn := hLa.but Bb Da
  have bB : But d H Hb := Ba.trans Bb
  have hls := hLn.ls
  have small : ∀ q, q ≤ 1000 → q < sizeLine := fun q h => small1 (by omega)
  -- the ends of the branches
  have fin : ∀ {H1 : Hp} (q : Addr) (as' : List Addr) (ls' : List (List Int)) (b1 : But d Hb H1) (D1 : Dk H1 d l0), H1 q = some (.lst (as'.map V.ref)) → LS H1 as' ls' → ls'.length ≤ ls.length + 1 → (∀ l, l ∈ ls' → l.length ≤ c + 2) → Q (.ref q) H1 := fun {H1} q as' ls' b1 D1 e1 e2 e3 e4 => k q as' ls' H1 (LinesAt.of e1 e2) e3 e4 D1 (bB.trans b1)
  have short : ∀ l, l ∈ ls → l.length ≤ c + 2 := fun l hl => Nat.le_trans (hc l hl) (by omega)
  refine ⟨fun σ2 H2 => σ2 = [some (.ref d), some (.ref m), some (.ref D), some (nv n), some (.int kv)] ∧ Hb = H2, ?_, ?_⟩
  · refine ⟨_, rfl, rfl, _, rfl, ite2 (fun h1 => ?_) (fun _ => ⟨rfl, rfl⟩)⟩
    refine ⟨_, rfl, D, _, rfl, .inl (SqL.of hLn.at_), _, _, rfl, rfl, _, rfl, ite2 (fun h2 => ?_) (fun _ => ⟨rfl, rfl⟩)⟩
    have hD := hLn.at_
    refine ⟨_, rfl, _, rfl, _, rfl, D, _, rfl, SqL.of hD, fun q1 hq1 => ?_⟩
    rw [cut_to, ← List.map_take]
    have t1 := Same.new (o := .lst ((as.take n).map V.ref)) hq1
    have eq1 := upd_same (H := Hb) (a := q1) (o := .lst ((as.take n).map V.ref))
    generalize upd Hb q1 (.lst ((as.take n).map V.ref)) = G1 at t1 eq1 ⊢
    have u := t1
    have hD := t1 _ _ hD
    refine ⟨_, rfl, _, rfl, _, _, rfl, rfl, ((n + 1 : Nat) : Int), rfl, D, _, rfl, SqL.of hD, fun q2 hq2 => ?_⟩
    rw [cut_from, ← List.map_drop]
    have t2 := Same.new (o := .lst ((as.drop (n + 1)).map V.ref)) hq2
    have eq2 := upd_same (H := G1) (a := q2) (o := .lst ((as.drop (n + 1)).map V.ref))
    generalize upd G1 q2 (.lst ((as.drop (n + 1)).map V.ref)) = G2 at t2 eq2 ⊢
    have u := u.trans t2
    have hD := t2 _ _ hD
    have eq1 := t2 _ _ eq1
    refine ⟨q1, q2, _, _, rfl, rfl, eq1, eq2, Nat.le_of_lt (small _ (by simp; omega)), fun q3 hq3 => ?_⟩
    have t3 := Same.new (o := .lst ((as.take n).map V.ref ++ (as.drop (n + 1)).map V.ref)) hq3
    have eq3 := upd_same (H := G2) (a := q3) (o := .lst ((as.take n).map V.ref ++ (as.drop (n + 1)).map V.ref))
    generalize upd G2 q3 (.lst ((as.take n).map V.ref ++ (as.drop (n + 1)).map V.ref)) = G3 at t3 eq3 ⊢
    have u := u.trans t3
    have hD := t3 _ _ hD
    have eq1 := t3 _ _ eq1
    have eq2 := t3 _ _ eq2
    exact fin q3 (as.take n ++ as.drop (n + 1)) (ls.take n ++ ls.drop (n + 1)) (But.of u) (Db.same u) (by rw [eq3]; simp) (((hls.take n).append (hls.drop (n + 1))).same u) (by simp; omega) fun l hl => short l ((List.mem_append.mp hl).elim List.mem_of_mem_take List.mem_of_mem_drop)
  rintro σ2 H2 ⟨rfl, rfl⟩
  refine ⟨_, rfl, rfl, _, rfl, ite2 (fun h1 => ?_) (fun _ => ?_)⟩
  · skip
    have hD := hLn.at_
    refine ⟨_, rfl, _, rfl, _, rfl, D, _, rfl, SqL.of hD, fun q1 hq1 => ?_⟩
    rw [cut_to, ← List.map_take]
    have t1 := Same.new (o := .lst ((as.take n).map V.ref)) hq1
    have eq1 := upd_same (H := Hb) (a := q1) (o := .lst ((as.take n).map V.ref))
    generalize upd Hb q1 (.lst ((as.take n).map V.ref)) = G1 at t1 eq1 ⊢
    have u := t1
    have hD := t1 _ _ hD
    refine ⟨_, rfl, _, rfl, _, rfl, _, rfl, _, _, rfl, rfl, ((n + 1 : Nat) : Int), rfl, D, _, rfl, SqL.of hD, fun q2 hq2 => ?_⟩
    rw [cut_one, ← List.map_drop, ← List.map_take]
    have t2 := Same.new (o := .lst (((as.drop n).take 1).map V.ref)) hq2
    have eq2 := upd_same (H := G1) (a := q2) (o := .lst (((as.drop n).take 1).map V.ref))
    generalize upd G1 q2 (.lst (((as.drop n).take 1).map V.ref)) = G2 at t2 eq2 ⊢
    have u := u.trans t2
    have hD := t2 _ _ hD
    have eq1 := t2 _ _ eq1
    refine ⟨q1, q2, _, _, rfl, rfl, eq1, eq2, Nat.le_of_lt (small _ (by simp; omega)), fun q3 hq3 => ?_⟩
    have t3 := Same.new (o := .lst ((as.take n).map V.ref ++ ((as.drop n).take 1).map V.ref)) hq3
    have eq3 := upd_same (H := G2) (a := q3) (o := .lst ((as.take n).map V.ref ++ ((as.drop n).take 1).map V.ref))
    generalize upd G2 q3 (.lst ((as.take n).map V.ref ++ ((as.drop n).take 1).map V.ref)) = G3 at t3 eq3 ⊢
    have u := u.trans t3
    have hD := t3 _ _ hD
    have eq1 := t3 _ _ eq1
    have eq2 := t3 _ _ eq2
    refine ⟨_, rfl, _, rfl, _, rfl, D, _, rfl, SqL.of hD, fun q4 hq4 => ?_⟩
    rw [cut_from, ← List.map_drop]
    have t4 := Same.new (o := .lst ((as.drop n).map V.ref)) hq4
    have eq4 := upd_same (H := G3) (a := q4) (o := .lst ((as.drop n).map V.ref))
    generalize upd G3 q4 (.lst ((as.drop n).map V.ref)) = G4 at t4 eq4 ⊢
    have u := u.trans t4
    have hD := t4 _ _ hD
    have eq1 := t4 _ _ eq1
    have eq2 := t4 _ _ eq2
    have eq3 := t4 _ _ eq3
    refine ⟨q3, q4, _, _, rfl, rfl, eq3, eq4, Nat.le_of_lt (small _ (by simp; omega)), fun q5 hq5 => ?_⟩
    have t5 := Same.new (o := .lst ((as.take n).map V.ref ++ ((as.drop n).take 1).map V.ref ++ (as.drop n).map V.ref)) hq5
    have eq5 := upd_same (H := G4) (a := q5) (o := .lst ((as.take n).map V.ref ++ ((as.drop n).take 1).map V.ref ++ (as.drop n).map V.ref))
    generalize upd G4 q5 (.lst ((as.take n).map V.ref ++ ((as.drop n).take 1).map V.ref ++ (as.drop n).map V.ref)) = G5 at t5 eq5 ⊢
    have u := u.trans t5
    have hD := t5 _ _ hD
    have eq1 := t5 _ _ eq1
    have eq2 := t5 _ _ eq2
    have eq3 := t5 _ _ eq3
    have eq4 := t5 _ _ eq4
    exact fin q5 ((as.take n ++ (as.drop n).take 1) ++ as.drop n) ((ls.take n ++ (ls.drop n).take 1) ++ ls.drop n) (But.of u) (Db.same u) (by rw [eq5]; simp) ((((hls.take n).append ((hls.drop n).take 1)).append (hls.drop n)).same u) (by simp; omega) fun l hl => short l ((List.mem_append.mp hl).elim (fun h => (List.mem_append.mp h).elim List.mem_of_mem_take fun h => List.mem_of_mem_drop (List.mem_of_mem_take h)) List.mem_of_mem_drop)
  refine ⟨fun σ2 H2 => σ2 = [some (.ref d), some (.ref m), some (.ref D), some (nv n), some (.int kv)] ∧ Hb = H2, ?_, ?_⟩
  · refine ⟨_, rfl, rfl, _, rfl, ite2 (fun h1 => ?_) (fun _ => ⟨rfl, rfl⟩)⟩
    refine ⟨_, rfl, _, rfl, D, _, rfl, .inl (SqL.of hLn.at_), _, _, rfl, rfl, _, rfl, ite2 (fun h2 => ?_) (fun _ => ⟨rfl, rfl⟩)⟩
    have nl : n < ls.length := by
      have := of_decide_eq_true h2
      rw [mal] at this
      omega
    obtain ⟨a, ea⟩ : ∃ a, as[n]? = some a := ⟨_, List.getElem?_eq_getElem (by omega)⟩
    obtain ⟨ln, el⟩ : ∃ l, ls[n]? = some l := ⟨_, List.getElem?_eq_getElem nl⟩
    have ha := hLn.el n a ln ea el
    have lc := hc ln (List.mem_of_getElem? el)
    have gA : atI (as.map V.ref) (n : Int) = some (.ref a) := atI_nat (by rw [List.getElem?_map, ea]; rfl)
    have hD := hLn.at_
    refine ⟨_, rfl, _, rfl, _, rfl, D, _, rfl, SqL.of hD, fun q1 hq1 => ?_⟩
    rw [cut_to, ← List.map_take]
    have t1 := Same.new (o := .lst ((as.take n).map V.ref)) hq1
    have eq1 := upd_same (H := Hb) (a := q1) (o := .lst ((as.take n).map V.ref))
    generalize upd Hb q1 (.lst ((as.take n).map V.ref)) = G1 at t1 eq1 ⊢
    have u := t1
    have hD := t1 _ _ hD
    have ha := t1 _ _ ha
    refine ⟨_, rfl, _, rfl, D, _, _, .ref a, rfl, rfl, SqL.of hD, gA, (by show 1 ≤ sizeLine; decide), fun z1 hz1 => ?_⟩
    have t2 := Same.new (o := .tup [V.int 0]) hz1
    have ez1 := upd_same (H := G1) (a := z1) (o := .tup [V.int 0])
    generalize upd G1 z1 (.tup [V.int 0]) = G2 at t2 ez1 ⊢
    have u := u.trans t2
    have hD := t2 _ _ hD
    have ha := t2 _ _ ha
    have eq1 := t2 _ _ eq1
    refine catT (K := K) ha ez1 (Nat.le_of_lt (small _ (by simp; omega))) fun r Gr sr er => ?_
    have u := u.trans sr
    have hD := sr _ _ hD
    have ha := sr _ _ ha
    have eq1 := sr _ _ eq1
    have ez1 := sr _ _ ez1
    refine ⟨(by show 1 ≤ sizeLine; decide), fun o ho => ?_⟩
    have t3 := Same.new (o := .lst [V.ref r]) ho
    have eo := upd_same (H := Gr) (a := o) (o := .lst [V.ref r])
    generalize upd Gr o (.lst [V.ref r]) = G3 at t3 eo ⊢
    have u := u.trans t3
    have hD := t3 _ _ hD
    have ha := t3 _ _ ha
    have eq1 := t3 _ _ eq1
    have ez1 := t3 _ _ ez1
    have er := t3 _ _ er
    refine ⟨q1, o, _, _, rfl, rfl, eq1, eo, Nat.le_of_lt (small _ (by simp; omega)), fun q3 hq3 => ?_⟩
    have t4 := Same.new (o := .lst ((as.take n).map V.ref ++ [V.ref r])) hq3
    have eq3 := upd_same (H := G3) (a := q3) (o := .lst ((as.take n).map V.ref ++ [V.ref r]))
    generalize upd G3 q3 (.lst ((as.take n).map V.ref ++ [V.ref r])) = G4 at t4 eq3 ⊢
    have u := u.trans t4
    have hD := t4 _ _ hD
    have ha := t4 _ _ ha
    have eq1 := t4 _ _ eq1
    have ez1 := t4 _ _ ez1
    have er := t4 _ _ er
    have eo := t4 _ _ eo
    refine ⟨_, rfl, _, rfl, _, _, rfl, rfl, ((n + 1 : Nat) : Int), rfl, D, _, rfl, SqL.of hD, fun q4 hq4 => ?_⟩
    rw [cut_from, ← List.map_drop]
    have t5 := Same.new (o := .lst ((as.drop (n + 1)).map V.ref)) hq4
    have eq4 := upd_same (H := G4) (a := q4) (o := .lst ((as.drop (n + 1)).map V.ref))
    generalize upd G4 q4 (.lst ((as.drop (n + 1)).map V.ref)) = G5 at t5 eq4 ⊢
    have u := u.trans t5
    have hD := t5 _ _ hD
    have ha := t5 _ _ ha
    have eq1 := t5 _ _ eq1
    have ez1 := t5 _ _ ez1
    have er := t5 _ _ er
    have eo := t5 _ _ eo
    have eq3 := t5 _ _ eq3
    refine ⟨q3, q4, _, _, rfl, rfl, eq3, eq4, Nat.le_of_lt (small _ (by simp; omega)), fun q5 hq5 => ?_⟩
    have t6 := Same.new (o := .lst ((as.take n).map V.ref ++ [V.ref r] ++ (as.drop (n + 1)).map V.ref)) hq5
    have eq5 := upd_same (H := G5) (a := q5) (o := .lst ((as.take n).map V.ref ++ [V.ref r] ++ (as.drop (n + 1)).map V.ref))
    generalize upd G5 q5 (.lst ((as.take n).map V.ref ++ [V.ref r] ++ (as.drop (n + 1)).map V.ref)) = G6 at t6 eq5 ⊢
    have u := u.trans t6
    have hD := t6 _ _ hD
    have ha := t6 _ _ ha
    have eq1 := t6 _ _ eq1
    have ez1 := t6 _ _ ez1
    have er := t6 _ _ er
    have eo := t6 _ _ eo
    have eq3 := t6 _ _ eq3
    have eq4 := t6 _ _ eq4
    exact fin q5 ((as.take n ++ [r]) ++ as.drop (n + 1)) ((ls.take n ++ [ln ++ [0]]) ++ ls.drop (n + 1)) (But.of u) (Db.same u) (by rw [eq5]; simp) (((((hls.take n).same u).append (LS.one (by rw [er]; simp)))).append ((hls.drop (n + 1)).same u)) (by simp; omega) (fun l hl => (List.mem_append.mp hl).elim (fun h => (List.mem_append.mp h).elim (fun h => short l (List.mem_of_mem_take h)) (fun h => by rw [List.mem_singleton] at h; rw [h]; simp; omega)) (fun h => short l (List.mem_of_mem_drop h)))
  rintro σ2 H2 ⟨rfl, rfl⟩
  refine ⟨fun σ2 H2 => σ2 = [some (.ref d), some (.ref m), some (.ref D), some (nv n), some (.int kv)] ∧ Hb = H2, ?_, ?_⟩
  · refine ⟨_, rfl, rfl, _, rfl, ite2 (fun h1 => ?_) (fun _ => ⟨rfl, rfl⟩)⟩
    refine ⟨_, rfl, _, rfl, D, _, rfl, .inl (SqL.of hLn.at_), _, _, rfl, rfl, _, rfl, ite2 (fun h2 => ?_) (fun _ => ⟨rfl, rfl⟩)⟩
    have nl : n < ls.length := by
      have := of_decide_eq_true h2
      rw [mal] at this
      omega
    obtain ⟨a, ea⟩ : ∃ a, as[n]? = some a := ⟨_, List.getElem?_eq_getElem (by omega)⟩
    obtain ⟨ln, el⟩ : ∃ l, ls[n]? = some l := ⟨_, List.getElem?_eq_getElem nl⟩
    have ha := hLn.el n a ln ea el
    have lc := hc ln (List.mem_of_getElem? el)
    have gA : atI (as.map V.ref) (n : Int) = some (.ref a) := atI_nat (by rw [List.getElem?_map, ea]; rfl)
    have hD := hLn.at_
    refine ⟨_, rfl, _, rfl, _, rfl, D, _, rfl, SqL.of hD, fun q1 hq1 => ?_⟩
    rw [cut_to, ← List.map_take]
    have t1 := Same.new (o := .lst ((as.take n).map V.ref)) hq1
    have eq1 := upd_same (H := Hb) (a := q1) (o := .lst ((as.take n).map V.ref))
    generalize upd Hb q1 (.lst ((as.take n).map V.ref)) = G1 at t1 eq1 ⊢
    have u := t1
    have hD := t1 _ _ hD
    have S1 := S.same u
    have hL1 := hLn.same u
    refine ⟨_, rfl, m, _, _, .ref R, rfl, rfl, SqL.of S1.mk_, atI_nat (j := 1) rfl, _, rfl, d, l0, 10, rfl, S1.dk, by decide, by decide, fun w0 H5 w1 w2 D5 B5 => ?_⟩
    obtain ⟨o1, rfl⟩ : ∃ o1 : Nat, w0 = (o1 : Int) := ⟨w0.toNat, by omega⟩
    have S5 := S1.but B5 D5
    have hL5 := hL1.but B5 S1.dk
    have eq1 := B5 _ _ eq1 (S1.dk.neP eq1)
    have bu := (But.of u).trans B5
    have hR5 := S5.rows
    have hD := hL5.at_
    have hls5 := hL5.ls
    obtain ⟨pu, eu⟩ : ∃ q, ps[o1]? = some q := ⟨_, List.getElem?_eq_getElem (by rw [hR5.len]; omega)⟩
    have ha := hL5.el n a ln ea el
    refine ⟨R, _, _, .ref pu, rfl, rfl, SqL.of hR5.at_, atI_nat (by rw [List.getElem?_map, eu]; rfl), pu, _, rfl, .inl ⟨SqL.of (hR5.el o1 pu eu), fun z1 hz1 => ?_⟩⟩
    have ml : (mR o1 (b o1)).length ≤ 2 := by rw [mR_len]; split <;> decide
    have t1 := Same.new (o := .tup ((mR o1 (b o1)).map V.int)) hz1
    have ez1 := upd_same (H := H5) (a := z1) (o := .tup ((mR o1 (b o1)).map V.int))
    generalize upd H5 z1 (.tup ((mR o1 (b o1)).map V.int)) = G1 at t1 ez1 ⊢
    have u := t1
    have hD := t1 _ _ hD
    have eq1 := t1 _ _ eq1
    have ha := t1 _ _ ha
    refine ⟨_, rfl, _, rfl, D, _, _, .ref a, rfl, rfl, SqL.of hD, gA, _, rfl, ?_⟩
    unfold tNoPart
    refine slTd (K := K) (n := 1) ha fun q2 Gq sq eq2 => ?_
    have u := u.trans sq
    have hD := sq _ _ hD
    have eq1 := sq _ _ eq1
    have ha := sq _ _ ha
    have ez1 := sq _ _ ez1
    refine catT (K := K) ez1 eq2 (Nat.le_of_lt (small _ (by simp; omega))) fun r Gr sr er => ?_
    have u := u.trans sr
    have hD := sr _ _ hD
    have eq1 := sr _ _ eq1
    have ha := sr _ _ ha
    have ez1 := sr _ _ ez1
    have eq2 := sr _ _ eq2
    refine ⟨(by show 1 ≤ sizeLine; decide), fun o ho => ?_⟩
    have t2 := Same.new (o := .lst [V.ref r]) ho
    have eo := upd_same (H := Gr) (a := o) (o := .lst [V.ref r])
    generalize upd Gr o (.lst [V.ref r]) = G2 at t2 eo ⊢
    have u := u.trans t2
    have hD := t2 _ _ hD
    have eq1 := t2 _ _ eq1
    have ha := t2 _ _ ha
    have ez1 := t2 _ _ ez1
    have eq2 := t2 _ _ eq2
    have er := t2 _ _ er
    refine ⟨q1, o, _, _, rfl, rfl, eq1, eo, Nat.le_of_lt (small _ (by simp; omega)), fun q3 hq3 => ?_⟩
    have t3 := Same.new (o := .lst ((as.take n).map V.ref ++ [V.ref r])) hq3
    have eq3 := upd_same (H := G2) (a := q3) (o := .lst ((as.take n).map V.ref ++ [V.ref r]))
    generalize upd G2 q3 (.lst ((as.take n).map V.ref ++ [V.ref r])) = G3 at t3 eq3 ⊢
    have u := u.trans t3
    have hD := t3 _ _ hD
    have eq1 := t3 _ _ eq1
    have ha := t3 _ _ ha
    have ez1 := t3 _ _ ez1
    have eq2 := t3 _ _ eq2
    have er := t3 _ _ er
    have eo := t3 _ _ eo
    refine ⟨_, rfl, _, rfl, _, _, rfl, rfl, ((n + 1 : Nat) : Int), rfl, D, _, rfl, SqL.of hD, fun q4 hq4 => ?_⟩
    rw [cut_from, ← List.map_drop]
    have t4 := Same.new (o := .lst ((as.drop (n + 1)).map V.ref)) hq4
    have eq4 := upd_same (H := G3) (a := q4) (o := .lst ((as.drop (n + 1)).map V.ref))
    generalize upd G3 q4 (.lst ((as.drop (n + 1)).map V.ref)) = G4 at t4 eq4 ⊢
    have u := u.trans t4
    have hD := t4 _ _ hD
    have eq1 := t4 _ _ eq1
    have ha := t4 _ _ ha
    have ez1 := t4 _ _ ez1
    have eq2 := t4 _ _ eq2
    have er := t4 _ _ er
    have eo := t4 _ _ eo
    have eq3 := t4 _ _ eq3
    refine ⟨q3, q4, _, _, rfl, rfl, eq3, eq4, Nat.le_of_lt (small _ (by simp; omega)), fun q5 hq5 => ?_⟩
    have t5 := Same.new (o := .lst ((as.take n).map V.ref ++ [V.ref r] ++ (as.drop (n + 1)).map V.ref)) hq5
    have eq5 := upd_same (H := G4) (a := q5) (o := .lst ((as.take n).map V.ref ++ [V.ref r] ++ (as.drop (n + 1)).map V.ref))
    generalize upd G4 q5 (.lst ((as.take n).map V.ref ++ [V.ref r] ++ (as.drop (n + 1)).map V.ref)) = G5 at t5 eq5 ⊢
    have u := u.trans t5
    have hD := t5 _ _ hD
    have eq1 := t5 _ _ eq1
    have ha := t5 _ _ ha
    have ez1 := t5 _ _ ez1
    have eq2 := t5 _ _ eq2
    have er := t5 _ _ er
    have eo := t5 _ _ eo
    have eq3 := t5 _ _ eq3
    have eq4 := t5 _ _ eq4
    exact fin q5 ((as.take n ++ [r]) ++ as.drop (n + 1)) ((ls.take n ++ [mR o1 (b o1) ++ ln.drop 1]) ++ ls.drop (n + 1)) (bu.same u) (D5.same u) (by rw [eq5]; simp) (((((hls5.take n).same u).append (LS.one (by rw [er]; simp)))).append ((hls5.drop (n + 1)).same u)) (by simp; omega) (fun l hl => (List.mem_append.mp hl).elim (fun h => (List.mem_append.mp h).elim (fun h => short l (List.mem_of_mem_take h)) (fun h => by rw [List.mem_singleton] at h; rw [h]; simp; omega)) (fun h => short l (List.mem_of_mem_drop h)))
  rintro σ2 H2 ⟨rfl, rfl⟩
  refine ⟨_, rfl, rfl, _, rfl, ite2 (fun h1 => ?_) (fun _ => ⟨_, rfl, fin D as ls (But.of (Same.refl _)) Db hLn.at_ hls (by omega) short⟩)⟩
  have hD := hLn.at_
  refine ⟨_, rfl, _, rfl, _, rfl, D, _, rfl, SqL.of hD, fun q1 hq1 => ?_⟩
  rw [cut_to, ← List.map_take]
  have t1 := Same.new (o := .lst ((as.take n).map V.ref)) hq1
  have eq1 := upd_same (H := Hb) (a := q1) (o := .lst ((as.take n).map V.ref))
  generalize upd Hb q1 (.lst ((as.take n).map V.ref)) = G1 at t1 eq1 ⊢
  have u := t1
  have hD := t1 _ _ hD
  have S1 := S.same u
  have hL1 := hLn.same u
  refine ⟨_, rfl, m, _, _, .ref R, rfl, rfl, SqL.of S1.mk_, atI_nat (j := 1) rfl, _, rfl, d, l0, 2, rfl, S1.dk, by decide, by decide, fun w0 H5 w1 w2 D5 B5 => ?_⟩
  obtain ⟨o1, rfl⟩ : ∃ o1 : Nat, w0 = (o1 : Int) := ⟨w0.toNat, by omega⟩
  have S5 := S1.but B5 D5
  have hL5 := hL1.but B5 S1.dk
  have eq1 := B5 _ _ eq1 (S1.dk.neP eq1)
  have bu := (But.of u).trans B5
  have hR5 := S5.rows
  have hD := hL5.at_
  have hls5 := hL5.ls
  obtain ⟨pu, eu⟩ : ∃ q, ps[7 + o1]? = some q := ⟨_, List.getElem?_eq_getElem (by rw [hR5.len]; omega)⟩
  refine ⟨_, _, rfl, rfl, R, _, _, .ref pu, rfl, rfl, SqL.of hR5.at_, at_of (j := 7 + o1) (by omega) (by rw [List.getElem?_map, eu]; rfl), pu, _, rfl, .inl ⟨SqL.of (hR5.el (7 + o1) pu eu), fun z1 hz1 => ?_⟩⟩
  have ml : (mR (7 + o1) (b (7 + o1))).length ≤ 2 := by rw [mR_len]; split <;> decide
  have t1 := Same.new (o := .tup ((mR (7 + o1) (b (7 + o1))).map V.int)) hz1
  have ez1 := upd_same (H := H5) (a := z1) (o := .tup ((mR (7 + o1) (b (7 + o1))).map V.int))
  generalize upd H5 z1 (.tup ((mR (7 + o1) (b (7 + o1))).map V.int)) = G1 at t1 ez1 ⊢
  have u := t1
  have hD := t1 _ _ hD
  have eq1 := t1 _ _ eq1
  refine ⟨(by show 1 ≤ sizeLine; decide), fun o ho => ?_⟩
  have t2 := Same.new (o := .lst [V.ref z1]) ho
  have eo := upd_same (H := G1) (a := o) (o := .lst [V.ref z1])
  generalize upd G1 o (.lst [V.ref z1]) = G2 at t2 eo ⊢
  have u := u.trans t2
  have hD := t2 _ _ hD
  have eq1 := t2 _ _ eq1
  have ez1 := t2 _ _ ez1
  refine ⟨q1, o, _, _, rfl, rfl, eq1, eo, Nat.le_of_lt (small _ (by simp; omega)), fun q3 hq3 => ?_⟩
  have t3 := Same.new (o := .lst ((as.take n).map V.ref ++ [V.ref z1])) hq3
  have eq3 := upd_same (H := G2) (a := q3) (o := .lst ((as.take n).map V.ref ++ [V.ref z1]))
  generalize upd G2 q3 (.lst ((as.take n).map V.ref ++ [V.ref z1])) = G3 at t3 eq3 ⊢
  have u := u.trans t3
  have hD := t3 _ _ hD
  have eq1 := t3 _ _ eq1
  have ez1 := t3 _ _ ez1
  have eo := t3 _ _ eo
  refine ⟨_, rfl, _, rfl, _, rfl, D, _, rfl, SqL.of hD, fun q4 hq4 => ?_⟩
  rw [cut_from, ← List.map_drop]
  have t4 := Same.new (o := .lst ((as.drop n).map V.ref)) hq4
  have eq4 := upd_same (H := G3) (a := q4) (o := .lst ((as.drop n).map V.ref))
  generalize upd G3 q4 (.lst ((as.drop n).map V.ref)) = G4 at t4 eq4 ⊢
  have u := u.trans t4
  have hD := t4 _ _ hD
  have eq1 := t4 _ _ eq1
  have ez1 := t4 _ _ ez1
  have eo := t4 _ _ eo
  have eq3 := t4 _ _ eq3
  refine ⟨q3, q4, _, _, rfl, rfl, eq3, eq4, Nat.le_of_lt (small _ (by simp; omega)), fun q5 hq5 => ?_⟩
  have t5 := Same.new (o := .lst ((as.take n).map V.ref ++ [V.ref z1] ++ (as.drop n).map V.ref)) hq5
  have eq5 := upd_same (H := G4) (a := q5) (o := .lst ((as.take n).map V.ref ++ [V.ref z1] ++ (as.drop n).map V.ref))
  generalize upd G4 q5 (.lst ((as.take n).map V.ref ++ [V.ref z1] ++ (as.drop n).map V.ref)) = G5 at t5 eq5 ⊢
  have u := u.trans t5
  have hD := t5 _ _ hD
  have eq1 := t5 _ _ eq1
  have ez1 := t5 _ _ ez1
  have eo := t5 _ _ eo
  have eq3 := t5 _ _ eq3
  have eq4 := t5 _ _ eq4
  exact fin q5 ((as.take n ++ [z1]) ++ as.drop n) ((ls.take n ++ [mR (7 + o1) (b (7 + o1))]) ++ ls.drop n) (bu.same u) (D5.same u) (by rw [eq5]; simp) (((((hls5.take n).same u).append (LS.one ez1))).append ((hls5.drop n).same u)) (by simp; omega) (fun l hl => (List.mem_append.mp hl).elim (fun h => (List.mem_append.mp h).elim (fun h => short l (List.mem_of_mem_take h)) (fun h => by rw [List.mem_singleton] at h; rw [h]; omega)) (fun h => short l (List.mem_of_mem_drop h)))
end
end Sx

set_option Elab.async false
set_option linter.all false
set_option maxRecDepth 100000
set_option maxHeartbeats 4000000
namespace Sx
open PySem PySem.Spec PyProof.Rows L2 SxA SxK PySem.W
theorem flat_ge {W : Nat} {M : List Int} {b : Nat → Bool} {l : List It2} (h : ItOk W M b l) : ∀ i, i ≤ l.length → i ≤ (flatI (l.take i)).length
  | 0, _ => Nat.zero_le _
  | i + 1, hi => by
    have e : l[i]? = some l[i] := List.getElem?_eq_getElem (by omega)
    have ih := flat_ge h i (by omega)
    obtain ⟨_, _, hp, _⟩ := h i l[i].1 l[i].2 e
    rw [List.take_add_one, e]
    show _ ≤ (flatI (l.take i ++ [(l[i].1, l[i].2)])).length
    rw [flatI_snoc, List.length_append, List.length_append]
    omega
theorem lay_tis : ∀ ls : List (List Int), PyData.canLayAll0 (ls.map pTI) = true
  | [] => by simp [PyData.canLayAll0]
  | x :: r => by
    have := lay_tis r
    simp [PyData.canLayAll0, PyData.canLay0, pTI, lay_ints, this]
theorem dep_tis : ∀ ls : List (List Int), PyData.depthAll (ls.map pTI) ≤ 10
  | [] => by simp [PyData.depthAll]
  | x :: r => by
    have := dep_tis r
    have h1 := dep_ints x
    simp [PyData.depthAll, PyData.depth, pTI]
    omega
theorem dp_tis {K : PySem.W.Frag} {H : Hp} : ∀ {bs : List Addr} {fl : List (List Int)}, bs.length = fl.length → (∀ (i : Nat) (a : Addr) (l : List Int), bs[i]? = some a → fl[i]? = some l → H a = some (.tup (l.map V.int))) → DpAll K H (bs.map V.ref) (fl.map pTI)
  | [], [], _, _ => .nil
  | [], _ :: _, h, _ => absurd h (by simp)
  | _ :: _, [], h, _ => absurd h (by simp)
  | a :: as, l :: ls, h, e => .cons (dp_ti (SqT.of (e 0 a l rfl rfl))) (dp_tis (by simpa using h) fun i a' l' q1 q2 => e (i + 1) a' l' q1 q2)
theorem eq_lines {K : PySem.W.Frag} {H : Hp} {p q : Addr} {bs : List Addr} {fl : List (List Int)} {Q : VK} (hp : H p = some (.lst (bs.map V.ref))) (hb : LS H bs fl) (hq : H q = some (.lst [])) (k : Q (.bl (decide (fl = []))) H) : rEqD K (.ref p) (.ref q) H Q := by
  refine ⟨.list (fl.map pTI), .list [], .lst (SqL.of hp) (dp_tis hb.1 hb.2), .lst (SqL.of hq) .nil, ?_, rfl, ?_⟩
  · have h1 := dep_tis fl
    unfold SeqAt.shaped
    simp [PyData.canLay0, PyData.depth, lay_tis]
    omega
  · cases fl with
    | nil => exact k
    | cons l r => exact k
def spLaw (K : PySem.W.Frag) : Sp := fun vs H Q _ => ∃ (a : Addr) (ns : List Int), vs = [.ref a] ∧ SqL K H a (ns.map V.int) ∧ ns.length ≤ 63 ∧ ∀ H', Q (.bl true) H'
/-- the cost of the first lines -/
def costP (W : Nat) (M : List Int) (b : Nat → Bool) (l : List It2) (i : Nat) : Nat := ((l.dropLast.take i).map (gapI W M b)).sum + ((l.take i).map jnI).sum
theorem costP_all (W : Nat) (M : List Int) (b : Nat → Bool) (l : List It2) : costP W M b l l.length = costI W M b l := by
  unfold costP costI
  rw [List.take_length, List.take_of_length_le (by rw [List.length_dropLast]; omega)]
def FirstBad (M : List Int) (b : Nat → Bool) (ls : List (List Int)) (k : Nat) : Prop := k < ls.length ∧ (∀ j, j < k → fitI M b j (ls.getD j []) ≠ []) ∧ fitI M b k (ls.getD k []) = []
theorem FirstBad.no {M : List Int} {b : Nat → Bool} {ls : List (List Int)} {k : Nat} (h : FirstBad M b ls k) : ¬ AllFit M b ls := fun a => a k h.1 h.2.2
theorem FirstBad.one {M : List Int} {b : Nat → Bool} {ls : List (List Int)} {k j : Nat} (h : FirstBad M b ls k) (g : FirstBad M b ls j) : k = j := by
  by_cases q : k < j
  · exact absurd h.2.2 (g.2.1 k q)
  · by_cases q2 : j < k
    · exact absurd g.2.2 (h.2.1 j q2)
    · omega
def DueP (M : List Int) (b : Nat → Bool) (ls : List (List Int)) (H : Hp) (dv : V) : Prop := (AllFit M b ls ∧ ∃ p, dv = .ref p ∧ H p = some (.lst ((flatG M b ls ls.length).map V.int))) ∨ ∃ k : Nat, FirstBad M b ls k ∧ dv = .int (k : Int)
def DueQ (M : List Int) (b : Nat → Bool) (ls : List (List Int)) (H : Hp) (dv : V) : Prop := (AllFit M b ls ∧ ∃ p, dv = .ref p ∧ H p = some (.lst ((flatG M b ls ls.length).map V.int))) ∨ ∃ (k : Nat) (T q : Addr), FirstBad M b ls k ∧ dv = .ref T ∧ H T = some (.tup [.ref q, .str (Str.ofString "line")]) ∧ H q = some (.tup [.int (k : Int)])
theorem DueP.same {M : List Int} {b : Nat → Bool} {ls : List (List Int)} {H H' : Hp} {dv : V} (h : DueP M b ls H dv) (s : Same H H') : DueP M b ls H' dv := by
  rcases h with ⟨h1, p, h2, h3⟩ | h
  · exact .inl ⟨h1, p, h2, s _ _ h3⟩
  · exact .inr h
section
variable {P : Program} {w : World} {K : PySem.W.Frag} {mg : Str → Option Value} {base : Heap}
abbrev nsLaw : List Str := ["script", "deck", "made", "shape", "row", "mark", "lines", "cost", "k", "turn", "due", "fine", "line"]
theorem scLaw : FnScope nsLaw ["script"] (defScope sLaw) := ⟨rfl, rfl, rfl, by decide +kernel, rfl, by decide +kernel, by decide +kernel⟩
theorem ok_law (t : T K mg) (er : ErrC P K mg xUnreadable) (kd : KDct K w (He.ga K "MOST_NUMBERS") "item" (.int 3)) {fd : FuncData} (F : FunD K "law" "law" (defArgs sLaw) (defBody sLaw) (defScope sLaw) [] [] (He.ga K "law") fd) : FnOk P w K mg base CX0 7 (He.ga K "law") fd ["script"] (spLaw K) := by
  refine mkFn F scLaw (fun vs H Q E h => ?_) fun cdv A outer s H vs Q E hr h => ?_
  · obtain ⟨a, ns, rfl, _⟩ := h; rfl
  obtain ⟨sc, zs0, rfl, hS, hlen, k⟩ := h
  have hr1 : Room 1 _ := hr.mono (by decide)
  have hr2 : Room 2 _ := hr.mono (by decide)
  have hr4 : Room 4 _ := hr.mono (by decide)
  have hr6 : Room 6 _ := hr.mono (by decide)
  refine ⟨_, pss_cons (ps_set (i := 1) scLaw.nd rfl (Or.inl rfl) (pe_ok (ok_law_deck t) hr1 rfl (pa_cons (pv 0) pa_nil)))
    (pss_cons (ps_set (i := 2) scLaw.nd rfl (Or.inr rfl) (pe_ok (ok_law_shape t) hr2 rfl (pa_cons (pv 1) pa_nil)))
    (pss_cons (ps_set (i := 3) scLaw.nd rfl (Or.inl rfl) (pe_ok (ok_law_shaped t kd) hr6 rfl (pa_cons (pv 2) pa_nil)))
    (pss_cons (ps_set (i := 4) scLaw.nd rfl (Or.inl rfl) (pe_ok (ok_law_row t) hr2 rfl (pa_cons (pv 1) (pa_cons pe_int pa_nil))))
    (pss_cons (ps_set (i := 5) scLaw.nd rfl (Or.inl rfl) (pe_callTy call_tuple_of rfl t.f_tuple (by decide +kernel) (pa_cons (pe_ix ix_list (pe_ix ix_list (pv 2) pe_int (fun _ _ => rfl)) (pe_ok (ok_law_draw t) hr1 rfl (pa_cons (pv 1) (pa_cons pe_int pa_nil))) (fun _ _ => rfl)) pa_nil)))
    (pss_cons (ps_set (i := 6) scLaw.nd rfl (Or.inl rfl) (pe_ok (ok_law_any_lines t) hr2 rfl (pa_cons (pv 1) (pa_cons (pv 2) (pa_cons (pv 5) (pa_cons (pv 4) pa_nil))))))
    (pss_cons (ps_set (i := 7) scLaw.nd rfl (Or.inl rfl) pe_int)
    (pss_cons (ps_for PassesOwn.never rfl (pi_range1 rfl t.f_range (pa_cons (pe_callB call_len_seq rfl t.f_len boot_len (pa_cons (pv 6) pa_nil)) pa_nil)) (pg_name (i := 8) scLaw.nd rfl (Or.inl rfl))
      (C8.pss_cut (ps_if (pt_cmpR op_lt (pv 8) (pe_op op_sub (pe_callB call_len_seq rfl t.f_len boot_len (pa_cons (pv 6) pa_nil)) pe_int) (nomark _))
      (pss_one (ps_set (i := 7) scLaw.nd rfl (Or.inl rfl) (pe_op op_add (pv 7) (pe_op op_pow (pe_op op_sub (pe_ix ix_list (pv 2) pe_int (fun _ _ => rfl)) (pe_callB call_len_seq rfl t.f_len boot_len (pa_cons (pe_ix ix_list (pv 6) (pv 8) (fun _ _ => rfl)) pa_nil))) pe_int))))
      pss_nil)
    (pss_one (ps_set (i := 7) scLaw.nd rfl (Or.inl rfl) (pe_op op_add (pv 7) (pe_op op_mul pe_int (pe_callTy call_int1 rfl t.f_int (by decide +kernel) (pa_cons (pe_and (pe_cmpR op_gt (pv 8) pe_int (nomark _)) (pe_one (pe_cmpR (op_eqD (hu64 hr)) (pe_callTy call_list_of rfl t.f_list (by decide +kernel) (pa_cons (pe_slice sl_tupA (pe_ix ix_list (pv 6) (pv 8) (fun _ _ => rfl)) po_none (po_some (pe_callB call_len_seq rfl t.f_len boot_len (pa_cons (pe_ix ix_list (pe_ix ix_list (pv 2) pe_int (fun _ _ => rfl)) pe_int (fun _ _ => rfl)) pa_nil)))) pa_nil)) (pe_ix ix_list (pe_ix ix_list (pv 2) pe_int (fun _ _ => rfl)) pe_int (fun _ _ => rfl)) (nomark _)))) pa_nil))))))))
    (pss_cons (ps_if (pt_not (pt_val (pe_ok (ok_law_same t 3) hr4 rfl (pa_cons (pe_ok (ok_cost_of t) hr1 rfl (pa_cons (pv 3) (pa_cons (pv 6) pa_nil))) (pa_cons (pv 7) pa_nil)))))
      (pss_one (ps_ret pe_bl))
      pss_nil)
    (pss_cons (ps_for PassesOwn.never rfl (pi_range1 rfl t.f_range (pa_cons pe_int pa_nil)) (pg_name (i := 9) scLaw.nd rfl (Or.inl rfl))
      (C8.pss_cut (ps_set (i := 10) scLaw.nd rfl (Or.inl rfl) (pe_ok (ok_law_unbroken t) hr2 rfl (pa_cons (pv 2) (pa_cons (pv 5) (pa_cons (pv 6) pa_nil)))))
    (C8.pss_cut (ps_set (i := 11) scLaw.nd rfl (Or.inl rfl) (pe_and (pe_cmpR (op_eqD (hu64 hr)) (pv 10) (pv 4) (nomark _)) (pe_one (pe_cmpR (op_eqD (hu64 hr)) (pe_lc (own := [("line", 12)]) (g := gName 12) rfl scLaw.nd (pi_list (pv 6)) (blkOk_by (own := [("line", 12)]) (N := nsLaw) (sc := defScope sLaw) (by decide +kernel)) (fun _ _ _ _ _ => pg_name (i := 12) scLaw.nd rfl (Or.inl rfl)) (fun _ _ _ _ _ => pts_one (pt_cmpR op_gt (pe_callB (call_lenK (K := K) rfl) rfl t.f_len boot_len (pa_cons (pv 12) pa_nil)) (pe_ix (ix_listK (K := K) rfl) (pv 2) pe_int (fun _ _ => rfl)) (nomark _))) (fun _ _ _ _ _ => (pv 12))) (pe_lst pa_nil) (nomark _)))))
    (C8.pss_cut (ps_if (pt_not (pt_val (pe_callB call_isi rfl t.f_isinstance (by decide +kernel) (pa_cons (pv 10) (pa_cons (pe_bltn (v := .ty "list") rfl t.f_list (by decide +kernel) rfl) pa_nil)))))
      (pss_one (ps_set (i := 10) scLaw.nd rfl (Or.inl rfl) (pe_tup (pa_cons (pe_tup (pa_cons (pv 10) pa_nil)) (pa_cons pe_str pa_nil)))))
      pss_nil)
    (C8.pss_cut (ps_if (pt_not (pt_val (pe_ok (ok_law_same t 3) hr4 rfl (pa_cons (pe_ok (ok_law_told t er) hr6 rfl (pa_cons (pv 3) (pa_cons (pe_callTy call_list_of rfl t.f_list (by decide +kernel) (pa_cons (pv 6) pa_nil)) (pa_cons (pv 5) pa_nil)))) (pa_cons (pv 10) pa_nil)))))
      (pss_one (ps_ret pe_bl))
      pss_nil)
    (pss_cons (ps_if (pt_not (pt_val (pe_ok (ok_law_same t 3) hr4 rfl (pa_cons (pe_ok (ok_is_broken t er) hr6 rfl (pa_cons (pv 3) (pa_cons (pv 5) (pa_cons (pv 4) (pa_cons (pe_callTy call_list_of rfl t.f_list (by decide +kernel) (pa_cons (pv 6) pa_nil)) pa_nil))))) (pa_cons (pv 11) pa_nil)))))
      (pss_one (ps_ret pe_bl))
      pss_nil)
    (pss_one (ps_set (i := 6) scLaw.nd rfl (Or.inl rfl) (pe_ok (ok_law_bent t) hr2 rfl (pa_cons (pv 1) (pa_cons (pv 2) (pa_cons (pv 6) pa_nil))))))))))))
    (pss_one (ps_ret pe_bl))))))))))), ?_⟩
  refine ⟨_, rfl, sc, zs0, rfl, hS, fun d l H1 hd0 s1 D1 => ?_⟩
  refine ⟨_, rfl, d, l, rfl, D1, fun m R wd bb ps H2 hm0 hwd hm hR b8 D2 B2 => ?_⟩
  have nmd : m ≠ d := fun e => D1.ne hm0 e.symm
  refine ⟨_, rfl, m, R, wd, bb, ps, rfl, hwd, hm, hR, b8, fun x dx mm dm z dp H3 hSh s3 => ?_⟩
  have D3 := D2.same s3
  refine ⟨_, rfl, d, l, 24, rfl, D3, by decide, by decide, fun ra zs H4 hra0 hrow z0 z40 zr D4 B4 => ?_⟩
  have hm4 := B4 _ _ (s3 _ _ hm) nmd
  have hR4 := (hR.same s3).but B4 D3 ((hR.same s3).ned D3)
  have hSh4 := hSh.but B4 D3
  refine ⟨_, rfl, m, _, _, .ref R, rfl, rfl, SqL.of hm4, atI_nat (j := 1) rfl, _, rfl, d, l, 2, rfl, D4, by decide, by decide, fun u H5 u0 u1 D5 B5 => ?_⟩
  obtain ⟨o, rfl⟩ : ∃ o : Nat, u = (o : Int) := ⟨u.toNat, by omega⟩
  have hR5 := hR4.but B5 D4 (hR4.ned D4)
  obtain ⟨pu, eu⟩ : ∃ q, ps[o]? = some q := ⟨_, List.getElem?_eq_getElem (by rw [hR5.len]; omega)⟩
  refine ⟨R, _, _, .ref pu, rfl, rfl, SqL.of hR5.at_, atI_nat (by rw [List.getElem?_map, eu]; rfl), pu, _, rfl, .inl ⟨SqL.of (hR5.el o pu eu), fun ma hma => ?_⟩⟩
  have s6 : Same H5 (upd H5 ma (.tup ((mR o (bb o)).map V.int))) := Same.new hma
  have hma6 := upd_same (H := H5) (a := ma) (o := .tup ((mR o (bb o)).map V.int))
  have ML : 0 < (mR o (bb o)).length ∧ (mR o (bb o)).length ≤ 2 := by rw [mR_len]; split <;> decide
  have hM : 0 < (mR o (bb o)).length ∧ (mR o (bb o)).head? ≠ some 48 := by
    refine ⟨ML.1, ?_⟩
    rw [mR_head]
    intro e
    have := Option.some.inj e
    omega
  generalize mR o (bb o) = M at s6 hma6 ML hM
  generalize upd H5 ma (.tup (M.map V.int)) = H6 at s6 hma6
  have ew : (8 + (wd : Int)) = ((8 + wd : Nat) : Int) := by omega
  rw [ew] at hSh4 hm4
  have S6 : Made K H6 d l m R x ma ra (8 + wd) M zs z bb ps := ⟨⟨⟨dx, 4, 10, mm, dm, dp, (hSh4.but B5 D4).same s6⟩, hma6, s6 _ _ (B5 _ _ hrow (D4.neI hrow)), b8, ⟨by omega, by omega, by omega, ML.1⟩, by omega⟩, s6 _ _ (B5 _ _ hm4 nmd), hR5.same s6, D5.same s6, nmd⟩
  obtain ⟨W, hW⟩ : ∃ W, W = 8 + wd := ⟨_, rfl⟩
  have W11 : W ≤ 11 := by omega
  rw [← hW] at S6
  refine ⟨_, rfl, _, rfl, _, rfl, _, rfl, d, l, m, R, x, ma, ra, W, M, zs, z, bb, ps, rfl, S6, z0, fun D as il H7 hD0 hLn hok hfl npos l100 D7 B7 => ?_⟩
  have S7 := S6.but B7 D7
  have il24 : il.length ≤ 24 := by
    have := flat_ge hok il.length (Nat.le_refl _)
    rw [List.take_length, hfl] at this
    omega
  have al : as.length = il.length := by rw [hLn.len, List.length_map]
  have mal : (as.map V.ref).length = il.length := by rw [List.length_map, al]
  have line_le : ∀ it, it ∈ il → (lineI M bb it).length ≤ W := fun it hit => by
    obtain ⟨j, hj⟩ := List.getElem?_of_mem hit
    obtain ⟨kk, p⟩ := it
    obtain ⟨_, _, _, q⟩ := hok j kk p hj
    unfold lineI
    rw [List.length_append]
    exact q
  refine ⟨_, rfl, D, _, rfl, .inl (SqL.of hLn.at_), _, rfl, by rw [mal]; omega, by rw [mal]; omega, ?_⟩
  rw [mal, Int.toNat_natCast]
  refine for_range (lo := 0) (n := il.length) (fun i σ' H' => (∃ o8 : Option V, σ' = [some (.ref sc), some (.ref d), some (.ref m), some (.ref x), some (.ref ra), some (.ref ma), some (.ref D), some (.int ((costP W M bb il i : Nat) : Int)), o8, none, none, none, none]) ∧ Same H7 H') ⟨⟨_, rfl⟩, Same.refl _⟩ ?_ ?_
  · rintro i σ' H8 hi ⟨⟨o8, rfl⟩, s8⟩
    rw [show (0 : Int) + (i : Int) = (i : Int) by omega]
    obtain ⟨it, hit⟩ : ∃ it, il[i]? = some it := ⟨_, List.getElem?_eq_getElem hi⟩
    obtain ⟨a, ea⟩ : ∃ a, as[i]? = some a := ⟨_, List.getElem?_eq_getElem (by omega)⟩
    have ha := (hLn.same s8).el i a (lineI M bb it) ea (by rw [List.getElem?_map, hit]; rfl)
    have hD8 := s8 _ _ hLn.at_
    have lw := line_le it (List.mem_of_getElem? hit)
    have gA : atI (as.map V.ref) (i : Int) = some (.ref a) := atI_nat (by rw [List.getElem?_map, ea]; rfl)
    have S8 := S7.same s8
    refine ⟨fun σ2 H9 => σ2 = [some (.ref sc), some (.ref d), some (.ref m), some (.ref x), some (.ref ra), some (.ref ma), some (.ref D), some (.int ((((il.dropLast.take (i + 1)).map (gapI W M bb)).sum + ((il.take i).map jnI).sum : Nat) : Int)), some (nv i), none, none, none, none] ∧ H8 = H9, ?_, ?_⟩
    · refine ⟨_, rfl, _, rfl, D, _, rfl, .inl (SqL.of hD8), _, _, rfl, rfl, _, _, rfl, rfl, _, rfl, ite2 (fun h1 => ?_) (fun h1 => ?_)⟩
      · have lt : i < il.length - 1 := by
          have := of_decide_eq_true h1
          rw [mal] at this
          omega
        refine ⟨_, rfl, _, rfl, m, _, _, .int (W : Int), rfl, rfl, SqL.of S8.mk_, atI_nat (j := 0) rfl, _, rfl, _, rfl, D, _, _, .ref a, rfl, rfl, SqL.of hD8, gA, a, _, rfl, .inr (SqT.of ha), _, _, rfl, rfl, _, _, rfl, rfl, ⟨by decide, by decide, by rw [List.length_map]; omega⟩, _, _, rfl, rfl, ?_⟩
        refine ⟨?_, rfl⟩
        have ed : il.dropLast[i]? = some it := by rw [List.dropLast_eq_take, List.getElem?_take, if_pos lt]; exact hit
        have e1 : il.dropLast.take (i + 1) = il.dropLast.take i ++ [it] := by rw [List.take_add_one, ed]; rfl
        have e2 : ((W : Int) - ((((lineI M bb it).map V.int).length : Nat) : Int)) ^ (2 : Int).toNat = ((gapI W M bb it : Nat) : Int) := by
          unfold gapI
          rw [List.length_map, Int.natCast_pow, Int.natCast_sub lw]
          rfl
        have e3 : ((costP W M bb il i : Nat) : Int) + ((W : Int) - ((((lineI M bb it).map V.int).length : Nat) : Int)) ^ (2 : Int).toNat = ((((il.dropLast.take (i + 1)).map (gapI W M bb)).sum + ((il.take i).map jnI).sum : Nat) : Int) := by
          rw [e2, e1, List.map_append, List.sum_append, List.map_singleton, List.sum_singleton]
          unfold costP
          omega
        rw [← e3]
        rfl
      · have lt : ¬ i < il.length - 1 := fun q => h1 (decide_eq_true (by rw [mal]; omega))
        refine ⟨?_, rfl⟩
        have e1 : il.dropLast.take (i + 1) = il.dropLast.take i := by
          rw [List.take_of_length_le (by rw [List.length_dropLast]; omega), List.take_of_length_le (by rw [List.length_dropLast]; omega)]
        rw [e1]
        rfl
    rintro σ2 H9 ⟨rfl, rfl⟩
    obtain ⟨p8, e8⟩ : ∃ q, ps[8]? = some q := ⟨_, List.getElem?_eq_getElem (by rw [S8.rows.len]; decide)⟩
    have hp8 := S8.rows.el 8 p8 e8
    have g8 : atI (ps.map V.ref) 8 = some (.ref p8) := atI_nat (j := 8) (by rw [List.getElem?_map, e8]; rfl)
    have k2 := (hok i it.1 it.2 hit).2.1
    have kz := (hok i it.1 it.2 hit).1
    have ej : ((il.take (i + 1)).map jnI).sum = ((il.take i).map jnI).sum + jnI it := by
      rw [List.take_add_one, hit]
      simp
    have fin : ∀ (bv : Bool), bv = decide (it.1 = 2) → (((il.dropLast.take (i + 1)).map (gapI W M bb)).sum + ((il.take i).map jnI).sum : Nat) + 50 * (if bv = true then (1 : Int) else 0) = ((costP W M bb il (i + 1) : Nat) : Int) := fun bv e => by
      unfold costP
      rw [ej, e]
      unfold jnI
      by_cases q : it.1 = 2
      · rw [if_pos (decide_eq_true q), if_pos q]; omega
      · rw [if_neg (by rw [decide_eq_false q]; decide), if_neg q]; omega
    refine ⟨_, rfl, _, rfl, _, _, rfl, rfl, _, rfl, ite2 (fun h1 => ?_) (fun h1 => ?_)⟩
    · refine ⟨_, rfl, _, rfl, D, _, _, .ref a, rfl, rfl, SqL.of hD8, gA, _, rfl, m, _, _, .ref R, rfl, rfl, SqL.of S8.mk_, atI_nat (j := 1) rfl, R, _, _, .ref p8, rfl, rfl, SqL.of S8.rows.at_, g8, p8, _, rfl, .inl (SqL.of hp8), _, rfl, ?_⟩
      rw [List.length_map]
      refine slT ha fun r H10 s10 hr10 => ?_
      have S10 := S8.same s10
      refine ⟨r, _, rfl, .inr (SqT.of hr10), fun e he => ?_⟩
      have s11 := s10.trans (Same.new (o := .lst (((lineI M bb it).take (mR 8 (bb 8)).length).map V.int)) he)
      have S11 := S8.same s11
      refine ⟨_, rfl, m, _, _, .ref R, rfl, rfl, SqL.of S11.mk_, atI_nat (j := 1) rfl, R, _, _, .ref p8, rfl, rfl, SqL.of S11.rows.at_, g8, ?_⟩
      refine eqL upd_same (s11 _ _ hp8) ?_
      rw [begins8 (W := W) b8 hM k2]
      refine .inr ⟨_, rfl, _, _, rfl, rfl, ?_, _, _, rfl, rfl, ⟨some (nv i), ?_⟩, s8.trans s11⟩
      · unfold CMul
        split <;> decide
      · have q := fin (decide (it.1 = 2)) rfl
        show _ = [some (.ref sc), some (.ref d), some (.ref m), some (.ref x), some (.ref ra), some (.ref ma), some (.ref D), some (.int ((costP W M bb il (i + 1) : Nat) : Int)), some (nv i), none, none, none, none]
        rw [← q]
        rfl
    · have i0 : i = 0 := by
        by_cases z : i = 0
        · exact z
        · exact absurd (decide_eq_true (by omega)) h1
      have b0 : false = decide (it.1 = 2) := by
        rw [decide_eq_false (by have := kz.mpr i0; omega)]
      refine .inr ⟨_, rfl, _, _, rfl, rfl, ?_, _, _, rfl, rfl, ⟨some (nv i), ?_⟩, s8⟩
      · unfold CMul
        split <;> decide
      · have q := fin false b0
        show _ = [some (.ref sc), some (.ref d), some (.ref m), some (.ref x), some (.ref ra), some (.ref ma), some (.ref D), some (.int ((costP W M bb il (i + 1) : Nat) : Int)), some (nv i), none, none, none, none]
        rw [← q]
        rfl
  rintro σ2 H8 ⟨⟨o8, rfl⟩, s8⟩
  rw [costP_all]
  have S8 := S7.same s8
  have hLn8 := hLn.same s8
  refine ⟨_, rfl, _, rfl, x, ma, ra, D, W, M, zs, z, bb, as, il, rfl, S8.ln, hLn8, hok, by omega, hM, fun H9 s9 => ?_⟩
  refine ⟨_, rfl, _, _, rfl, .inl ⟨rfl, rfl⟩, _, rfl, iteF ?_⟩
  have S9 := S8.same s9
  have hLn9 := hLn8.same s9
  have L0 : ∀ ln, ln ∈ il.map (lineI M bb) → ln.length ≤ W := fun ln hl => by
    obtain ⟨it, hit, rfl⟩ := List.mem_map.mp hl
    exact line_le it hit
  have N0 : (il.map (lineI M bb)).length ≤ 24 := by rw [List.length_map]; exact il24
  generalize il.map (lineI M bb) = ls0 at hLn9 L0 N0
  generalize ((costI W M bb il : Nat) : Int) = cst
  refine ⟨4, rfl, by decide, by decide, ?_⟩
  refine for_range (lo := 0) (n := 4) (fun i σ' H' => (∃ (D : Addr) (as : List Addr) (ls : List (List Int)) (o8 o9 o10 o11 : Option V), σ' = [some (.ref sc), some (.ref d), some (.ref m), some (.ref x), some (.ref ra), some (.ref ma), some (.ref D), some (.int cst), o8, o9, o10, o11, none] ∧ LinesAt H' D as ls ∧ ls.length ≤ 24 + i ∧ ∀ l, l ∈ ls → l.length ≤ W + 2 * i) ∧ Made K H' d l m R x ma ra W M zs z bb ps) ⟨⟨D, as, ls0, _, _, _, _, rfl, hLn9, N0, L0⟩, S9⟩ ?_ (fun σ' H' _ => k H')
  rintro i σ' H10 hi ⟨⟨D, as, ls, o8, o9, o10, o11, rfl, hL, lN, lL⟩, S⟩
  have hsh : ShortL ls := ⟨by omega, fun l hl => Nat.le_trans (lL l hl) (by omega)⟩
  refine ⟨fun σ2 H2 => ∃ dv, σ2 = [some (.ref sc), some (.ref d), some (.ref m), some (.ref x), some (.ref ra), some (.ref ma), some (.ref D), some (.int cst), o8, some (.int (0 + (i : Int))), some dv, o11, none] ∧ Same H10 H2 ∧ DueP M bb ls H2 dv, ?_, ?_⟩
  · exact ⟨_, rfl, _, rfl, _, rfl, m, R, ma, D, W, M, bb, ps, as, ls, rfl, S.mk_, S.rows, S.ln.mka, hL, hsh, b8, fun good p H2 s2 hp => ⟨_, rfl, s2, .inl ⟨good, p, rfl, hp⟩⟩, fun k hk good bad H2 s2 => ⟨_, rfl, s2, .inr ⟨k, ⟨hk, good, bad⟩, rfl⟩⟩⟩
  rintro σ2 H11 ⟨dv, rfl, s11, hdv⟩
  have S11 := S.same s11
  have hL11 := hL.same s11
  refine ⟨fun σ2 H2 => ∃ v : Bool, σ2 = [some (.ref sc), some (.ref d), some (.ref m), some (.ref x), some (.ref ra), some (.ref ma), some (.ref D), some (.int cst), o8, some (.int (0 + (i : Int))), some dv, some (.bl v), none] ∧ Same H11 H2 ∧ (v = true ↔ BrkP W M bb zs ls), ?_, ?_⟩
  · rcases hdv with ⟨good, p, rfl, hp⟩ | ⟨kk, fb, rfl⟩
    · refine ⟨_, rfl, _, rfl, eqL hp S11.ln.row ⟨_, rfl, ite2 (fun h1 => ?_) (fun h1 => ?_)⟩⟩
      · refine ⟨_, rfl, D, rfl, ⟨_, SqL.of hL11.at_⟩, fun C hC => ?_⟩
        refine lc_list (K := K) (a := D) (xs := as.map V.ref) (g := gName 12) (fun j H' => (∃ bs : List Addr, H' C = some (.lst (bs.map V.ref)) ∧ LS H11 bs ((ls.take j).filter fun l => decide (W < l.length))) ∧ Same H11 H') ⟨⟨[], upd_same, rfl, fun i a l e _ => by simp at e⟩, Same.new hC⟩ (fun j H' _ q => SqL.of (q.2 _ _ hL11.at_)) ?_ ?_
        · rintro j v H8 hv ⟨⟨bs, hc, hbs⟩, s8⟩
          obtain ⟨a, ln, ea, el, rfl, ha⟩ := (hL11.same s8).get hv
          have ha11 := hL11.el j a ln ea el
          have jl := (List.getElem?_eq_some_iff.mp el).1
          have tk : ls.take (j + 1) = ls.take j ++ [ln] := by rw [List.take_add_one, el]; rfl
          have S8 := S11.same s8
          have bl : bs.length ≤ 100 := by
            have := List.length_filter_le (fun l : List Int => decide (W < l.length)) (ls.take j)
            rw [List.length_take] at this
            rw [hbs.1]
            omega
          refine ⟨rfl, _, rfl, a, _, rfl, .inr (SqT.of ha), _, rfl, m, _, _, .int (W : Int), rfl, rfl, SqL.of S8.mk_, atI_nat (j := 0) rfl, _, _, rfl, rfl, _, rfl, ite2 (fun h2 => ?_) (fun h2 => ?_)⟩
          · have lt : W < ln.length := by
              have := of_decide_eq_true h2
              rw [List.length_map] at this
              omega
            refine ⟨_, rfl, _, hc, by rw [List.length_map]; exact small1 (by omega), ⟨bs ++ [a], by rw [upd_same, List.map_append]; rfl, ?_⟩, Same.put s8 hC⟩
            rw [tk, List.filter_append, List.filter_cons, if_pos (decide_eq_true lt)]
            exact hbs.append (LS.one ha11)
          · have lt : ¬ W < ln.length := fun q => h2 (decide_eq_true (by rw [List.length_map]; omega))
            refine ⟨⟨bs, hc, ?_⟩, s8⟩
            rw [tk, List.filter_append, List.filter_cons, if_neg (by rw [decide_eq_false lt]; decide), List.filter_nil, List.append_nil]
            exact hbs
        rintro H8 ⟨⟨bs, hc, hbs⟩, s8⟩
        rw [List.length_map, hL11.len, List.take_length] at hbs
        refine ⟨(by show 0 ≤ sizeLine; decide), fun e he => eq_lines ((Same.new he) _ _ hc) (hbs.same (s8.trans (Same.new he))) upd_same ?_⟩
        refine ⟨_, rfl, s8.trans (Same.new he), ?_⟩
        rw [decide_eq_true_iff, List.filter_eq_nil_iff]
        constructor
        · intro q
          refine ⟨fun l hl => ?_, good, of_decide_eq_true h1⟩
          have := q l hl
          by_cases z : l.length ≤ W
          · exact z
          · exact absurd (decide_eq_true (by omega)) this
        · intro q l hl h3
          have := of_decide_eq_true h3
          have := q.1 l hl
          omega
      · exact ⟨_, rfl, Same.refl _, (fun h => absurd h (by decide)), fun h => absurd (decide_eq_true h.2.2) h1⟩
    · exact ⟨_, rfl, _, rfl, ⟨.int (kk : Int), pInts zs, .int _, dp_ints (SqL.of S11.ln.row), rfl, shaped_ints _, false, rfl, iteF ⟨_, rfl, Same.refl _, (fun h => absurd h (by decide)), fun h => absurd h.2.1 fb.no⟩⟩⟩
  rintro σ2 H12 ⟨v, rfl, s12, hv⟩
  have S12 := S11.same s12
  have hL12 := hL11.same s12
  have hdv12 := hdv.same s12
  refine ⟨fun σ2 H2 => ∃ dv, σ2 = [some (.ref sc), some (.ref d), some (.ref m), some (.ref x), some (.ref ra), some (.ref ma), some (.ref D), some (.int cst), o8, some (.int (0 + (i : Int))), some dv, some (.bl v), none] ∧ Same H12 H2 ∧ DueQ M bb ls H2 dv, ?_, ?_⟩
  · rcases hdv12 with ⟨good, p, rfl, hp⟩ | ⟨kk, fb, rfl⟩
    · exact ⟨_, rfl, _, _, _, _, true, rfl, .ty _, .base (.lst hp), kit_ty (by decide +kernel), _, rfl, iteF ⟨_, rfl, Same.refl _, .inl ⟨good, p, rfl, hp⟩⟩⟩
    · refine ⟨_, rfl, _, _, _, _, false, rfl, .ty _, .base (.int _), kit_ty (by decide +kernel), _, rfl, iteT ⟨_, rfl, (by show 1 ≤ sizeLine; decide), fun q hq => ⟨(by show 2 ≤ sizeLine; decide), fun T hT => ?_⟩⟩⟩
      exact ⟨_, rfl, (Same.new hq).trans (Same.new hT), .inr ⟨kk, T, q, fb, rfl, upd_same, (Same.new hT) _ _ upd_same⟩⟩
  rintro σ2 H13 ⟨dw, rfl, s13, hdw⟩
  have S13 := S12.same s13
  have hL13 := hL12.same s13
  refine ⟨fun σ2 H2 => σ2 = [some (.ref sc), some (.ref d), some (.ref m), some (.ref x), some (.ref ra), some (.ref ma), some (.ref D), some (.int cst), o8, some (.int (0 + (i : Int))), some dw, some (.bl v), none] ∧ Same H13 H2, ?_, ?_⟩
  · refine ⟨_, rfl, _, rfl, D, _, rfl, .inl (SqL.of hL13.at_), fun D2 hD2 => ?_⟩
    have sD := Same.new (o := .lst (as.map V.ref)) hD2
    have hL14 : LinesAt (upd H13 D2 (.lst (as.map V.ref))) D2 as ls := ⟨upd_same, (hL13.same sD).len, (hL13.same sD).el⟩
    refine ⟨_, rfl, x, ma, ra, D2, W, M, zs, z, bb, as, ls, rfl, (S13.same sD).ln, hL14, hsh, fun good R2 H5 s5 h5 => ?_, fun kk hk good bad T q H5 s5 hT hq => ?_⟩
    · rcases hdw with ⟨_, p, rfl, hp⟩ | ⟨kk, T, q, fb, _⟩
      · have fl := flatG_len (M := M) (b := bb) hsh ls.length
        exact ⟨_, rfl, _, _, rfl, eqd_ints h5 (s5 _ _ (sD _ _ hp)) (by have := hsh.1; omega), _, rfl, iteF ⟨rfl, sD.trans s5⟩⟩
      · exact absurd good fb.no
    · rcases hdw with ⟨g2, _⟩ | ⟨k2, T2, q2, fb, rfl, hT2, hq2⟩
      · exact absurd g2 (FirstBad.no ⟨hk, good, bad⟩)
      · have ek := fb.one ⟨hk, good, bad⟩
        rw [ek] at hq2
        exact ⟨_, rfl, _, _, rfl, eqd_err hT (s5 _ _ (sD _ _ hT2)) hq (s5 _ _ (sD _ _ hq2)), _, rfl, iteF ⟨rfl, sD.trans s5⟩⟩
  rintro σ2 H14 ⟨rfl, s14⟩
  have S14 := S13.same s14
  have hL14 := hL13.same s14
  refine ⟨_, rfl, _, rfl, _, rfl, _, rfl, D, _, rfl, .inl (SqL.of hL14.at_), fun D2 hD2 => ?_⟩
  have sD := Same.new (o := .lst (as.map V.ref)) hD2
  have hL15 : LinesAt (upd H14 D2 (.lst (as.map V.ref))) D2 as ls := ⟨upd_same, (hL14.same sD).len, (hL14.same sD).el⟩
  refine ⟨x, ma, ra, D2, W, M, zs, z, bb, as, ls, rfl, (S14.same sD).ln, hL15, hsh, fun v2 H5 hv2 s5 => ?_⟩
  have ev : v2 = v := by
    rw [Bool.eq_iff_iff, hv2, hv]
  refine ⟨_, rfl, _, _, rfl, .inl ⟨congrArg V.bl ev, rfl⟩, _, rfl, iteF ?_⟩
  have S16 := (S14.same sD).same s5
  have hL16 := (hL14.same sD).same s5
  refine ⟨_, rfl, _, rfl, _, rfl, d, l, m, R, x, ma, ra, W, M, zs, z, bb, ps, D, as, ls, W + 2 * i, rfl, S16, hL16, by omega, lL, by omega, fun D' as' ls' H' g1 g2 g3 g4 g5 => ?_⟩
  exact ⟨⟨D', as', ls', _, _, _, _, rfl, g1, by omega, fun l hl => by have := g3 l hl; omega⟩, S16.but g5 g4⟩
end
end Sx

set_option Elab.async false
set_option linter.all false
set_option maxRecDepth 100000
set_option maxHeartbeats 0
namespace Sx
open PySem PySem.Spec PyProof.Rows L2 SxK
theorem facts {P : Program} (hfile : P.main.file = xUnreadable.file) (htop : (P.main.scope.names.lookup ("super" : Str)).isSome = false) {w : World} {K : PySem.W.Frag} {h : Heap} {mg : Str → Option Value} {f : Addr} (X : K.In h) (G : h.Ns mainGlobals mg) (hfa : mg ("law" : Str) = some (.ref f)) (c : SxK.SaysXT fa fn xs ts w K) :
    ∃ fd : FuncData, (∀ (s : Shared) (v : Value), BindsTo s fd ⟨[v], []⟩ [("script", v)]) ∧ ∀ base : Heap, K.In base → base.Ns mainGlobals mg → FnOk P w K mg base CX0 7 f fd ["script"] (spLaw K) := by
  have t : T K mg := ⟨c.x, h, X, G⟩
  have kd : KDct K w (He.ga K "MOST_NUMBERS") "item" (.int 3) := c.tab 0 (t := ("MOST_NUMBERS", [("item", .int 3), ("note", .int 99)])) rfl (d := .int 3) List.mem_cons_self
  obtain ⟨fd, F⟩ := t.d_law
  have e := hfa.symm.trans t.g_law
  cases e
  have b := FunD.bindsA (ps := ["script"]) F fun _ _ _ _ _ _ us hl => match us, hl with | [_], _ => rfl
  exact ⟨fd, fun s v => b s [v] rfl, fun base _ _ => ok_law t (t.e_Unreadable hfile htop) kd F⟩
end Sx
open PySem PySem.W PySem.Calls PyProof.Rows
set_option maxRecDepth 100000 in
set_option maxHeartbeats 0 in
theorem PySem.Challenge.cw_sixdot_k25_lines_put_together_holds : PySem.Challenge.rw_sixdot_k25_lines_put_together.Holds := by
  w_on; o_law
  refine HandSHeadRun.head_any (r := OpenLaw.row PySem.Challenge.rw_sixdot_k25_lines_put_together) (q := view (OpenLaw.row PySem.Challenge.rw_sixdot_k25_lines_put_together).prog [44]) (H := Sx.hk) (ob := Sx.ob) (M := 4000) (loose := Sx.loose) (d := HandSHeadRun.topDef (OpenLaw.row PySem.Challenge.rw_sixdot_k25_lines_put_together).prog 44) (kwd := []) Sx.ob_eq
    (by kernel_rfl) (fun s => by kernel_rfl) Sx.run (by kernel_rfl) (by kernel_rfl) (by kernel_rfl) (by rfl) (by first | assumption | decide +kernel) (by decide +kernel) ⟨rfl, rfl, rfl, rfl, rfl, by decide +kernel⟩ ?hw ?hc
  case hw => w_witness2
  case hc =>
    refine L2.walk_ofE (l := PySem.Challenge.rw_sixdot_k25_lines_put_together) (n := 63) (k := 7) (x := "script") (CX := L2.CX0) rfl (by decide) (by kernel_rfl) ⟨rfl, by decide, by decide⟩ ?F (fun _ _ _ _ z => z)
    intro w mg fa h Y G hmg0
    obtain ⟨K, KX, c⟩ := Y
    have hmg : mg ("law" : PySem.Str) = some (.ref fa) := by
      have e : (HandSHeadRun.topDef (OpenLaw.row PySem.Challenge.rw_sixdot_k25_lines_put_together).prog 44).name = ("law" : PySem.Str) := by kernel_rfl
      rw [← e]
      exact hmg0
    obtain ⟨fd, hb, hF⟩ := Sx.facts (P := (PySem.Challenge.rw_sixdot_k25_lines_put_together).prog) (w := w) (by kernel_rfl) (by kernel_rfl) KX G hmg c
    exact ⟨K, fd, Sx.spLaw K, KX, hb, fun H a ns hl _ hS => ⟨a, ns, rfl, hS, hl, fun _ => rfl⟩, hF⟩
