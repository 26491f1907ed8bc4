import PyProof.Rows.All
import HandS.ForSpec
import HandS.Dict
import HandS.DictTup
import HandS.Defaults
import HandS.HeadHook2
import HandS.HeadHook4
import Wide.All
import OpenK.AllK
import Wide.FinOn
import KE.KStateDown
import KE.OsHead
import KE.OsGo
import Wide.Once
import Lean
import HandS.TupLen
import HandS.More
import HandS.Evl
import HandS.Conv
import HandS.Comp
import HandS.Lambda
import HandS.Style
import HandS.SortOrd
import HandS.Head0
import HandS.Head1
import HandS.Head2
import HandS.Head3
import HandS.Head4
import HandS.HeadHook1
import HandS.HeadHook3
import HandS.SortKw
import KE.KSortKeySt
import HandS.Text
import KE.BitLaws
import KE.KEqSeq
import HandS.WordsDict
import HandS.EndTab
import HandS.ExcValue
import PySem.Challenge.RW_linkpieces_s01_answers
set_option Elab.async false
set_option linter.all false
set_option maxRecDepth 100000
set_option maxHeartbeats 400000000
namespace Lp
open PySem PySem.W PySem.Calls PyProof.Rows PyProof.V PySem.Spec L2
/-! ### a dict of the top with int keys, read -/
def entB (K : PySem.W.Frag) : List DictEntry → List (Int × He.Dv) → Bool
  | [], [] => true
  | e :: r, p :: q => (match e.key with
    | .int i _ => decide (i = p.1) && (decide (e.hash = hashInt p.1) && He.relB (p.2.v K) e.val)
    | _ => false) && entB K r q
  | _, _ => false
def tabB (K : PySem.W.Frag) (x : Str) (kvs : List (Int × He.Dv)) : Bool := match K.lookup (He.ga K x) with
  | some ⟨.type c, none, .dict es _, sl⟩ => decide (c = "dict") && (sl.isEmpty && entB K es.toList kvs)
  | _ => false
theorem entB_key {K : PySem.W.Frag} : ∀ {l : List DictEntry} {kvs : List (Int × He.Dv)}, entB K l kvs = true → ∀ e ∈ l, ∃ k : Int, Value.isInt k e.key = true ∧ e.hash = hashInt k
  | [], _, _, e, m => nomatch m
  | x :: r, [], h, _, _ => nomatch (show false = true from h)
  | x :: r, p :: t, h, e, m => by
    obtain ⟨h1, h2⟩ := He.ba (show ((match x.key with
      | .int i _ => decide (i = p.1) && (decide (x.hash = hashInt p.1) && He.relB (p.2.v K) x.val)
      | _ => false) && entB K r t) = true from h)
    rcases List.mem_cons.mp m with rfl | m
    · cases q : e.key with
      | int i tk =>
        rw [q] at h1
        obtain ⟨h3, h4⟩ := He.ba h1
        obtain ⟨h5, h6⟩ := He.ba h4
        refine ⟨i, by simp [Value.isInt], ?_⟩
        rw [of_decide_eq_true h5, of_decide_eq_true h3]
      | _ =>
        rw [q] at h1
        cases h1
    · exact entB_key h2 e m
theorem entB_find {K : PySem.W.Frag} {k : Int} {dv : He.Dv} : ∀ {l : List DictEntry} {kvs : List (Int × He.Dv)}, entB K l kvs = true → kvs.lookup k = some dv → ∃ u, (l.find? fun e => Value.isInt k e.key).map (·.val) = some u ∧ RelV (dv.v K) u
  | [], [], _, m => nomatch (show (none : Option He.Dv) = some dv from m)
  | [], _ :: _, h, _ => nomatch (show false = true from h)
  | x :: r, [], h, _ => nomatch (show false = true from h)
  | x :: r, p :: t, h, m => by
    obtain ⟨h1, h2⟩ := He.ba (show ((match x.key with
      | .int i _ => decide (i = p.1) && (decide (x.hash = hashInt p.1) && He.relB (p.2.v K) x.val)
      | _ => false) && entB K r t) = true from h)
    cases q : x.key with
    | int i tk =>
      rw [q] at h1
      obtain ⟨h3, h4⟩ := He.ba h1
      obtain ⟨h5, h6⟩ := He.ba h4
      have ei : i = p.1 := of_decide_eq_true h3
      by_cases hk : k = p.1
      · have e1 : p.2 = dv := by
          have m2 : (match k == p.1 with | true => some p.2 | false => t.lookup k) = some dv := m
          rw [beq_iff_eq.mpr hk] at m2
          exact Option.some.inj m2
        refine ⟨x.val, ?_, ?_⟩
        · rw [List.find?_cons_of_pos]
          · rfl
          · rw [q, ei, hk]
            simp [Value.isInt]
        · rw [← e1]
          exact He.relB_ok h6
      · have m2 : (match k == p.1 with | true => some p.2 | false => t.lookup k) = some dv := m
        rw [beq_eq_false_iff_ne.mpr hk] at m2
        rw [List.find?_cons_of_neg]
        · exact entB_find h2 m2
        · rw [q, ei]
          simp [Value.isInt]
          exact fun z => hk z.symm
    | _ =>
      rw [q] at h1
      cases h1
theorem tabB_ok {K : PySem.W.Frag} {x : Str} {kvs : List (Int × He.Dv)} (h : tabB K x kvs = true) : ∃ (es : Array DictEntry) (n : Nat), K.lookup (He.ga K x) = some ⟨.type "dict", none, .dict es n, #[]⟩ ∧ entB K es.toList kvs = true := by
  unfold tabB at h
  cases q : K.lookup (He.ga K x) with
  | none =>
    rw [q] at h
    cases h
  | some o =>
    obtain ⟨oc, od, dt, osl⟩ := o
    rw [q] at h
    cases oc with
    | type c =>
      cases od with
      | none =>
        cases dt with
        | dict es n =>
          obtain ⟨h1, h2⟩ := He.ba (show (decide (c = "dict") && (osl.isEmpty && entB K es.toList kvs)) = true from h)
          obtain ⟨h3, h4⟩ := He.ba h2
          have e1 : c = "dict" := of_decide_eq_true h1
          have e2 : osl = #[] := Array.isEmpty_iff.mp h3
          subst e1 e2
          exact ⟨es, n, rfl, h4⟩
        | _ => cases h
      | some b => cases dt <;> cases h
    | _ => cases od <;> cases dt <;> cases h
/-- TAB[e] -/
def tTab (K : PySem.W.Frag) (kvs : List (Int × He.Dv)) (ty : TE) : TE := fun σ H Q => ty σ H fun y H1 => ∃ (k : Int) (dv : He.Dv), y = .int k ∧ kvs.lookup k = some dv ∧ Q (dv.v K) H1
section
variable {X : Cx} {i : Expr} {pos : Pos} {ty : TE} {x : Str} {kvs : List (Int × He.Dv)}
theorem pe_tab (hg : Gl X x) (hm : X.mg x = some (.ref (He.ga X.K x))) (hw : tabB X.K x kvs = true) (hi : PE X i ty) (hs : NoSl i) (hd : (x == ("__debug__" : Str)) = false := by decide) {p : Pos} : PE X (.Subscript (.Name x p) i pos) (tTab X.K kvs ty) := by
  obtain ⟨es, n, lk, ent⟩ := tabB_ok hw
  have ho : PE X (.Name x p) (tC (.ref (He.ga X.K x))) := pe_glob hg hm rfl hd
  refine ⟨fun pins s σ H Q I h => ?_⟩
  refine subD_of PySem.F.slot_dict_getitem.lookup hs (thn (ho.run pins s σ H (fun v H1 => v = .ref (He.ga X.K x) ∧ tTab X.K kvs ty σ H1 Q) I ⟨rfl, h⟩) fun u s1 ⟨v, H1, I1, rv, ev, q1⟩ => thn (hi.run pins s1 σ H1 _ I1 q1) fun iv s2 ⟨y, H2, I2, ry, k, dv, ey, hl, q2⟩ => ?_)
  subst ev ey
  obtain ⟨t, rfl⟩ := ry
  obtain rfl : u = Value.ref (He.ga X.K x) := rv
  have mp : s2.heap.MapOf (PySem.intKind X.prog X.w) (He.ga X.K x) (findBy (PySem.intKind X.prog X.w).is es) :=
    ⟨_, es, n, I2.kIn _ _ lk, ⟨rfl, rfl, rfl⟩, rfl, fun e m => entB_key ent e (by simpa using m), fun _ => rfl⟩
  obtain ⟨val, fe, rv2⟩ := entB_find ent hl
  have fe2 : findBy (PySem.intKind X.prog X.w).is es k = some val := by
    unfold findBy
    obtain ⟨l⟩ := es
    rw [List.find?_toArray]
    exact fe
  refine ⟨mp.typeIs, wpAny_getItem_of (knd := PySem.intKind X.prog X.w) (k := k) (by simp [PySem.intKind, Value.isInt]) mp fe2 ⟨dv.v X.K, H2, I2.tok _, rv2, q2⟩⟩
end
/-! ### a tuple of ints of the top -/
def intsB : List Value → List Int → Bool
  | [], [] => true
  | .int i _ :: r, n :: q => decide (i = n) && intsB r q
  | _, _ => false
def tupB (K : PySem.W.Frag) (x : Str) (ns : List Int) : Bool := match K.lookup (He.ga K x) with
  | some ⟨.type c, _, .seq its _, _⟩ => decide (c = "tuple") && (decide (its.size ≤ 100) && intsB its.toList ns)
  | _ => false
theorem intsB_ok : ∀ {us : List Value} {ns : List Int}, intsB us ns = true → Vals (ns.map V.int) us
  | [], [], _ => .nil
  | [], _ :: _, h => nomatch (show false = true from h)
  | u :: r, [], h => by cases u <;> cases h
  | u :: r, n :: q, h => by
    cases u with
    | int i t =>
      obtain ⟨h1, h2⟩ := He.ba (show (decide (i = n) && intsB r q) = true from h)
      exact .cons ⟨t, by rw [of_decide_eq_true h1]⟩ (intsB_ok h2)
    | _ => cases h
theorem tupB_ok {K : PySem.W.Frag} {x : Str} {ns : List Int} (h : tupB K x ns = true) (H : Hp) : SqT K H (He.ga K x) (ns.map V.int) := by
  unfold tupB at h
  cases q : K.lookup (He.ga K x) with
  | none =>
    rw [q] at h
    cases h
  | some o =>
    obtain ⟨oc, od, dt, osl⟩ := o
    rw [q] at h
    cases oc with
    | type c =>
      cases dt with
      | seq its n =>
        obtain ⟨h1, h2⟩ := He.ba (show (decide (c = "tuple") && (decide (its.size ≤ 100) && intsB its.toList ns)) = true from h)
        obtain ⟨h3, h4⟩ := He.ba h2
        have e1 : c = "tuple" := of_decide_eq_true h1
        subst e1
        exact .inr ⟨_, its, n, q, rfl, rfl, Nat.le_trans (of_decide_eq_true h3) (by decide), intsB_ok h4⟩
      | _ => cases h
    | _ => cases dt <;> cases h
end Lp
set_option maxHeartbeats 400000000
namespace Lp
open PySem PySem.Spec PyProof.Rows L2
/-! The text by places -/
def top (i : Nat) : Stmt := PySem.Challenge.pw_linkpieces_s01_answers.main.body.getD i (.Pass ⟨0, 0, 0, 0⟩)
abbrev s_is_one_machine : Stmt := (top 4)
abbrev s_is_bit_count : Stmt := (top 5)
abbrev s_first_bits : Stmt := (top 6)
abbrev s_number_at : Stmt := (top 9)
abbrev s_as_bytes : Stmt := (top 10)
abbrev s_sum_of : Stmt := (top 11)
abbrev s_Head__init : Stmt := (inClass (top 22) 0)
abbrev s_head_bytes : Stmt := (top 23)
abbrev s_read_head : Stmt := (top 24)
abbrev s_is_right_head : Stmt := (top 25)
abbrev s_is_right_length : Stmt := (top 26)
abbrev s_is_hops : Stmt := (top 27)
abbrev s_is_what : Stmt := (top 28)
abbrev s_is_to : Stmt := (top 29)
abbrev s_has_more : Stmt := (top 30)
abbrev s_is_uncut : Stmt := (top 31)
abbrev s_is_piece : Stmt := (top 32)
abbrev s_Link__init : Stmt := (inClass (top 36) 0)
abbrev s_Way__init : Stmt := (inClass (top 37) 0)
abbrev s_Machine__init : Stmt := (inClass (top 38) 0)
abbrev s_Machine__renew : Stmt := (inClass (top 38) 1)
abbrev s_Machine__use_name : Stmt := (inClass (top 38) 2)
abbrev s_is_link_number : Stmt := (top 39)
abbrev s_is_own_address : Stmt := (top 40)
abbrev s_is_for_machine : Stmt := (top 41)
abbrev s_answer_way : Stmt := (top 50)
abbrev s_answer_away : Stmt := (top 51)
abbrev s_answer_best : Stmt := (top 52)
abbrev s_is_way_start : Stmt := (top 53)
abbrev s_is_way_end : Stmt := (top 54)
abbrev s_next_address : Stmt := (top 55)
abbrev s_own_way : Stmt := (top 56)
abbrev s_way_to : Stmt := (top 57)
abbrev s_way_with_bits : Stmt := (top 58)
abbrev s_told_upward : Stmt := (top 63)
abbrev s_told_sent : Stmt := (top 64)
abbrev s_fits_by : Stmt := (top 65)
abbrev s_is_stuck : Stmt := (top 66)
abbrev s_sent_by : Stmt := (top 67)
abbrev s_cut : Stmt := (top 68)
abbrev s_piece_bytes : Stmt := (top 69)
abbrev s_answer_error : Stmt := (top 79)
abbrev s_is_kind : Stmt := (top 80)
abbrev s_is_number : Stmt := (top 81)
abbrev s_error_back : Stmt := (top 82)
abbrev s_error_head : Stmt := (top 83)
abbrev s_error_body : Stmt := (top 84)
abbrev s_is_right_error : Stmt := (top 85)
abbrev s_Piece__init : Stmt := (inClass (top 88) 0)
abbrev s_Gathering__init : Stmt := (inClass (top 89) 0)
abbrev s_gathering_key : Stmt := (top 90)
abbrev s_gathering_for : Stmt := (top 91)
abbrev s_end_gathering : Stmt := (top 92)
abbrev s_spoil : Stmt := (top 93)
abbrev s_is_there : Stmt := (top 94)
abbrev s_is_same : Stmt := (top 95)
abbrev s_is_spoiled_by : Stmt := (top 96)
abbrev s_lies_over : Stmt := (top 97)
abbrev s_is_against_end : Stmt := (top 98)
abbrev s_is_all_there : Stmt := (top 99)
abbrev s_whole_body : Stmt := (top 100)
abbrev s_first_piece : Stmt := (top 101)
abbrev s_answer_take : Stmt := (top 108)
abbrev s_take_packet : Stmt := (top 109)
abbrev s_take_whole : Stmt := (top 110)
abbrev s_take_piece : Stmt := (top 111)
abbrev s_take_for_others : Stmt := (top 112)
abbrev s_answer_tick : Stmt := (top 115)
abbrev s_given_up : Stmt := (top 116)
abbrev s_answer_told : Stmt := (top 117)
abbrev s_answer_send : Stmt := (top 120)
abbrev s_is_sender : Stmt := (top 121)
abbrev s_is_link_or_none : Stmt := (top 122)
abbrev s_send_by_link : Stmt := (top 123)
abbrev s_send_by_way : Stmt := (top 124)
abbrev s_send_upward : Stmt := (top 125)
abbrev s_answer_new : Stmt := (top 129)
abbrev s_answer_link : Stmt := (top 130)
abbrev s_is_link_setting : Stmt := (top 131)
abbrev s_answer_pass : Stmt := (top 132)
abbrev s_answers : Stmt := (top 146)
abbrev s_end_of_call : Stmt := (top 147)
abbrev s_answer_to : Stmt := (top 148)
def d_is_one_machine : He.DefD := ⟨("is_one_machine", none), "is_one_machine", "is_one_machine", defArgs s_is_one_machine, defBody s_is_one_machine, defScope s_is_one_machine, [], []⟩
def d_is_bit_count : He.DefD := ⟨("is_bit_count", none), "is_bit_count", "is_bit_count", defArgs s_is_bit_count, defBody s_is_bit_count, defScope s_is_bit_count, [], []⟩
def d_first_bits : He.DefD := ⟨("first_bits", none), "first_bits", "first_bits", defArgs s_first_bits, defBody s_first_bits, defScope s_first_bits, [], []⟩
def d_number_at : He.DefD := ⟨("number_at", none), "number_at", "number_at", defArgs s_number_at, defBody s_number_at, defScope s_number_at, [], []⟩
def d_as_bytes : He.DefD := ⟨("as_bytes", none), "as_bytes", "as_bytes", defArgs s_as_bytes, defBody s_as_bytes, defScope s_as_bytes, [], []⟩
def d_sum_of : He.DefD := ⟨("sum_of", none), "sum_of", "sum_of", defArgs s_sum_of, defBody s_sum_of, defScope s_sum_of, [], []⟩
def d_Head__init : He.DefD := ⟨("Head", some "__init__"), "__init__", "Head.__init__", defArgs s_Head__init, defBody s_Head__init, defScope s_Head__init, [], []⟩
def d_head_bytes : He.DefD := ⟨("head_bytes", none), "head_bytes", "head_bytes", defArgs s_head_bytes, defBody s_head_bytes, defScope s_head_bytes, [], []⟩
def d_read_head : He.DefD := ⟨("read_head", none), "read_head", "read_head", defArgs s_read_head, defBody s_read_head, defScope s_read_head, [], []⟩
def d_is_right_head : He.DefD := ⟨("is_right_head", none), "is_right_head", "is_right_head", defArgs s_is_right_head, defBody s_is_right_head, defScope s_is_right_head, [], []⟩
def d_is_right_length : He.DefD := ⟨("is_right_length", none), "is_right_length", "is_right_length", defArgs s_is_right_length, defBody s_is_right_length, defScope s_is_right_length, [], []⟩
def d_is_hops : He.DefD := ⟨("is_hops", none), "is_hops", "is_hops", defArgs s_is_hops, defBody s_is_hops, defScope s_is_hops, [], []⟩
def d_is_what : He.DefD := ⟨("is_what", none), "is_what", "is_what", defArgs s_is_what, defBody s_is_what, defScope s_is_what, [], []⟩
def d_is_to : He.DefD := ⟨("is_to", none), "is_to", "is_to", defArgs s_is_to, defBody s_is_to, defScope s_is_to, [], []⟩
def d_has_more : He.DefD := ⟨("has_more", none), "has_more", "has_more", defArgs s_has_more, defBody s_has_more, defScope s_has_more, [], []⟩
def d_is_uncut : He.DefD := ⟨("is_uncut", none), "is_uncut", "is_uncut", defArgs s_is_uncut, defBody s_is_uncut, defScope s_is_uncut, [], []⟩
def d_is_piece : He.DefD := ⟨("is_piece", none), "is_piece", "is_piece", defArgs s_is_piece, defBody s_is_piece, defScope s_is_piece, [], []⟩
def d_Link__init : He.DefD := ⟨("Link", some "__init__"), "__init__", "Link.__init__", defArgs s_Link__init, defBody s_Link__init, defScope s_Link__init, [], []⟩
def d_Way__init : He.DefD := ⟨("Way", some "__init__"), "__init__", "Way.__init__", defArgs s_Way__init, defBody s_Way__init, defScope s_Way__init, [], []⟩
def d_Machine__init : He.DefD := ⟨("Machine", some "__init__"), "__init__", "Machine.__init__", defArgs s_Machine__init, defBody s_Machine__init, defScope s_Machine__init, [], []⟩
def d_Machine__renew : He.DefD := ⟨("Machine", some "renew"), "renew", "Machine.renew", defArgs s_Machine__renew, defBody s_Machine__renew, defScope s_Machine__renew, [], []⟩
def d_Machine__use_name : He.DefD := ⟨("Machine", some "use_name"), "use_name", "Machine.use_name", defArgs s_Machine__use_name, defBody s_Machine__use_name, defScope s_Machine__use_name, [], []⟩
def d_is_link_number : He.DefD := ⟨("is_link_number", none), "is_link_number", "is_link_number", defArgs s_is_link_number, defBody s_is_link_number, defScope s_is_link_number, [], []⟩
def d_is_own_address : He.DefD := ⟨("is_own_address", none), "is_own_address", "is_own_address", defArgs s_is_own_address, defBody s_is_own_address, defScope s_is_own_address, [], []⟩
def d_is_for_machine : He.DefD := ⟨("is_for_machine", none), "is_for_machine", "is_for_machine", defArgs s_is_for_machine, defBody s_is_for_machine, defScope s_is_for_machine, [], []⟩
def d_answer_way : He.DefD := ⟨("answer_way", none), "answer_way", "answer_way", defArgs s_answer_way, defBody s_answer_way, defScope s_answer_way, [], []⟩
def d_answer_away : He.DefD := ⟨("answer_away", none), "answer_away", "answer_away", defArgs s_answer_away, defBody s_answer_away, defScope s_answer_away, [], []⟩
def d_answer_best : He.DefD := ⟨("answer_best", none), "answer_best", "answer_best", defArgs s_answer_best, defBody s_answer_best, defScope s_answer_best, [], []⟩
def d_is_way_start : He.DefD := ⟨("is_way_start", none), "is_way_start", "is_way_start", defArgs s_is_way_start, defBody s_is_way_start, defScope s_is_way_start, [], []⟩
def d_is_way_end : He.DefD := ⟨("is_way_end", none), "is_way_end", "is_way_end", defArgs s_is_way_end, defBody s_is_way_end, defScope s_is_way_end, [], []⟩
def d_next_address : He.DefD := ⟨("next_address", none), "next_address", "next_address", defArgs s_next_address, defBody s_next_address, defScope s_next_address, [], []⟩
def d_own_way : He.DefD := ⟨("own_way", none), "own_way", "own_way", defArgs s_own_way, defBody s_own_way, defScope s_own_way, [], []⟩
def d_way_to : He.DefD := ⟨("way_to", none), "way_to", "way_to", defArgs s_way_to, defBody s_way_to, defScope s_way_to, [], []⟩
def d_way_with_bits : He.DefD := ⟨("way_with_bits", none), "way_with_bits", "way_with_bits", defArgs s_way_with_bits, defBody s_way_with_bits, defScope s_way_with_bits, [], []⟩
def d_told_upward : He.DefD := ⟨("told_upward", none), "told_upward", "told_upward", defArgs s_told_upward, defBody s_told_upward, defScope s_told_upward, [], []⟩
def d_told_sent : He.DefD := ⟨("told_sent", none), "told_sent", "told_sent", defArgs s_told_sent, defBody s_told_sent, defScope s_told_sent, [], []⟩
def d_fits_by : He.DefD := ⟨("fits_by", none), "fits_by", "fits_by", defArgs s_fits_by, defBody s_fits_by, defScope s_fits_by, [], []⟩
def d_is_stuck : He.DefD := ⟨("is_stuck", none), "is_stuck", "is_stuck", defArgs s_is_stuck, defBody s_is_stuck, defScope s_is_stuck, [], []⟩
def d_sent_by : He.DefD := ⟨("sent_by", none), "sent_by", "sent_by", defArgs s_sent_by, defBody s_sent_by, defScope s_sent_by, [], []⟩
def d_cut : He.DefD := ⟨("cut", none), "cut", "cut", defArgs s_cut, defBody s_cut, defScope s_cut, [], []⟩
def d_piece_bytes : He.DefD := ⟨("piece_bytes", none), "piece_bytes", "piece_bytes", defArgs s_piece_bytes, defBody s_piece_bytes, defScope s_piece_bytes, [], []⟩
def d_answer_error : He.DefD := ⟨("answer_error", none), "answer_error", "answer_error", defArgs s_answer_error, defBody s_answer_error, defScope s_answer_error, [], []⟩
def d_is_kind : He.DefD := ⟨("is_kind", none), "is_kind", "is_kind", defArgs s_is_kind, defBody s_is_kind, defScope s_is_kind, [], []⟩
def d_is_number : He.DefD := ⟨("is_number", none), "is_number", "is_number", defArgs s_is_number, defBody s_is_number, defScope s_is_number, [], []⟩
def d_error_back : He.DefD := ⟨("error_back", none), "error_back", "error_back", defArgs s_error_back, defBody s_error_back, defScope s_error_back, [], []⟩
def d_error_head : He.DefD := ⟨("error_head", none), "error_head", "error_head", defArgs s_error_head, defBody s_error_head, defScope s_error_head, [], []⟩
def d_error_body : He.DefD := ⟨("error_body", none), "error_body", "error_body", defArgs s_error_body, defBody s_error_body, defScope s_error_body, [], []⟩
def d_is_right_error : He.DefD := ⟨("is_right_error", none), "is_right_error", "is_right_error", defArgs s_is_right_error, defBody s_is_right_error, defScope s_is_right_error, [], []⟩
def d_Piece__init : He.DefD := ⟨("Piece", some "__init__"), "__init__", "Piece.__init__", defArgs s_Piece__init, defBody s_Piece__init, defScope s_Piece__init, [], []⟩
def d_Gathering__init : He.DefD := ⟨("Gathering", some "__init__"), "__init__", "Gathering.__init__", defArgs s_Gathering__init, defBody s_Gathering__init, defScope s_Gathering__init, [], []⟩
def d_gathering_key : He.DefD := ⟨("gathering_key", none), "gathering_key", "gathering_key", defArgs s_gathering_key, defBody s_gathering_key, defScope s_gathering_key, [], []⟩
def d_gathering_for : He.DefD := ⟨("gathering_for", none), "gathering_for", "gathering_for", defArgs s_gathering_for, defBody s_gathering_for, defScope s_gathering_for, [], []⟩
def d_end_gathering : He.DefD := ⟨("end_gathering", none), "end_gathering", "end_gathering", defArgs s_end_gathering, defBody s_end_gathering, defScope s_end_gathering, [], []⟩
def d_spoil : He.DefD := ⟨("spoil", none), "spoil", "spoil", defArgs s_spoil, defBody s_spoil, defScope s_spoil, [], []⟩
def d_is_there : He.DefD := ⟨("is_there", none), "is_there", "is_there", defArgs s_is_there, defBody s_is_there, defScope s_is_there, [], []⟩
def d_is_same : He.DefD := ⟨("is_same", none), "is_same", "is_same", defArgs s_is_same, defBody s_is_same, defScope s_is_same, [], []⟩
def d_is_spoiled_by : He.DefD := ⟨("is_spoiled_by", none), "is_spoiled_by", "is_spoiled_by", defArgs s_is_spoiled_by, defBody s_is_spoiled_by, defScope s_is_spoiled_by, [], []⟩
def d_lies_over : He.DefD := ⟨("lies_over", none), "lies_over", "lies_over", defArgs s_lies_over, defBody s_lies_over, defScope s_lies_over, [], []⟩
def d_is_against_end : He.DefD := ⟨("is_against_end", none), "is_against_end", "is_against_end", defArgs s_is_against_end, defBody s_is_against_end, defScope s_is_against_end, [], []⟩
def d_is_all_there : He.DefD := ⟨("is_all_there", none), "is_all_there", "is_all_there", defArgs s_is_all_there, defBody s_is_all_there, defScope s_is_all_there, [], []⟩
def d_whole_body : He.DefD := ⟨("whole_body", none), "whole_body", "whole_body", defArgs s_whole_body, defBody s_whole_body, defScope s_whole_body, [], []⟩
def d_first_piece : He.DefD := ⟨("first_piece", none), "first_piece", "first_piece", defArgs s_first_piece, defBody s_first_piece, defScope s_first_piece, [], []⟩
def d_answer_take : He.DefD := ⟨("answer_take", none), "answer_take", "answer_take", defArgs s_answer_take, defBody s_answer_take, defScope s_answer_take, [], []⟩
def d_take_packet : He.DefD := ⟨("take_packet", none), "take_packet", "take_packet", defArgs s_take_packet, defBody s_take_packet, defScope s_take_packet, [], []⟩
def d_take_whole : He.DefD := ⟨("take_whole", none), "take_whole", "take_whole", defArgs s_take_whole, defBody s_take_whole, defScope s_take_whole, [], []⟩
def d_take_piece : He.DefD := ⟨("take_piece", none), "take_piece", "take_piece", defArgs s_take_piece, defBody s_take_piece, defScope s_take_piece, [], []⟩
def d_take_for_others : He.DefD := ⟨("take_for_others", none), "take_for_others", "take_for_others", defArgs s_take_for_others, defBody s_take_for_others, defScope s_take_for_others, [], []⟩
def d_answer_tick : He.DefD := ⟨("answer_tick", none), "answer_tick", "answer_tick", defArgs s_answer_tick, defBody s_answer_tick, defScope s_answer_tick, [], []⟩
def d_given_up : He.DefD := ⟨("given_up", none), "given_up", "given_up", defArgs s_given_up, defBody s_given_up, defScope s_given_up, [], []⟩
def d_answer_told : He.DefD := ⟨("answer_told", none), "answer_told", "answer_told", defArgs s_answer_told, defBody s_answer_told, defScope s_answer_told, [], []⟩
def d_answer_send : He.DefD := ⟨("answer_send", none), "answer_send", "answer_send", defArgs s_answer_send, defBody s_answer_send, defScope s_answer_send, [], []⟩
def d_is_sender : He.DefD := ⟨("is_sender", none), "is_sender", "is_sender", defArgs s_is_sender, defBody s_is_sender, defScope s_is_sender, [], []⟩
def d_is_link_or_none : He.DefD := ⟨("is_link_or_none", none), "is_link_or_none", "is_link_or_none", defArgs s_is_link_or_none, defBody s_is_link_or_none, defScope s_is_link_or_none, [], []⟩
def d_send_by_link : He.DefD := ⟨("send_by_link", none), "send_by_link", "send_by_link", defArgs s_send_by_link, defBody s_send_by_link, defScope s_send_by_link, [], []⟩
def d_send_by_way : He.DefD := ⟨("send_by_way", none), "send_by_way", "send_by_way", defArgs s_send_by_way, defBody s_send_by_way, defScope s_send_by_way, [], []⟩
def d_send_upward : He.DefD := ⟨("send_upward", none), "send_upward", "send_upward", defArgs s_send_upward, defBody s_send_upward, defScope s_send_upward, [], []⟩
def d_answer_new : He.DefD := ⟨("answer_new", none), "answer_new", "answer_new", defArgs s_answer_new, defBody s_answer_new, defScope s_answer_new, [], []⟩
def d_answer_link : He.DefD := ⟨("answer_link", none), "answer_link", "answer_link", defArgs s_answer_link, defBody s_answer_link, defScope s_answer_link, [], []⟩
def d_is_link_setting : He.DefD := ⟨("is_link_setting", none), "is_link_setting", "is_link_setting", defArgs s_is_link_setting, defBody s_is_link_setting, defScope s_is_link_setting, [], []⟩
def d_answer_pass : He.DefD := ⟨("answer_pass", none), "answer_pass", "answer_pass", defArgs s_answer_pass, defBody s_answer_pass, defScope s_answer_pass, [], []⟩
def d_answers : He.DefD := ⟨("answers", none), "answers", "answers", defArgs s_answers, defBody s_answers, defScope s_answers, [], []⟩
def d_end_of_call : He.DefD := ⟨("end_of_call", none), "end_of_call", "end_of_call", defArgs s_end_of_call, defBody s_end_of_call, defScope s_end_of_call, [], []⟩
def d_answer_to : He.DefD := ⟨("answer_to", none), "answer_to", "answer_to", defArgs s_answer_to, defBody s_answer_to, defScope s_answer_to, [], []⟩
def fn : List He.DefD := [d_is_one_machine, d_is_bit_count, d_first_bits, d_number_at, d_as_bytes, d_sum_of, d_Head__init, d_head_bytes, d_read_head, d_is_right_head, d_is_right_length, d_is_hops, d_is_what, d_is_to, d_has_more, d_is_uncut, d_is_piece, d_Link__init, d_Way__init, d_Machine__init, d_Machine__renew, d_Machine__use_name, d_is_link_number, d_is_own_address, d_is_for_machine, d_answer_way, d_answer_away, d_answer_best, d_is_way_start, d_is_way_end, d_next_address, d_own_way, d_way_to, d_way_with_bits, d_told_upward, d_told_sent, d_fits_by, d_is_stuck, d_sent_by, d_cut, d_piece_bytes, d_answer_error, d_is_kind, d_is_number, d_error_back, d_error_head, d_error_body, d_is_right_error, d_Piece__init, d_Gathering__init, d_gathering_key, d_gathering_for, d_end_gathering, d_spoil, d_is_there, d_is_same, d_is_spoiled_by, d_lies_over, d_is_against_end, d_is_all_there, d_whole_body, d_first_piece, d_answer_take, d_take_packet, d_take_whole, d_take_piece, d_take_for_others, d_answer_tick, d_given_up, d_answer_told, d_answer_send, d_is_sender, d_is_link_or_none, d_send_by_link, d_send_by_way, d_send_upward, d_answer_new, d_answer_link, d_is_link_setting, d_answer_pass, d_answers, d_end_of_call, d_answer_to]
def fa : List He.Fa := [.int "NOBODY" 0, .int "EVERYBODY" 4294967295, .int "ADDRESS_BITS" 32, .glo "is_one_machine", .glo "is_bit_count", .glo "first_bits", .int "MOST_OF_TWO" 65535, .glo "number_at", .glo "as_bytes", .glo "sum_of", .int "HEAD_LENGTH" 20, .int "MOST_LENGTH" 65535, .int "MOST_BODY" 65515, .int "FIRST_BYTE" 81, .int "MOST_HOPS" 255, .int "ERROR_heads" 1, .int "MOST_WHAT" 4, .int "MORE_FOLLOW" 1, .int "UNCUT" 2, .glo "Head", .glo "head_bytes", .glo "read_head", .glo "is_right_head", .glo "is_right_length", .glo "is_hops", .glo "is_what", .glo "is_to", .glo "has_more", .glo "is_uncut", .glo "is_piece", .int "LINK_COUNT" 4, .int "NAME_COUNT" 65536, .glo "Link", .glo "Way", .glo "Machine", .glo "is_link_number", .glo "is_own_address", .glo "is_for_machine", .int "WRONG_ARGUMENTS" (-1), .int "NOT_THERE" (-2), .int "NOT_AS_TOLD" (-3), .int "NOT_NOW" (-4), .int "NO_ROOM" (-5), .int "TOO_LONG" (-7), .int "MOST_WAYS" 256, .glo "answer_way", .glo "answer_away", .glo "answer_best", .glo "is_way_start", .glo "is_way_end", .glo "next_address", .glo "own_way", .glo "way_to", .glo "way_with_bits", .int "UPWARD" 0, .int "SENT" 1, .int "NO_LINK" 4, .glo "told_upward", .glo "told_sent", .glo "fits_by", .glo "is_stuck", .glo "sent_by", .glo "cut", .glo "piece_bytes", .int "NO_WAY" 1, .int "HOPS_USED_UP" 2, .int "DOES_NOT_FIT" 3, .int "PIECES_MISSING" 5, .int "MOST_NUMBER" 4294967295, .int "ERROR_HOPS" 64, .int "ABOUT_LENGTH" 28, .int "FRONT_LENGTH" 8, .glo "answer_error", .glo "is_kind", .glo "is_number", .glo "error_back", .glo "error_head", .glo "error_body", .glo "is_right_error", .int "MOST_GATHERINGS" 64, .glo "Piece", .glo "Gathering", .glo "gathering_key", .glo "gathering_for", .glo "end_gathering", .glo "spoil", .glo "is_there", .glo "is_same", .glo "is_spoiled_by", .glo "lies_over", .glo "is_against_end", .glo "is_all_there", .glo "whole_body", .glo "first_piece", .int "TOLD_UPWARD" 1, .int "PASSED_ON" 2, .int "KEPT" 3, .int "ERROR_BACK" 4, .int "DROPPED" 5, .glo "answer_take", .glo "take_packet", .glo "take_whole", .glo "take_piece", .glo "take_for_others", .int "PATIENCE" 30000, .glo "answer_tick", .glo "given_up", .glo "answer_told", .int "BY_WAY" (-1), .glo "answer_send", .glo "is_sender", .glo "is_link_or_none", .glo "send_by_link", .glo "send_by_way", .glo "send_upward", .int "LEAST_FITS" 68, .int "MOST_FITS" 1500, .glo "answer_new", .glo "answer_link", .glo "is_link_setting", .glo "answer_pass", .int "NEW" 0, .int "LINK" 1, .int "PASS" 2, .int "WAY" 3, .int "AWAY" 4, .int "BEST" 5, .int "SEND" 6, .int "TAKE" 7, .int "ERROR_desk" 8, .int "TICK" 9, .glo "NUMBERS_BEHIND", .glo "WITH_ROW", .glo "answers", .glo "end_of_call", .glo "answer_to", .free "range", .free "sum", .free "len", .free "list", .free "any", .free "sorted", .cls "Head", .noat "Head" "flags", .noat "Head" "hops", .noat "Head" "length", .noat "Head" "name", .noat "Head" "place", .noat "Head" "sender", .noat "Head" "to", .noat "Head" "what", .mkr "Head", .cls "Link", .noat "Link" "address", .noat "Link" "bits", .noat "Link" "fits", .mkr "Link", .cls "Way", .noat "Way" "bits", .noat "Way" "link", .noat "Way" "next_machine", .mkr "Way", .cls "Machine", .noat "Machine" "gatherings", .noat "Machine" "links", .noat "Machine" "next_name", .noat "Machine" "passes_on", .noat "Machine" "taken", .noat "Machine" "time", .noat "Machine" "ways", .mkr "Machine", .meth "Machine" "renew", .meth "Machine" "use_name", .cls "Piece", .noat "Piece" "body", .noat "Piece" "end", .noat "Piece" "head", .noat "Piece" "is_last", .noat "Piece" "start", .mkr "Piece", .cls "Gathering", .noat "Gathering" "began", .noat "Gathering" "pieces", .noat "Gathering" "spoiled", .mkr "Gathering"]
def tab_NUMBERS_BEHIND : List (Int × He.Dv) := [(0, .int 0), (1, .int 4), (2, .int 1), (3, .int 4), (4, .int 2), (5, .int 1), (6, .int 6), (7, .int 1), (8, .int 2), (9, .int 1), (10, .int 0)]
def tup_WITH_ROW : List Int := [6, 7, 8]
def exB (K : PySem.W.Frag) : Bool := tupB K "WITH_ROW" tup_WITH_ROW && tabB K "NUMBERS_BEHIND" tab_NUMBERS_BEHIND
abbrev lamD : He.Defn := ("whole_body", none)
abbrev lamC (K : PySem.W.Frag) : Addr := (He.cT K lamD).1
abbrev lamP (K : PySem.W.Frag) : Addr := (He.cT K lamD).2
/-- what the top has left, by names -/
structure Txt (K : PySem.W.Frag) (mg : Str → Option Value) (base : Heap) : Prop where
  ex : ∃ h : Heap, K.In h ∧ h.Ns mainGlobals mg
  c : He.SaysD fa fn K
  x : exB K = true
  tb : LamX.TabB base mg (lamC K) (lamP K)
section
variable {K : PySem.W.Frag} {mg : Str → Option Value} {base : Heap}
theorem Txt.c_NOBODY (T : Txt K mg base) : ∃ t, mg "NOBODY" = some (.int 0 t) := let ⟨_, X, G⟩ := T.ex; He.int_ok X G (T.c.fact 0 (f := .int "NOBODY" 0) rfl)
theorem Txt.c_EVERYBODY (T : Txt K mg base) : ∃ t, mg "EVERYBODY" = some (.int 4294967295 t) := let ⟨_, X, G⟩ := T.ex; He.int_ok X G (T.c.fact 1 (f := .int "EVERYBODY" 4294967295) rfl)
theorem Txt.c_ADDRESS_BITS (T : Txt K mg base) : ∃ t, mg "ADDRESS_BITS" = some (.int 32 t) := let ⟨_, X, G⟩ := T.ex; He.int_ok X G (T.c.fact 2 (f := .int "ADDRESS_BITS" 32) rfl)
theorem Txt.g_is_one_machine (T : Txt K mg base) : mg "is_one_machine" = some (.ref (He.ga K "is_one_machine")) := let ⟨_, X, G⟩ := T.ex; He.glo_ok X G (T.c.fact 3 (f := .glo "is_one_machine") rfl)
theorem Txt.g_is_bit_count (T : Txt K mg base) : mg "is_bit_count" = some (.ref (He.ga K "is_bit_count")) := let ⟨_, X, G⟩ := T.ex; He.glo_ok X G (T.c.fact 4 (f := .glo "is_bit_count") rfl)
theorem Txt.g_first_bits (T : Txt K mg base) : mg "first_bits" = some (.ref (He.ga K "first_bits")) := let ⟨_, X, G⟩ := T.ex; He.glo_ok X G (T.c.fact 5 (f := .glo "first_bits") rfl)
theorem Txt.c_MOST_OF_TWO (T : Txt K mg base) : ∃ t, mg "MOST_OF_TWO" = some (.int 65535 t) := let ⟨_, X, G⟩ := T.ex; He.int_ok X G (T.c.fact 6 (f := .int "MOST_OF_TWO" 65535) rfl)
theorem Txt.g_number_at (T : Txt K mg base) : mg "number_at" = some (.ref (He.ga K "number_at")) := let ⟨_, X, G⟩ := T.ex; He.glo_ok X G (T.c.fact 7 (f := .glo "number_at") rfl)
theorem Txt.g_as_bytes (T : Txt K mg base) : mg "as_bytes" = some (.ref (He.ga K "as_bytes")) := let ⟨_, X, G⟩ := T.ex; He.glo_ok X G (T.c.fact 8 (f := .glo "as_bytes") rfl)
theorem Txt.g_sum_of (T : Txt K mg base) : mg "sum_of" = some (.ref (He.ga K "sum_of")) := let ⟨_, X, G⟩ := T.ex; He.glo_ok X G (T.c.fact 9 (f := .glo "sum_of") rfl)
theorem Txt.c_HEAD_LENGTH (T : Txt K mg base) : ∃ t, mg "HEAD_LENGTH" = some (.int 20 t) := let ⟨_, X, G⟩ := T.ex; He.int_ok X G (T.c.fact 10 (f := .int "HEAD_LENGTH" 20) rfl)
theorem Txt.c_MOST_LENGTH (T : Txt K mg base) : ∃ t, mg "MOST_LENGTH" = some (.int 65535 t) := let ⟨_, X, G⟩ := T.ex; He.int_ok X G (T.c.fact 11 (f := .int "MOST_LENGTH" 65535) rfl)
theorem Txt.c_MOST_BODY (T : Txt K mg base) : ∃ t, mg "MOST_BODY" = some (.int 65515 t) := let ⟨_, X, G⟩ := T.ex; He.int_ok X G (T.c.fact 12 (f := .int "MOST_BODY" 65515) rfl)
theorem Txt.c_FIRST_BYTE (T : Txt K mg base) : ∃ t, mg "FIRST_BYTE" = some (.int 81 t) := let ⟨_, X, G⟩ := T.ex; He.int_ok X G (T.c.fact 13 (f := .int "FIRST_BYTE" 81) rfl)
theorem Txt.c_MOST_HOPS (T : Txt K mg base) : ∃ t, mg "MOST_HOPS" = some (.int 255 t) := let ⟨_, X, G⟩ := T.ex; He.int_ok X G (T.c.fact 14 (f := .int "MOST_HOPS" 255) rfl)
theorem Txt.c_ERROR_heads (T : Txt K mg base) : ∃ t, mg "ERROR_heads" = some (.int 1 t) := let ⟨_, X, G⟩ := T.ex; He.int_ok X G (T.c.fact 15 (f := .int "ERROR_heads" 1) rfl)
theorem Txt.c_MOST_WHAT (T : Txt K mg base) : ∃ t, mg "MOST_WHAT" = some (.int 4 t) := let ⟨_, X, G⟩ := T.ex; He.int_ok X G (T.c.fact 16 (f := .int "MOST_WHAT" 4) rfl)
theorem Txt.c_MORE_FOLLOW (T : Txt K mg base) : ∃ t, mg "MORE_FOLLOW" = some (.int 1 t) := let ⟨_, X, G⟩ := T.ex; He.int_ok X G (T.c.fact 17 (f := .int "MORE_FOLLOW" 1) rfl)
theorem Txt.c_UNCUT (T : Txt K mg base) : ∃ t, mg "UNCUT" = some (.int 2 t) := let ⟨_, X, G⟩ := T.ex; He.int_ok X G (T.c.fact 18 (f := .int "UNCUT" 2) rfl)
theorem Txt.g_Head (T : Txt K mg base) : mg "Head" = some (.ref (He.ga K "Head")) := let ⟨_, X, G⟩ := T.ex; He.glo_ok X G (T.c.fact 19 (f := .glo "Head") rfl)
theorem Txt.g_head_bytes (T : Txt K mg base) : mg "head_bytes" = some (.ref (He.ga K "head_bytes")) := let ⟨_, X, G⟩ := T.ex; He.glo_ok X G (T.c.fact 20 (f := .glo "head_bytes") rfl)
theorem Txt.g_read_head (T : Txt K mg base) : mg "read_head" = some (.ref (He.ga K "read_head")) := let ⟨_, X, G⟩ := T.ex; He.glo_ok X G (T.c.fact 21 (f := .glo "read_head") rfl)
theorem Txt.g_is_right_head (T : Txt K mg base) : mg "is_right_head" = some (.ref (He.ga K "is_right_head")) := let ⟨_, X, G⟩ := T.ex; He.glo_ok X G (T.c.fact 22 (f := .glo "is_right_head") rfl)
theorem Txt.g_is_right_length (T : Txt K mg base) : mg "is_right_length" = some (.ref (He.ga K "is_right_length")) := let ⟨_, X, G⟩ := T.ex; He.glo_ok X G (T.c.fact 23 (f := .glo "is_right_length") rfl)
theorem Txt.g_is_hops (T : Txt K mg base) : mg "is_hops" = some (.ref (He.ga K "is_hops")) := let ⟨_, X, G⟩ := T.ex; He.glo_ok X G (T.c.fact 24 (f := .glo "is_hops") rfl)
theorem Txt.g_is_what (T : Txt K mg base) : mg "is_what" = some (.ref (He.ga K "is_what")) := let ⟨_, X, G⟩ := T.ex; He.glo_ok X G (T.c.fact 25 (f := .glo "is_what") rfl)
theorem Txt.g_is_to (T : Txt K mg base) : mg "is_to" = some (.ref (He.ga K "is_to")) := let ⟨_, X, G⟩ := T.ex; He.glo_ok X G (T.c.fact 26 (f := .glo "is_to") rfl)
theorem Txt.g_has_more (T : Txt K mg base) : mg "has_more" = some (.ref (He.ga K "has_more")) := let ⟨_, X, G⟩ := T.ex; He.glo_ok X G (T.c.fact 27 (f := .glo "has_more") rfl)
theorem Txt.g_is_uncut (T : Txt K mg base) : mg "is_uncut" = some (.ref (He.ga K "is_uncut")) := let ⟨_, X, G⟩ := T.ex; He.glo_ok X G (T.c.fact 28 (f := .glo "is_uncut") rfl)
theorem Txt.g_is_piece (T : Txt K mg base) : mg "is_piece" = some (.ref (He.ga K "is_piece")) := let ⟨_, X, G⟩ := T.ex; He.glo_ok X G (T.c.fact 29 (f := .glo "is_piece") rfl)
theorem Txt.c_LINK_COUNT (T : Txt K mg base) : ∃ t, mg "LINK_COUNT" = some (.int 4 t) := let ⟨_, X, G⟩ := T.ex; He.int_ok X G (T.c.fact 30 (f := .int "LINK_COUNT" 4) rfl)
theorem Txt.c_NAME_COUNT (T : Txt K mg base) : ∃ t, mg "NAME_COUNT" = some (.int 65536 t) := let ⟨_, X, G⟩ := T.ex; He.int_ok X G (T.c.fact 31 (f := .int "NAME_COUNT" 65536) rfl)
theorem Txt.g_Link (T : Txt K mg base) : mg "Link" = some (.ref (He.ga K "Link")) := let ⟨_, X, G⟩ := T.ex; He.glo_ok X G (T.c.fact 32 (f := .glo "Link") rfl)
theorem Txt.g_Way (T : Txt K mg base) : mg "Way" = some (.ref (He.ga K "Way")) := let ⟨_, X, G⟩ := T.ex; He.glo_ok X G (T.c.fact 33 (f := .glo "Way") rfl)
theorem Txt.g_Machine (T : Txt K mg base) : mg "Machine" = some (.ref (He.ga K "Machine")) := let ⟨_, X, G⟩ := T.ex; He.glo_ok X G (T.c.fact 34 (f := .glo "Machine") rfl)
theorem Txt.g_is_link_number (T : Txt K mg base) : mg "is_link_number" = some (.ref (He.ga K "is_link_number")) := let ⟨_, X, G⟩ := T.ex; He.glo_ok X G (T.c.fact 35 (f := .glo "is_link_number") rfl)
theorem Txt.g_is_own_address (T : Txt K mg base) : mg "is_own_address" = some (.ref (He.ga K "is_own_address")) := let ⟨_, X, G⟩ := T.ex; He.glo_ok X G (T.c.fact 36 (f := .glo "is_own_address") rfl)
theorem Txt.g_is_for_machine (T : Txt K mg base) : mg "is_for_machine" = some (.ref (He.ga K "is_for_machine")) := let ⟨_, X, G⟩ := T.ex; He.glo_ok X G (T.c.fact 37 (f := .glo "is_for_machine") rfl)
theorem Txt.c_WRONG_ARGUMENTS (T : Txt K mg base) : ∃ t, mg "WRONG_ARGUMENTS" = some (.int (-1) t) := let ⟨_, X, G⟩ := T.ex; He.int_ok X G (T.c.fact 38 (f := .int "WRONG_ARGUMENTS" (-1)) rfl)
theorem Txt.c_NOT_THERE (T : Txt K mg base) : ∃ t, mg "NOT_THERE" = some (.int (-2) t) := let ⟨_, X, G⟩ := T.ex; He.int_ok X G (T.c.fact 39 (f := .int "NOT_THERE" (-2)) rfl)
theorem Txt.c_NOT_AS_TOLD (T : Txt K mg base) : ∃ t, mg "NOT_AS_TOLD" = some (.int (-3) t) := let ⟨_, X, G⟩ := T.ex; He.int_ok X G (T.c.fact 40 (f := .int "NOT_AS_TOLD" (-3)) rfl)
theorem Txt.c_NOT_NOW (T : Txt K mg base) : ∃ t, mg "NOT_NOW" = some (.int (-4) t) := let ⟨_, X, G⟩ := T.ex; He.int_ok X G (T.c.fact 41 (f := .int "NOT_NOW" (-4)) rfl)
theorem Txt.c_NO_ROOM (T : Txt K mg base) : ∃ t, mg "NO_ROOM" = some (.int (-5) t) := let ⟨_, X, G⟩ := T.ex; He.int_ok X G (T.c.fact 42 (f := .int "NO_ROOM" (-5)) rfl)
theorem Txt.c_TOO_LONG (T : Txt K mg base) : ∃ t, mg "TOO_LONG" = some (.int (-7) t) := let ⟨_, X, G⟩ := T.ex; He.int_ok X G (T.c.fact 43 (f := .int "TOO_LONG" (-7)) rfl)
theorem Txt.c_MOST_WAYS (T : Txt K mg base) : ∃ t, mg "MOST_WAYS" = some (.int 256 t) := let ⟨_, X, G⟩ := T.ex; He.int_ok X G (T.c.fact 44 (f := .int "MOST_WAYS" 256) rfl)
theorem Txt.g_answer_way (T : Txt K mg base) : mg "answer_way" = some (.ref (He.ga K "answer_way")) := let ⟨_, X, G⟩ := T.ex; He.glo_ok X G (T.c.fact 45 (f := .glo "answer_way") rfl)
theorem Txt.g_answer_away (T : Txt K mg base) : mg "answer_away" = some (.ref (He.ga K "answer_away")) := let ⟨_, X, G⟩ := T.ex; He.glo_ok X G (T.c.fact 46 (f := .glo "answer_away") rfl)
theorem Txt.g_answer_best (T : Txt K mg base) : mg "answer_best" = some (.ref (He.ga K "answer_best")) := let ⟨_, X, G⟩ := T.ex; He.glo_ok X G (T.c.fact 47 (f := .glo "answer_best") rfl)
theorem Txt.g_is_way_start (T : Txt K mg base) : mg "is_way_start" = some (.ref (He.ga K "is_way_start")) := let ⟨_, X, G⟩ := T.ex; He.glo_ok X G (T.c.fact 48 (f := .glo "is_way_start") rfl)
theorem Txt.g_is_way_end (T : Txt K mg base) : mg "is_way_end" = some (.ref (He.ga K "is_way_end")) := let ⟨_, X, G⟩ := T.ex; He.glo_ok X G (T.c.fact 49 (f := .glo "is_way_end") rfl)
theorem Txt.g_next_address (T : Txt K mg base) : mg "next_address" = some (.ref (He.ga K "next_address")) := let ⟨_, X, G⟩ := T.ex; He.glo_ok X G (T.c.fact 50 (f := .glo "next_address") rfl)
theorem Txt.g_own_way (T : Txt K mg base) : mg "own_way" = some (.ref (He.ga K "own_way")) := let ⟨_, X, G⟩ := T.ex; He.glo_ok X G (T.c.fact 51 (f := .glo "own_way") rfl)
theorem Txt.g_way_to (T : Txt K mg base) : mg "way_to" = some (.ref (He.ga K "way_to")) := let ⟨_, X, G⟩ := T.ex; He.glo_ok X G (T.c.fact 52 (f := .glo "way_to") rfl)
theorem Txt.g_way_with_bits (T : Txt K mg base) : mg "way_with_bits" = some (.ref (He.ga K "way_with_bits")) := let ⟨_, X, G⟩ := T.ex; He.glo_ok X G (T.c.fact 53 (f := .glo "way_with_bits") rfl)
theorem Txt.c_UPWARD (T : Txt K mg base) : ∃ t, mg "UPWARD" = some (.int 0 t) := let ⟨_, X, G⟩ := T.ex; He.int_ok X G (T.c.fact 54 (f := .int "UPWARD" 0) rfl)
theorem Txt.c_SENT (T : Txt K mg base) : ∃ t, mg "SENT" = some (.int 1 t) := let ⟨_, X, G⟩ := T.ex; He.int_ok X G (T.c.fact 55 (f := .int "SENT" 1) rfl)
theorem Txt.c_NO_LINK (T : Txt K mg base) : ∃ t, mg "NO_LINK" = some (.int 4 t) := let ⟨_, X, G⟩ := T.ex; He.int_ok X G (T.c.fact 56 (f := .int "NO_LINK" 4) rfl)
theorem Txt.g_told_upward (T : Txt K mg base) : mg "told_upward" = some (.ref (He.ga K "told_upward")) := let ⟨_, X, G⟩ := T.ex; He.glo_ok X G (T.c.fact 57 (f := .glo "told_upward") rfl)
theorem Txt.g_told_sent (T : Txt K mg base) : mg "told_sent" = some (.ref (He.ga K "told_sent")) := let ⟨_, X, G⟩ := T.ex; He.glo_ok X G (T.c.fact 58 (f := .glo "told_sent") rfl)
theorem Txt.g_fits_by (T : Txt K mg base) : mg "fits_by" = some (.ref (He.ga K "fits_by")) := let ⟨_, X, G⟩ := T.ex; He.glo_ok X G (T.c.fact 59 (f := .glo "fits_by") rfl)
theorem Txt.g_is_stuck (T : Txt K mg base) : mg "is_stuck" = some (.ref (He.ga K "is_stuck")) := let ⟨_, X, G⟩ := T.ex; He.glo_ok X G (T.c.fact 60 (f := .glo "is_stuck") rfl)
theorem Txt.g_sent_by (T : Txt K mg base) : mg "sent_by" = some (.ref (He.ga K "sent_by")) := let ⟨_, X, G⟩ := T.ex; He.glo_ok X G (T.c.fact 61 (f := .glo "sent_by") rfl)
theorem Txt.g_cut (T : Txt K mg base) : mg "cut" = some (.ref (He.ga K "cut")) := let ⟨_, X, G⟩ := T.ex; He.glo_ok X G (T.c.fact 62 (f := .glo "cut") rfl)
theorem Txt.g_piece_bytes (T : Txt K mg base) : mg "piece_bytes" = some (.ref (He.ga K "piece_bytes")) := let ⟨_, X, G⟩ := T.ex; He.glo_ok X G (T.c.fact 63 (f := .glo "piece_bytes") rfl)
theorem Txt.c_NO_WAY (T : Txt K mg base) : ∃ t, mg "NO_WAY" = some (.int 1 t) := let ⟨_, X, G⟩ := T.ex; He.int_ok X G (T.c.fact 64 (f := .int "NO_WAY" 1) rfl)
theorem Txt.c_HOPS_USED_UP (T : Txt K mg base) : ∃ t, mg "HOPS_USED_UP" = some (.int 2 t) := let ⟨_, X, G⟩ := T.ex; He.int_ok X G (T.c.fact 65 (f := .int "HOPS_USED_UP" 2) rfl)
theorem Txt.c_DOES_NOT_FIT (T : Txt K mg base) : ∃ t, mg "DOES_NOT_FIT" = some (.int 3 t) := let ⟨_, X, G⟩ := T.ex; He.int_ok X G (T.c.fact 66 (f := .int "DOES_NOT_FIT" 3) rfl)
theorem Txt.c_PIECES_MISSING (T : Txt K mg base) : ∃ t, mg "PIECES_MISSING" = some (.int 5 t) := let ⟨_, X, G⟩ := T.ex; He.int_ok X G (T.c.fact 67 (f := .int "PIECES_MISSING" 5) rfl)
theorem Txt.c_MOST_NUMBER (T : Txt K mg base) : ∃ t, mg "MOST_NUMBER" = some (.int 4294967295 t) := let ⟨_, X, G⟩ := T.ex; He.int_ok X G (T.c.fact 68 (f := .int "MOST_NUMBER" 4294967295) rfl)
theorem Txt.c_ERROR_HOPS (T : Txt K mg base) : ∃ t, mg "ERROR_HOPS" = some (.int 64 t) := let ⟨_, X, G⟩ := T.ex; He.int_ok X G (T.c.fact 69 (f := .int "ERROR_HOPS" 64) rfl)
theorem Txt.c_ABOUT_LENGTH (T : Txt K mg base) : ∃ t, mg "ABOUT_LENGTH" = some (.int 28 t) := let ⟨_, X, G⟩ := T.ex; He.int_ok X G (T.c.fact 70 (f := .int "ABOUT_LENGTH" 28) rfl)
theorem Txt.c_FRONT_LENGTH (T : Txt K mg base) : ∃ t, mg "FRONT_LENGTH" = some (.int 8 t) := let ⟨_, X, G⟩ := T.ex; He.int_ok X G (T.c.fact 71 (f := .int "FRONT_LENGTH" 8) rfl)
theorem Txt.g_answer_error (T : Txt K mg base) : mg "answer_error" = some (.ref (He.ga K "answer_error")) := let ⟨_, X, G⟩ := T.ex; He.glo_ok X G (T.c.fact 72 (f := .glo "answer_error") rfl)
theorem Txt.g_is_kind (T : Txt K mg base) : mg "is_kind" = some (.ref (He.ga K "is_kind")) := let ⟨_, X, G⟩ := T.ex; He.glo_ok X G (T.c.fact 73 (f := .glo "is_kind") rfl)
theorem Txt.g_is_number (T : Txt K mg base) : mg "is_number" = some (.ref (He.ga K "is_number")) := let ⟨_, X, G⟩ := T.ex; He.glo_ok X G (T.c.fact 74 (f := .glo "is_number") rfl)
theorem Txt.g_error_back (T : Txt K mg base) : mg "error_back" = some (.ref (He.ga K "error_back")) := let ⟨_, X, G⟩ := T.ex; He.glo_ok X G (T.c.fact 75 (f := .glo "error_back") rfl)
theorem Txt.g_error_head (T : Txt K mg base) : mg "error_head" = some (.ref (He.ga K "error_head")) := let ⟨_, X, G⟩ := T.ex; He.glo_ok X G (T.c.fact 76 (f := .glo "error_head") rfl)
theorem Txt.g_error_body (T : Txt K mg base) : mg "error_body" = some (.ref (He.ga K "error_body")) := let ⟨_, X, G⟩ := T.ex; He.glo_ok X G (T.c.fact 77 (f := .glo "error_body") rfl)
theorem Txt.g_is_right_error (T : Txt K mg base) : mg "is_right_error" = some (.ref (He.ga K "is_right_error")) := let ⟨_, X, G⟩ := T.ex; He.glo_ok X G (T.c.fact 78 (f := .glo "is_right_error") rfl)
theorem Txt.c_MOST_GATHERINGS (T : Txt K mg base) : ∃ t, mg "MOST_GATHERINGS" = some (.int 64 t) := let ⟨_, X, G⟩ := T.ex; He.int_ok X G (T.c.fact 79 (f := .int "MOST_GATHERINGS" 64) rfl)
theorem Txt.g_Piece (T : Txt K mg base) : mg "Piece" = some (.ref (He.ga K "Piece")) := let ⟨_, X, G⟩ := T.ex; He.glo_ok X G (T.c.fact 80 (f := .glo "Piece") rfl)
theorem Txt.g_Gathering (T : Txt K mg base) : mg "Gathering" = some (.ref (He.ga K "Gathering")) := let ⟨_, X, G⟩ := T.ex; He.glo_ok X G (T.c.fact 81 (f := .glo "Gathering") rfl)
theorem Txt.g_gathering_key (T : Txt K mg base) : mg "gathering_key" = some (.ref (He.ga K "gathering_key")) := let ⟨_, X, G⟩ := T.ex; He.glo_ok X G (T.c.fact 82 (f := .glo "gathering_key") rfl)
theorem Txt.g_gathering_for (T : Txt K mg base) : mg "gathering_for" = some (.ref (He.ga K "gathering_for")) := let ⟨_, X, G⟩ := T.ex; He.glo_ok X G (T.c.fact 83 (f := .glo "gathering_for") rfl)
theorem Txt.g_end_gathering (T : Txt K mg base) : mg "end_gathering" = some (.ref (He.ga K "end_gathering")) := let ⟨_, X, G⟩ := T.ex; He.glo_ok X G (T.c.fact 84 (f := .glo "end_gathering") rfl)
theorem Txt.g_spoil (T : Txt K mg base) : mg "spoil" = some (.ref (He.ga K "spoil")) := let ⟨_, X, G⟩ := T.ex; He.glo_ok X G (T.c.fact 85 (f := .glo "spoil") rfl)
theorem Txt.g_is_there (T : Txt K mg base) : mg "is_there" = some (.ref (He.ga K "is_there")) := let ⟨_, X, G⟩ := T.ex; He.glo_ok X G (T.c.fact 86 (f := .glo "is_there") rfl)
theorem Txt.g_is_same (T : Txt K mg base) : mg "is_same" = some (.ref (He.ga K "is_same")) := let ⟨_, X, G⟩ := T.ex; He.glo_ok X G (T.c.fact 87 (f := .glo "is_same") rfl)
theorem Txt.g_is_spoiled_by (T : Txt K mg base) : mg "is_spoiled_by" = some (.ref (He.ga K "is_spoiled_by")) := let ⟨_, X, G⟩ := T.ex; He.glo_ok X G (T.c.fact 88 (f := .glo "is_spoiled_by") rfl)
theorem Txt.g_lies_over (T : Txt K mg base) : mg "lies_over" = some (.ref (He.ga K "lies_over")) := let ⟨_, X, G⟩ := T.ex; He.glo_ok X G (T.c.fact 89 (f := .glo "lies_over") rfl)
theorem Txt.g_is_against_end (T : Txt K mg base) : mg "is_against_end" = some (.ref (He.ga K "is_against_end")) := let ⟨_, X, G⟩ := T.ex; He.glo_ok X G (T.c.fact 90 (f := .glo "is_against_end") rfl)
theorem Txt.g_is_all_there (T : Txt K mg base) : mg "is_all_there" = some (.ref (He.ga K "is_all_there")) := let ⟨_, X, G⟩ := T.ex; He.glo_ok X G (T.c.fact 91 (f := .glo "is_all_there") rfl)
theorem Txt.g_whole_body (T : Txt K mg base) : mg "whole_body" = some (.ref (He.ga K "whole_body")) := let ⟨_, X, G⟩ := T.ex; He.glo_ok X G (T.c.fact 92 (f := .glo "whole_body") rfl)
theorem Txt.g_first_piece (T : Txt K mg base) : mg "first_piece" = some (.ref (He.ga K "first_piece")) := let ⟨_, X, G⟩ := T.ex; He.glo_ok X G (T.c.fact 93 (f := .glo "first_piece") rfl)
theorem Txt.c_TOLD_UPWARD (T : Txt K mg base) : ∃ t, mg "TOLD_UPWARD" = some (.int 1 t) := let ⟨_, X, G⟩ := T.ex; He.int_ok X G (T.c.fact 94 (f := .int "TOLD_UPWARD" 1) rfl)
theorem Txt.c_PASSED_ON (T : Txt K mg base) : ∃ t, mg "PASSED_ON" = some (.int 2 t) := let ⟨_, X, G⟩ := T.ex; He.int_ok X G (T.c.fact 95 (f := .int "PASSED_ON" 2) rfl)
theorem Txt.c_KEPT (T : Txt K mg base) : ∃ t, mg "KEPT" = some (.int 3 t) := let ⟨_, X, G⟩ := T.ex; He.int_ok X G (T.c.fact 96 (f := .int "KEPT" 3) rfl)
theorem Txt.c_ERROR_BACK (T : Txt K mg base) : ∃ t, mg "ERROR_BACK" = some (.int 4 t) := let ⟨_, X, G⟩ := T.ex; He.int_ok X G (T.c.fact 97 (f := .int "ERROR_BACK" 4) rfl)
theorem Txt.c_DROPPED (T : Txt K mg base) : ∃ t, mg "DROPPED" = some (.int 5 t) := let ⟨_, X, G⟩ := T.ex; He.int_ok X G (T.c.fact 98 (f := .int "DROPPED" 5) rfl)
theorem Txt.g_answer_take (T : Txt K mg base) : mg "answer_take" = some (.ref (He.ga K "answer_take")) := let ⟨_, X, G⟩ := T.ex; He.glo_ok X G (T.c.fact 99 (f := .glo "answer_take") rfl)
theorem Txt.g_take_packet (T : Txt K mg base) : mg "take_packet" = some (.ref (He.ga K "take_packet")) := let ⟨_, X, G⟩ := T.ex; He.glo_ok X G (T.c.fact 100 (f := .glo "take_packet") rfl)
theorem Txt.g_take_whole (T : Txt K mg base) : mg "take_whole" = some (.ref (He.ga K "take_whole")) := let ⟨_, X, G⟩ := T.ex; He.glo_ok X G (T.c.fact 101 (f := .glo "take_whole") rfl)
theorem Txt.g_take_piece (T : Txt K mg base) : mg "take_piece" = some (.ref (He.ga K "take_piece")) := let ⟨_, X, G⟩ := T.ex; He.glo_ok X G (T.c.fact 102 (f := .glo "take_piece") rfl)
theorem Txt.g_take_for_others (T : Txt K mg base) : mg "take_for_others" = some (.ref (He.ga K "take_for_others")) := let ⟨_, X, G⟩ := T.ex; He.glo_ok X G (T.c.fact 103 (f := .glo "take_for_others") rfl)
theorem Txt.c_PATIENCE (T : Txt K mg base) : ∃ t, mg "PATIENCE" = some (.int 30000 t) := let ⟨_, X, G⟩ := T.ex; He.int_ok X G (T.c.fact 104 (f := .int "PATIENCE" 30000) rfl)
theorem Txt.g_answer_tick (T : Txt K mg base) : mg "answer_tick" = some (.ref (He.ga K "answer_tick")) := let ⟨_, X, G⟩ := T.ex; He.glo_ok X G (T.c.fact 105 (f := .glo "answer_tick") rfl)
theorem Txt.g_given_up (T : Txt K mg base) : mg "given_up" = some (.ref (He.ga K "given_up")) := let ⟨_, X, G⟩ := T.ex; He.glo_ok X G (T.c.fact 106 (f := .glo "given_up") rfl)
theorem Txt.g_answer_told (T : Txt K mg base) : mg "answer_told" = some (.ref (He.ga K "answer_told")) := let ⟨_, X, G⟩ := T.ex; He.glo_ok X G (T.c.fact 107 (f := .glo "answer_told") rfl)
theorem Txt.c_BY_WAY (T : Txt K mg base) : ∃ t, mg "BY_WAY" = some (.int (-1) t) := let ⟨_, X, G⟩ := T.ex; He.int_ok X G (T.c.fact 108 (f := .int "BY_WAY" (-1)) rfl)
theorem Txt.g_answer_send (T : Txt K mg base) : mg "answer_send" = some (.ref (He.ga K "answer_send")) := let ⟨_, X, G⟩ := T.ex; He.glo_ok X G (T.c.fact 109 (f := .glo "answer_send") rfl)
theorem Txt.g_is_sender (T : Txt K mg base) : mg "is_sender" = some (.ref (He.ga K "is_sender")) := let ⟨_, X, G⟩ := T.ex; He.glo_ok X G (T.c.fact 110 (f := .glo "is_sender") rfl)
theorem Txt.g_is_link_or_none (T : Txt K mg base) : mg "is_link_or_none" = some (.ref (He.ga K "is_link_or_none")) := let ⟨_, X, G⟩ := T.ex; He.glo_ok X G (T.c.fact 111 (f := .glo "is_link_or_none") rfl)
theorem Txt.g_send_by_link (T : Txt K mg base) : mg "send_by_link" = some (.ref (He.ga K "send_by_link")) := let ⟨_, X, G⟩ := T.ex; He.glo_ok X G (T.c.fact 112 (f := .glo "send_by_link") rfl)
theorem Txt.g_send_by_way (T : Txt K mg base) : mg "send_by_way" = some (.ref (He.ga K "send_by_way")) := let ⟨_, X, G⟩ := T.ex; He.glo_ok X G (T.c.fact 113 (f := .glo "send_by_way") rfl)
theorem Txt.g_send_upward (T : Txt K mg base) : mg "send_upward" = some (.ref (He.ga K "send_upward")) := let ⟨_, X, G⟩ := T.ex; He.glo_ok X G (T.c.fact 114 (f := .glo "send_upward") rfl)
theorem Txt.c_LEAST_FITS (T : Txt K mg base) : ∃ t, mg "LEAST_FITS" = some (.int 68 t) := let ⟨_, X, G⟩ := T.ex; He.int_ok X G (T.c.fact 115 (f := .int "LEAST_FITS" 68) rfl)
theorem Txt.c_MOST_FITS (T : Txt K mg base) : ∃ t, mg "MOST_FITS" = some (.int 1500 t) := let ⟨_, X, G⟩ := T.ex; He.int_ok X G (T.c.fact 116 (f := .int "MOST_FITS" 1500) rfl)
theorem Txt.g_answer_new (T : Txt K mg base) : mg "answer_new" = some (.ref (He.ga K "answer_new")) := let ⟨_, X, G⟩ := T.ex; He.glo_ok X G (T.c.fact 117 (f := .glo "answer_new") rfl)
theorem Txt.g_answer_link (T : Txt K mg base) : mg "answer_link" = some (.ref (He.ga K "answer_link")) := let ⟨_, X, G⟩ := T.ex; He.glo_ok X G (T.c.fact 118 (f := .glo "answer_link") rfl)
theorem Txt.g_is_link_setting (T : Txt K mg base) : mg "is_link_setting" = some (.ref (He.ga K "is_link_setting")) := let ⟨_, X, G⟩ := T.ex; He.glo_ok X G (T.c.fact 119 (f := .glo "is_link_setting") rfl)
theorem Txt.g_answer_pass (T : Txt K mg base) : mg "answer_pass" = some (.ref (He.ga K "answer_pass")) := let ⟨_, X, G⟩ := T.ex; He.glo_ok X G (T.c.fact 120 (f := .glo "answer_pass") rfl)
theorem Txt.c_NEW (T : Txt K mg base) : ∃ t, mg "NEW" = some (.int 0 t) := let ⟨_, X, G⟩ := T.ex; He.int_ok X G (T.c.fact 121 (f := .int "NEW" 0) rfl)
theorem Txt.c_LINK (T : Txt K mg base) : ∃ t, mg "LINK" = some (.int 1 t) := let ⟨_, X, G⟩ := T.ex; He.int_ok X G (T.c.fact 122 (f := .int "LINK" 1) rfl)
theorem Txt.c_PASS (T : Txt K mg base) : ∃ t, mg "PASS" = some (.int 2 t) := let ⟨_, X, G⟩ := T.ex; He.int_ok X G (T.c.fact 123 (f := .int "PASS" 2) rfl)
theorem Txt.c_WAY (T : Txt K mg base) : ∃ t, mg "WAY" = some (.int 3 t) := let ⟨_, X, G⟩ := T.ex; He.int_ok X G (T.c.fact 124 (f := .int "WAY" 3) rfl)
theorem Txt.c_AWAY (T : Txt K mg base) : ∃ t, mg "AWAY" = some (.int 4 t) := let ⟨_, X, G⟩ := T.ex; He.int_ok X G (T.c.fact 125 (f := .int "AWAY" 4) rfl)
theorem Txt.c_BEST (T : Txt K mg base) : ∃ t, mg "BEST" = some (.int 5 t) := let ⟨_, X, G⟩ := T.ex; He.int_ok X G (T.c.fact 126 (f := .int "BEST" 5) rfl)
theorem Txt.c_SEND (T : Txt K mg base) : ∃ t, mg "SEND" = some (.int 6 t) := let ⟨_, X, G⟩ := T.ex; He.int_ok X G (T.c.fact 127 (f := .int "SEND" 6) rfl)
theorem Txt.c_TAKE (T : Txt K mg base) : ∃ t, mg "TAKE" = some (.int 7 t) := let ⟨_, X, G⟩ := T.ex; He.int_ok X G (T.c.fact 128 (f := .int "TAKE" 7) rfl)
theorem Txt.c_ERROR_desk (T : Txt K mg base) : ∃ t, mg "ERROR_desk" = some (.int 8 t) := let ⟨_, X, G⟩ := T.ex; He.int_ok X G (T.c.fact 129 (f := .int "ERROR_desk" 8) rfl)
theorem Txt.c_TICK (T : Txt K mg base) : ∃ t, mg "TICK" = some (.int 9 t) := let ⟨_, X, G⟩ := T.ex; He.int_ok X G (T.c.fact 130 (f := .int "TICK" 9) rfl)
theorem Txt.g_NUMBERS_BEHIND (T : Txt K mg base) : mg "NUMBERS_BEHIND" = some (.ref (He.ga K "NUMBERS_BEHIND")) := let ⟨_, X, G⟩ := T.ex; He.glo_ok X G (T.c.fact 131 (f := .glo "NUMBERS_BEHIND") rfl)
theorem Txt.g_WITH_ROW (T : Txt K mg base) : mg "WITH_ROW" = some (.ref (He.ga K "WITH_ROW")) := let ⟨_, X, G⟩ := T.ex; He.glo_ok X G (T.c.fact 132 (f := .glo "WITH_ROW") rfl)
theorem Txt.g_answers (T : Txt K mg base) : mg "answers" = some (.ref (He.ga K "answers")) := let ⟨_, X, G⟩ := T.ex; He.glo_ok X G (T.c.fact 133 (f := .glo "answers") rfl)
theorem Txt.g_end_of_call (T : Txt K mg base) : mg "end_of_call" = some (.ref (He.ga K "end_of_call")) := let ⟨_, X, G⟩ := T.ex; He.glo_ok X G (T.c.fact 134 (f := .glo "end_of_call") rfl)
theorem Txt.g_answer_to (T : Txt K mg base) : mg "answer_to" = some (.ref (He.ga K "answer_to")) := let ⟨_, X, G⟩ := T.ex; He.glo_ok X G (T.c.fact 135 (f := .glo "answer_to") rfl)
theorem Txt.f_range (T : Txt K mg base) : mg "range" = none := let ⟨_, X, G⟩ := T.ex; He.free_ok X G (T.c.fact 136 (f := .free "range") rfl)
theorem Txt.f_sum (T : Txt K mg base) : mg "sum" = none := let ⟨_, X, G⟩ := T.ex; He.free_ok X G (T.c.fact 137 (f := .free "sum") rfl)
theorem Txt.f_len (T : Txt K mg base) : mg "len" = none := let ⟨_, X, G⟩ := T.ex; He.free_ok X G (T.c.fact 138 (f := .free "len") rfl)
theorem Txt.f_list (T : Txt K mg base) : mg "list" = none := let ⟨_, X, G⟩ := T.ex; He.free_ok X G (T.c.fact 139 (f := .free "list") rfl)
theorem Txt.f_any (T : Txt K mg base) : mg "any" = none := let ⟨_, X, G⟩ := T.ex; He.free_ok X G (T.c.fact 140 (f := .free "any") rfl)
theorem Txt.f_sorted (T : Txt K mg base) : mg "sorted" = none := let ⟨_, X, G⟩ := T.ex; He.free_ok X G (T.c.fact 141 (f := .free "sorted") rfl)
theorem Txt.cl_Head (T : Txt K mg base) : Cls K (He.ga K "Head") := He.cls_ok (T.c.fact 142 (f := .cls "Head") rfl)
theorem Txt.n_Head_flags (T : Txt K mg base) : NoAttr K (He.ga K "Head") "flags" := He.noat_ok (T.c.fact 143 (f := .noat "Head" "flags") rfl)
theorem Txt.n_Head_hops (T : Txt K mg base) : NoAttr K (He.ga K "Head") "hops" := He.noat_ok (T.c.fact 144 (f := .noat "Head" "hops") rfl)
theorem Txt.n_Head_length (T : Txt K mg base) : NoAttr K (He.ga K "Head") "length" := He.noat_ok (T.c.fact 145 (f := .noat "Head" "length") rfl)
theorem Txt.n_Head_name (T : Txt K mg base) : NoAttr K (He.ga K "Head") "name" := He.noat_ok (T.c.fact 146 (f := .noat "Head" "name") rfl)
theorem Txt.n_Head_place (T : Txt K mg base) : NoAttr K (He.ga K "Head") "place" := He.noat_ok (T.c.fact 147 (f := .noat "Head" "place") rfl)
theorem Txt.n_Head_sender (T : Txt K mg base) : NoAttr K (He.ga K "Head") "sender" := He.noat_ok (T.c.fact 148 (f := .noat "Head" "sender") rfl)
theorem Txt.n_Head_to (T : Txt K mg base) : NoAttr K (He.ga K "Head") "to" := He.noat_ok (T.c.fact 149 (f := .noat "Head" "to") rfl)
theorem Txt.n_Head_what (T : Txt K mg base) : NoAttr K (He.ga K "Head") "what" := He.noat_ok (T.c.fact 150 (f := .noat "Head" "what") rfl)
theorem Txt.mk_Head (T : Txt K mg base) : Mk K (He.ga K "Head") (He.ma K (He.ga K "Head") "__init__") := He.mkr_ok (T.c.fact 151 (f := .mkr "Head") rfl)
theorem Txt.cl_Link (T : Txt K mg base) : Cls K (He.ga K "Link") := He.cls_ok (T.c.fact 152 (f := .cls "Link") rfl)
theorem Txt.n_Link_address (T : Txt K mg base) : NoAttr K (He.ga K "Link") "address" := He.noat_ok (T.c.fact 153 (f := .noat "Link" "address") rfl)
theorem Txt.n_Link_bits (T : Txt K mg base) : NoAttr K (He.ga K "Link") "bits" := He.noat_ok (T.c.fact 154 (f := .noat "Link" "bits") rfl)
theorem Txt.n_Link_fits (T : Txt K mg base) : NoAttr K (He.ga K "Link") "fits" := He.noat_ok (T.c.fact 155 (f := .noat "Link" "fits") rfl)
theorem Txt.mk_Link (T : Txt K mg base) : Mk K (He.ga K "Link") (He.ma K (He.ga K "Link") "__init__") := He.mkr_ok (T.c.fact 156 (f := .mkr "Link") rfl)
theorem Txt.cl_Way (T : Txt K mg base) : Cls K (He.ga K "Way") := He.cls_ok (T.c.fact 157 (f := .cls "Way") rfl)
theorem Txt.n_Way_bits (T : Txt K mg base) : NoAttr K (He.ga K "Way") "bits" := He.noat_ok (T.c.fact 158 (f := .noat "Way" "bits") rfl)
theorem Txt.n_Way_link (T : Txt K mg base) : NoAttr K (He.ga K "Way") "link" := He.noat_ok (T.c.fact 159 (f := .noat "Way" "link") rfl)
theorem Txt.n_Way_next_machine (T : Txt K mg base) : NoAttr K (He.ga K "Way") "next_machine" := He.noat_ok (T.c.fact 160 (f := .noat "Way" "next_machine") rfl)
theorem Txt.mk_Way (T : Txt K mg base) : Mk K (He.ga K "Way") (He.ma K (He.ga K "Way") "__init__") := He.mkr_ok (T.c.fact 161 (f := .mkr "Way") rfl)
theorem Txt.cl_Machine (T : Txt K mg base) : Cls K (He.ga K "Machine") := He.cls_ok (T.c.fact 162 (f := .cls "Machine") rfl)
theorem Txt.n_Machine_gatherings (T : Txt K mg base) : NoAttr K (He.ga K "Machine") "gatherings" := He.noat_ok (T.c.fact 163 (f := .noat "Machine" "gatherings") rfl)
theorem Txt.n_Machine_links (T : Txt K mg base) : NoAttr K (He.ga K "Machine") "links" := He.noat_ok (T.c.fact 164 (f := .noat "Machine" "links") rfl)
theorem Txt.n_Machine_next_name (T : Txt K mg base) : NoAttr K (He.ga K "Machine") "next_name" := He.noat_ok (T.c.fact 165 (f := .noat "Machine" "next_name") rfl)
theorem Txt.n_Machine_passes_on (T : Txt K mg base) : NoAttr K (He.ga K "Machine") "passes_on" := He.noat_ok (T.c.fact 166 (f := .noat "Machine" "passes_on") rfl)
theorem Txt.n_Machine_taken (T : Txt K mg base) : NoAttr K (He.ga K "Machine") "taken" := He.noat_ok (T.c.fact 167 (f := .noat "Machine" "taken") rfl)
theorem Txt.n_Machine_time (T : Txt K mg base) : NoAttr K (He.ga K "Machine") "time" := He.noat_ok (T.c.fact 168 (f := .noat "Machine" "time") rfl)
theorem Txt.n_Machine_ways (T : Txt K mg base) : NoAttr K (He.ga K "Machine") "ways" := He.noat_ok (T.c.fact 169 (f := .noat "Machine" "ways") rfl)
theorem Txt.mk_Machine (T : Txt K mg base) : Mk K (He.ga K "Machine") (He.ma K (He.ga K "Machine") "__init__") := He.mkr_ok (T.c.fact 170 (f := .mkr "Machine") rfl)
theorem Txt.me_Machine_renew (T : Txt K mg base) : Meth K (He.ga K "Machine") "renew" (He.ma K (He.ga K "Machine") "renew") := He.meth_ok (T.c.fact 171 (f := .meth "Machine" "renew") rfl)
theorem Txt.me_Machine_use_name (T : Txt K mg base) : Meth K (He.ga K "Machine") "use_name" (He.ma K (He.ga K "Machine") "use_name") := He.meth_ok (T.c.fact 172 (f := .meth "Machine" "use_name") rfl)
theorem Txt.cl_Piece (T : Txt K mg base) : Cls K (He.ga K "Piece") := He.cls_ok (T.c.fact 173 (f := .cls "Piece") rfl)
theorem Txt.n_Piece_body (T : Txt K mg base) : NoAttr K (He.ga K "Piece") "body" := He.noat_ok (T.c.fact 174 (f := .noat "Piece" "body") rfl)
theorem Txt.n_Piece_end (T : Txt K mg base) : NoAttr K (He.ga K "Piece") "end" := He.noat_ok (T.c.fact 175 (f := .noat "Piece" "end") rfl)
theorem Txt.n_Piece_head (T : Txt K mg base) : NoAttr K (He.ga K "Piece") "head" := He.noat_ok (T.c.fact 176 (f := .noat "Piece" "head") rfl)
theorem Txt.n_Piece_is_last (T : Txt K mg base) : NoAttr K (He.ga K "Piece") "is_last" := He.noat_ok (T.c.fact 177 (f := .noat "Piece" "is_last") rfl)
theorem Txt.n_Piece_start (T : Txt K mg base) : NoAttr K (He.ga K "Piece") "start" := He.noat_ok (T.c.fact 178 (f := .noat "Piece" "start") rfl)
theorem Txt.mk_Piece (T : Txt K mg base) : Mk K (He.ga K "Piece") (He.ma K (He.ga K "Piece") "__init__") := He.mkr_ok (T.c.fact 179 (f := .mkr "Piece") rfl)
theorem Txt.cl_Gathering (T : Txt K mg base) : Cls K (He.ga K "Gathering") := He.cls_ok (T.c.fact 180 (f := .cls "Gathering") rfl)
theorem Txt.n_Gathering_began (T : Txt K mg base) : NoAttr K (He.ga K "Gathering") "began" := He.noat_ok (T.c.fact 181 (f := .noat "Gathering" "began") rfl)
theorem Txt.n_Gathering_pieces (T : Txt K mg base) : NoAttr K (He.ga K "Gathering") "pieces" := He.noat_ok (T.c.fact 182 (f := .noat "Gathering" "pieces") rfl)
theorem Txt.n_Gathering_spoiled (T : Txt K mg base) : NoAttr K (He.ga K "Gathering") "spoiled" := He.noat_ok (T.c.fact 183 (f := .noat "Gathering" "spoiled") rfl)
theorem Txt.mk_Gathering (T : Txt K mg base) : Mk K (He.ga K "Gathering") (He.ma K (He.ga K "Gathering") "__init__") := He.mkr_ok (T.c.fact 184 (f := .mkr "Gathering") rfl)
theorem Txt.w_WITH_ROW (T : Txt K mg base) : tupB K "WITH_ROW" tup_WITH_ROW = true := (He.ba T.x).1
theorem Txt.w_NUMBERS_BEHIND (T : Txt K mg base) : tabB K "NUMBERS_BEHIND" tab_NUMBERS_BEHIND = true := (He.ba T.x).2
theorem Txt.fd_is_one_machine (T : Txt K mg base) : ∃ fd, FunD K d_is_one_machine.name d_is_one_machine.qual d_is_one_machine.params d_is_one_machine.body d_is_one_machine.scope [] [] (He.fAd K d_is_one_machine.at_) fd := T.c.def_ 0 (d := d_is_one_machine) rfl
theorem Txt.fd_is_bit_count (T : Txt K mg base) : ∃ fd, FunD K d_is_bit_count.name d_is_bit_count.qual d_is_bit_count.params d_is_bit_count.body d_is_bit_count.scope [] [] (He.fAd K d_is_bit_count.at_) fd := T.c.def_ 1 (d := d_is_bit_count) rfl
theorem Txt.fd_first_bits (T : Txt K mg base) : ∃ fd, FunD K d_first_bits.name d_first_bits.qual d_first_bits.params d_first_bits.body d_first_bits.scope [] [] (He.fAd K d_first_bits.at_) fd := T.c.def_ 2 (d := d_first_bits) rfl
theorem Txt.fd_number_at (T : Txt K mg base) : ∃ fd, FunD K d_number_at.name d_number_at.qual d_number_at.params d_number_at.body d_number_at.scope [] [] (He.fAd K d_number_at.at_) fd := T.c.def_ 3 (d := d_number_at) rfl
theorem Txt.fd_as_bytes (T : Txt K mg base) : ∃ fd, FunD K d_as_bytes.name d_as_bytes.qual d_as_bytes.params d_as_bytes.body d_as_bytes.scope [] [] (He.fAd K d_as_bytes.at_) fd := T.c.def_ 4 (d := d_as_bytes) rfl
theorem Txt.fd_sum_of (T : Txt K mg base) : ∃ fd, FunD K d_sum_of.name d_sum_of.qual d_sum_of.params d_sum_of.body d_sum_of.scope [] [] (He.fAd K d_sum_of.at_) fd := T.c.def_ 5 (d := d_sum_of) rfl
theorem Txt.fd_Head__init (T : Txt K mg base) : ∃ fd, FunD K d_Head__init.name d_Head__init.qual d_Head__init.params d_Head__init.body d_Head__init.scope [] [] (He.fAd K d_Head__init.at_) fd := T.c.def_ 6 (d := d_Head__init) rfl
theorem Txt.fd_head_bytes (T : Txt K mg base) : ∃ fd, FunD K d_head_bytes.name d_head_bytes.qual d_head_bytes.params d_head_bytes.body d_head_bytes.scope [] [] (He.fAd K d_head_bytes.at_) fd := T.c.def_ 7 (d := d_head_bytes) rfl
theorem Txt.fd_read_head (T : Txt K mg base) : ∃ fd, FunD K d_read_head.name d_read_head.qual d_read_head.params d_read_head.body d_read_head.scope [] [] (He.fAd K d_read_head.at_) fd := T.c.def_ 8 (d := d_read_head) rfl
theorem Txt.fd_is_right_head (T : Txt K mg base) : ∃ fd, FunD K d_is_right_head.name d_is_right_head.qual d_is_right_head.params d_is_right_head.body d_is_right_head.scope [] [] (He.fAd K d_is_right_head.at_) fd := T.c.def_ 9 (d := d_is_right_head) rfl
theorem Txt.fd_is_right_length (T : Txt K mg base) : ∃ fd, FunD K d_is_right_length.name d_is_right_length.qual d_is_right_length.params d_is_right_length.body d_is_right_length.scope [] [] (He.fAd K d_is_right_length.at_) fd := T.c.def_ 10 (d := d_is_right_length) rfl
theorem Txt.fd_is_hops (T : Txt K mg base) : ∃ fd, FunD K d_is_hops.name d_is_hops.qual d_is_hops.params d_is_hops.body d_is_hops.scope [] [] (He.fAd K d_is_hops.at_) fd := T.c.def_ 11 (d := d_is_hops) rfl
theorem Txt.fd_is_what (T : Txt K mg base) : ∃ fd, FunD K d_is_what.name d_is_what.qual d_is_what.params d_is_what.body d_is_what.scope [] [] (He.fAd K d_is_what.at_) fd := T.c.def_ 12 (d := d_is_what) rfl
theorem Txt.fd_is_to (T : Txt K mg base) : ∃ fd, FunD K d_is_to.name d_is_to.qual d_is_to.params d_is_to.body d_is_to.scope [] [] (He.fAd K d_is_to.at_) fd := T.c.def_ 13 (d := d_is_to) rfl
theorem Txt.fd_has_more (T : Txt K mg base) : ∃ fd, FunD K d_has_more.name d_has_more.qual d_has_more.params d_has_more.body d_has_more.scope [] [] (He.fAd K d_has_more.at_) fd := T.c.def_ 14 (d := d_has_more) rfl
theorem Txt.fd_is_uncut (T : Txt K mg base) : ∃ fd, FunD K d_is_uncut.name d_is_uncut.qual d_is_uncut.params d_is_uncut.body d_is_uncut.scope [] [] (He.fAd K d_is_uncut.at_) fd := T.c.def_ 15 (d := d_is_uncut) rfl
theorem Txt.fd_is_piece (T : Txt K mg base) : ∃ fd, FunD K d_is_piece.name d_is_piece.qual d_is_piece.params d_is_piece.body d_is_piece.scope [] [] (He.fAd K d_is_piece.at_) fd := T.c.def_ 16 (d := d_is_piece) rfl
theorem Txt.fd_Link__init (T : Txt K mg base) : ∃ fd, FunD K d_Link__init.name d_Link__init.qual d_Link__init.params d_Link__init.body d_Link__init.scope [] [] (He.fAd K d_Link__init.at_) fd := T.c.def_ 17 (d := d_Link__init) rfl
theorem Txt.fd_Way__init (T : Txt K mg base) : ∃ fd, FunD K d_Way__init.name d_Way__init.qual d_Way__init.params d_Way__init.body d_Way__init.scope [] [] (He.fAd K d_Way__init.at_) fd := T.c.def_ 18 (d := d_Way__init) rfl
theorem Txt.fd_Machine__init (T : Txt K mg base) : ∃ fd, FunD K d_Machine__init.name d_Machine__init.qual d_Machine__init.params d_Machine__init.body d_Machine__init.scope [] [] (He.fAd K d_Machine__init.at_) fd := T.c.def_ 19 (d := d_Machine__init) rfl
theorem Txt.fd_Machine__renew (T : Txt K mg base) : ∃ fd, FunD K d_Machine__renew.name d_Machine__renew.qual d_Machine__renew.params d_Machine__renew.body d_Machine__renew.scope [] [] (He.fAd K d_Machine__renew.at_) fd := T.c.def_ 20 (d := d_Machine__renew) rfl
theorem Txt.fd_Machine__use_name (T : Txt K mg base) : ∃ fd, FunD K d_Machine__use_name.name d_Machine__use_name.qual d_Machine__use_name.params d_Machine__use_name.body d_Machine__use_name.scope [] [] (He.fAd K d_Machine__use_name.at_) fd := T.c.def_ 21 (d := d_Machine__use_name) rfl
theorem Txt.fd_is_link_number (T : Txt K mg base) : ∃ fd, FunD K d_is_link_number.name d_is_link_number.qual d_is_link_number.params d_is_link_number.body d_is_link_number.scope [] [] (He.fAd K d_is_link_number.at_) fd := T.c.def_ 22 (d := d_is_link_number) rfl
theorem Txt.fd_is_own_address (T : Txt K mg base) : ∃ fd, FunD K d_is_own_address.name d_is_own_address.qual d_is_own_address.params d_is_own_address.body d_is_own_address.scope [] [] (He.fAd K d_is_own_address.at_) fd := T.c.def_ 23 (d := d_is_own_address) rfl
theorem Txt.fd_is_for_machine (T : Txt K mg base) : ∃ fd, FunD K d_is_for_machine.name d_is_for_machine.qual d_is_for_machine.params d_is_for_machine.body d_is_for_machine.scope [] [] (He.fAd K d_is_for_machine.at_) fd := T.c.def_ 24 (d := d_is_for_machine) rfl
theorem Txt.fd_answer_way (T : Txt K mg base) : ∃ fd, FunD K d_answer_way.name d_answer_way.qual d_answer_way.params d_answer_way.body d_answer_way.scope [] [] (He.fAd K d_answer_way.at_) fd := T.c.def_ 25 (d := d_answer_way) rfl
theorem Txt.fd_answer_away (T : Txt K mg base) : ∃ fd, FunD K d_answer_away.name d_answer_away.qual d_answer_away.params d_answer_away.body d_answer_away.scope [] [] (He.fAd K d_answer_away.at_) fd := T.c.def_ 26 (d := d_answer_away) rfl
theorem Txt.fd_answer_best (T : Txt K mg base) : ∃ fd, FunD K d_answer_best.name d_answer_best.qual d_answer_best.params d_answer_best.body d_answer_best.scope [] [] (He.fAd K d_answer_best.at_) fd := T.c.def_ 27 (d := d_answer_best) rfl
theorem Txt.fd_is_way_start (T : Txt K mg base) : ∃ fd, FunD K d_is_way_start.name d_is_way_start.qual d_is_way_start.params d_is_way_start.body d_is_way_start.scope [] [] (He.fAd K d_is_way_start.at_) fd := T.c.def_ 28 (d := d_is_way_start) rfl
theorem Txt.fd_is_way_end (T : Txt K mg base) : ∃ fd, FunD K d_is_way_end.name d_is_way_end.qual d_is_way_end.params d_is_way_end.body d_is_way_end.scope [] [] (He.fAd K d_is_way_end.at_) fd := T.c.def_ 29 (d := d_is_way_end) rfl
theorem Txt.fd_next_address (T : Txt K mg base) : ∃ fd, FunD K d_next_address.name d_next_address.qual d_next_address.params d_next_address.body d_next_address.scope [] [] (He.fAd K d_next_address.at_) fd := T.c.def_ 30 (d := d_next_address) rfl
theorem Txt.fd_own_way (T : Txt K mg base) : ∃ fd, FunD K d_own_way.name d_own_way.qual d_own_way.params d_own_way.body d_own_way.scope [] [] (He.fAd K d_own_way.at_) fd := T.c.def_ 31 (d := d_own_way) rfl
theorem Txt.fd_way_to (T : Txt K mg base) : ∃ fd, FunD K d_way_to.name d_way_to.qual d_way_to.params d_way_to.body d_way_to.scope [] [] (He.fAd K d_way_to.at_) fd := T.c.def_ 32 (d := d_way_to) rfl
theorem Txt.fd_way_with_bits (T : Txt K mg base) : ∃ fd, FunD K d_way_with_bits.name d_way_with_bits.qual d_way_with_bits.params d_way_with_bits.body d_way_with_bits.scope [] [] (He.fAd K d_way_with_bits.at_) fd := T.c.def_ 33 (d := d_way_with_bits) rfl
theorem Txt.fd_told_upward (T : Txt K mg base) : ∃ fd, FunD K d_told_upward.name d_told_upward.qual d_told_upward.params d_told_upward.body d_told_upward.scope [] [] (He.fAd K d_told_upward.at_) fd := T.c.def_ 34 (d := d_told_upward) rfl
theorem Txt.fd_told_sent (T : Txt K mg base) : ∃ fd, FunD K d_told_sent.name d_told_sent.qual d_told_sent.params d_told_sent.body d_told_sent.scope [] [] (He.fAd K d_told_sent.at_) fd := T.c.def_ 35 (d := d_told_sent) rfl
theorem Txt.fd_fits_by (T : Txt K mg base) : ∃ fd, FunD K d_fits_by.name d_fits_by.qual d_fits_by.params d_fits_by.body d_fits_by.scope [] [] (He.fAd K d_fits_by.at_) fd := T.c.def_ 36 (d := d_fits_by) rfl
theorem Txt.fd_is_stuck (T : Txt K mg base) : ∃ fd, FunD K d_is_stuck.name d_is_stuck.qual d_is_stuck.params d_is_stuck.body d_is_stuck.scope [] [] (He.fAd K d_is_stuck.at_) fd := T.c.def_ 37 (d := d_is_stuck) rfl
theorem Txt.fd_sent_by (T : Txt K mg base) : ∃ fd, FunD K d_sent_by.name d_sent_by.qual d_sent_by.params d_sent_by.body d_sent_by.scope [] [] (He.fAd K d_sent_by.at_) fd := T.c.def_ 38 (d := d_sent_by) rfl
theorem Txt.fd_cut (T : Txt K mg base) : ∃ fd, FunD K d_cut.name d_cut.qual d_cut.params d_cut.body d_cut.scope [] [] (He.fAd K d_cut.at_) fd := T.c.def_ 39 (d := d_cut) rfl
theorem Txt.fd_piece_bytes (T : Txt K mg base) : ∃ fd, FunD K d_piece_bytes.name d_piece_bytes.qual d_piece_bytes.params d_piece_bytes.body d_piece_bytes.scope [] [] (He.fAd K d_piece_bytes.at_) fd := T.c.def_ 40 (d := d_piece_bytes) rfl
theorem Txt.fd_answer_error (T : Txt K mg base) : ∃ fd, FunD K d_answer_error.name d_answer_error.qual d_answer_error.params d_answer_error.body d_answer_error.scope [] [] (He.fAd K d_answer_error.at_) fd := T.c.def_ 41 (d := d_answer_error) rfl
theorem Txt.fd_is_kind (T : Txt K mg base) : ∃ fd, FunD K d_is_kind.name d_is_kind.qual d_is_kind.params d_is_kind.body d_is_kind.scope [] [] (He.fAd K d_is_kind.at_) fd := T.c.def_ 42 (d := d_is_kind) rfl
theorem Txt.fd_is_number (T : Txt K mg base) : ∃ fd, FunD K d_is_number.name d_is_number.qual d_is_number.params d_is_number.body d_is_number.scope [] [] (He.fAd K d_is_number.at_) fd := T.c.def_ 43 (d := d_is_number) rfl
theorem Txt.fd_error_back (T : Txt K mg base) : ∃ fd, FunD K d_error_back.name d_error_back.qual d_error_back.params d_error_back.body d_error_back.scope [] [] (He.fAd K d_error_back.at_) fd := T.c.def_ 44 (d := d_error_back) rfl
theorem Txt.fd_error_head (T : Txt K mg base) : ∃ fd, FunD K d_error_head.name d_error_head.qual d_error_head.params d_error_head.body d_error_head.scope [] [] (He.fAd K d_error_head.at_) fd := T.c.def_ 45 (d := d_error_head) rfl
theorem Txt.fd_error_body (T : Txt K mg base) : ∃ fd, FunD K d_error_body.name d_error_body.qual d_error_body.params d_error_body.body d_error_body.scope [] [] (He.fAd K d_error_body.at_) fd := T.c.def_ 46 (d := d_error_body) rfl
theorem Txt.fd_is_right_error (T : Txt K mg base) : ∃ fd, FunD K d_is_right_error.name d_is_right_error.qual d_is_right_error.params d_is_right_error.body d_is_right_error.scope [] [] (He.fAd K d_is_right_error.at_) fd := T.c.def_ 47 (d := d_is_right_error) rfl
theorem Txt.fd_Piece__init (T : Txt K mg base) : ∃ fd, FunD K d_Piece__init.name d_Piece__init.qual d_Piece__init.params d_Piece__init.body d_Piece__init.scope [] [] (He.fAd K d_Piece__init.at_) fd := T.c.def_ 48 (d := d_Piece__init) rfl
theorem Txt.fd_Gathering__init (T : Txt K mg base) : ∃ fd, FunD K d_Gathering__init.name d_Gathering__init.qual d_Gathering__init.params d_Gathering__init.body d_Gathering__init.scope [] [] (He.fAd K d_Gathering__init.at_) fd := T.c.def_ 49 (d := d_Gathering__init) rfl
theorem Txt.fd_gathering_key (T : Txt K mg base) : ∃ fd, FunD K d_gathering_key.name d_gathering_key.qual d_gathering_key.params d_gathering_key.body d_gathering_key.scope [] [] (He.fAd K d_gathering_key.at_) fd := T.c.def_ 50 (d := d_gathering_key) rfl
theorem Txt.fd_gathering_for (T : Txt K mg base) : ∃ fd, FunD K d_gathering_for.name d_gathering_for.qual d_gathering_for.params d_gathering_for.body d_gathering_for.scope [] [] (He.fAd K d_gathering_for.at_) fd := T.c.def_ 51 (d := d_gathering_for) rfl
theorem Txt.fd_end_gathering (T : Txt K mg base) : ∃ fd, FunD K d_end_gathering.name d_end_gathering.qual d_end_gathering.params d_end_gathering.body d_end_gathering.scope [] [] (He.fAd K d_end_gathering.at_) fd := T.c.def_ 52 (d := d_end_gathering) rfl
theorem Txt.fd_spoil (T : Txt K mg base) : ∃ fd, FunD K d_spoil.name d_spoil.qual d_spoil.params d_spoil.body d_spoil.scope [] [] (He.fAd K d_spoil.at_) fd := T.c.def_ 53 (d := d_spoil) rfl
theorem Txt.fd_is_there (T : Txt K mg base) : ∃ fd, FunD K d_is_there.name d_is_there.qual d_is_there.params d_is_there.body d_is_there.scope [] [] (He.fAd K d_is_there.at_) fd := T.c.def_ 54 (d := d_is_there) rfl
theorem Txt.fd_is_same (T : Txt K mg base) : ∃ fd, FunD K d_is_same.name d_is_same.qual d_is_same.params d_is_same.body d_is_same.scope [] [] (He.fAd K d_is_same.at_) fd := T.c.def_ 55 (d := d_is_same) rfl
theorem Txt.fd_is_spoiled_by (T : Txt K mg base) : ∃ fd, FunD K d_is_spoiled_by.name d_is_spoiled_by.qual d_is_spoiled_by.params d_is_spoiled_by.body d_is_spoiled_by.scope [] [] (He.fAd K d_is_spoiled_by.at_) fd := T.c.def_ 56 (d := d_is_spoiled_by) rfl
theorem Txt.fd_lies_over (T : Txt K mg base) : ∃ fd, FunD K d_lies_over.name d_lies_over.qual d_lies_over.params d_lies_over.body d_lies_over.scope [] [] (He.fAd K d_lies_over.at_) fd := T.c.def_ 57 (d := d_lies_over) rfl
theorem Txt.fd_is_against_end (T : Txt K mg base) : ∃ fd, FunD K d_is_against_end.name d_is_against_end.qual d_is_against_end.params d_is_against_end.body d_is_against_end.scope [] [] (He.fAd K d_is_against_end.at_) fd := T.c.def_ 58 (d := d_is_against_end) rfl
theorem Txt.fd_is_all_there (T : Txt K mg base) : ∃ fd, FunD K d_is_all_there.name d_is_all_there.qual d_is_all_there.params d_is_all_there.body d_is_all_there.scope [] [] (He.fAd K d_is_all_there.at_) fd := T.c.def_ 59 (d := d_is_all_there) rfl
theorem Txt.fd_whole_body (T : Txt K mg base) : ∃ fd, FunD K d_whole_body.name d_whole_body.qual d_whole_body.params d_whole_body.body d_whole_body.scope [] [] (He.fAd K d_whole_body.at_) fd := T.c.def_ 60 (d := d_whole_body) rfl
theorem Txt.fd_first_piece (T : Txt K mg base) : ∃ fd, FunD K d_first_piece.name d_first_piece.qual d_first_piece.params d_first_piece.body d_first_piece.scope [] [] (He.fAd K d_first_piece.at_) fd := T.c.def_ 61 (d := d_first_piece) rfl
theorem Txt.fd_answer_take (T : Txt K mg base) : ∃ fd, FunD K d_answer_take.name d_answer_take.qual d_answer_take.params d_answer_take.body d_answer_take.scope [] [] (He.fAd K d_answer_take.at_) fd := T.c.def_ 62 (d := d_answer_take) rfl
theorem Txt.fd_take_packet (T : Txt K mg base) : ∃ fd, FunD K d_take_packet.name d_take_packet.qual d_take_packet.params d_take_packet.body d_take_packet.scope [] [] (He.fAd K d_take_packet.at_) fd := T.c.def_ 63 (d := d_take_packet) rfl
theorem Txt.fd_take_whole (T : Txt K mg base) : ∃ fd, FunD K d_take_whole.name d_take_whole.qual d_take_whole.params d_take_whole.body d_take_whole.scope [] [] (He.fAd K d_take_whole.at_) fd := T.c.def_ 64 (d := d_take_whole) rfl
theorem Txt.fd_take_piece (T : Txt K mg base) : ∃ fd, FunD K d_take_piece.name d_take_piece.qual d_take_piece.params d_take_piece.body d_take_piece.scope [] [] (He.fAd K d_take_piece.at_) fd := T.c.def_ 65 (d := d_take_piece) rfl
theorem Txt.fd_take_for_others (T : Txt K mg base) : ∃ fd, FunD K d_take_for_others.name d_take_for_others.qual d_take_for_others.params d_take_for_others.body d_take_for_others.scope [] [] (He.fAd K d_take_for_others.at_) fd := T.c.def_ 66 (d := d_take_for_others) rfl
theorem Txt.fd_answer_tick (T : Txt K mg base) : ∃ fd, FunD K d_answer_tick.name d_answer_tick.qual d_answer_tick.params d_answer_tick.body d_answer_tick.scope [] [] (He.fAd K d_answer_tick.at_) fd := T.c.def_ 67 (d := d_answer_tick) rfl
theorem Txt.fd_given_up (T : Txt K mg base) : ∃ fd, FunD K d_given_up.name d_given_up.qual d_given_up.params d_given_up.body d_given_up.scope [] [] (He.fAd K d_given_up.at_) fd := T.c.def_ 68 (d := d_given_up) rfl
theorem Txt.fd_answer_told (T : Txt K mg base) : ∃ fd, FunD K d_answer_told.name d_answer_told.qual d_answer_told.params d_answer_told.body d_answer_told.scope [] [] (He.fAd K d_answer_told.at_) fd := T.c.def_ 69 (d := d_answer_told) rfl
theorem Txt.fd_answer_send (T : Txt K mg base) : ∃ fd, FunD K d_answer_send.name d_answer_send.qual d_answer_send.params d_answer_send.body d_answer_send.scope [] [] (He.fAd K d_answer_send.at_) fd := T.c.def_ 70 (d := d_answer_send) rfl
theorem Txt.fd_is_sender (T : Txt K mg base) : ∃ fd, FunD K d_is_sender.name d_is_sender.qual d_is_sender.params d_is_sender.body d_is_sender.scope [] [] (He.fAd K d_is_sender.at_) fd := T.c.def_ 71 (d := d_is_sender) rfl
theorem Txt.fd_is_link_or_none (T : Txt K mg base) : ∃ fd, FunD K d_is_link_or_none.name d_is_link_or_none.qual d_is_link_or_none.params d_is_link_or_none.body d_is_link_or_none.scope [] [] (He.fAd K d_is_link_or_none.at_) fd := T.c.def_ 72 (d := d_is_link_or_none) rfl
theorem Txt.fd_send_by_link (T : Txt K mg base) : ∃ fd, FunD K d_send_by_link.name d_send_by_link.qual d_send_by_link.params d_send_by_link.body d_send_by_link.scope [] [] (He.fAd K d_send_by_link.at_) fd := T.c.def_ 73 (d := d_send_by_link) rfl
theorem Txt.fd_send_by_way (T : Txt K mg base) : ∃ fd, FunD K d_send_by_way.name d_send_by_way.qual d_send_by_way.params d_send_by_way.body d_send_by_way.scope [] [] (He.fAd K d_send_by_way.at_) fd := T.c.def_ 74 (d := d_send_by_way) rfl
theorem Txt.fd_send_upward (T : Txt K mg base) : ∃ fd, FunD K d_send_upward.name d_send_upward.qual d_send_upward.params d_send_upward.body d_send_upward.scope [] [] (He.fAd K d_send_upward.at_) fd := T.c.def_ 75 (d := d_send_upward) rfl
theorem Txt.fd_answer_new (T : Txt K mg base) : ∃ fd, FunD K d_answer_new.name d_answer_new.qual d_answer_new.params d_answer_new.body d_answer_new.scope [] [] (He.fAd K d_answer_new.at_) fd := T.c.def_ 76 (d := d_answer_new) rfl
theorem Txt.fd_answer_link (T : Txt K mg base) : ∃ fd, FunD K d_answer_link.name d_answer_link.qual d_answer_link.params d_answer_link.body d_answer_link.scope [] [] (He.fAd K d_answer_link.at_) fd := T.c.def_ 77 (d := d_answer_link) rfl
theorem Txt.fd_is_link_setting (T : Txt K mg base) : ∃ fd, FunD K d_is_link_setting.name d_is_link_setting.qual d_is_link_setting.params d_is_link_setting.body d_is_link_setting.scope [] [] (He.fAd K d_is_link_setting.at_) fd := T.c.def_ 78 (d := d_is_link_setting) rfl
theorem Txt.fd_answer_pass (T : Txt K mg base) : ∃ fd, FunD K d_answer_pass.name d_answer_pass.qual d_answer_pass.params d_answer_pass.body d_answer_pass.scope [] [] (He.fAd K d_answer_pass.at_) fd := T.c.def_ 79 (d := d_answer_pass) rfl
theorem Txt.fd_answers (T : Txt K mg base) : ∃ fd, FunD K d_answers.name d_answers.qual d_answers.params d_answers.body d_answers.scope [] [] (He.fAd K d_answers.at_) fd := T.c.def_ 80 (d := d_answers) rfl
theorem Txt.fd_end_of_call (T : Txt K mg base) : ∃ fd, FunD K d_end_of_call.name d_end_of_call.qual d_end_of_call.params d_end_of_call.body d_end_of_call.scope [] [] (He.fAd K d_end_of_call.at_) fd := T.c.def_ 81 (d := d_end_of_call) rfl
theorem Txt.fd_answer_to (T : Txt K mg base) : ∃ fd, FunD K d_answer_to.name d_answer_to.qual d_answer_to.params d_answer_to.body d_answer_to.scope [] [] (He.fAd K d_answer_to.at_) fd := T.c.def_ 82 (d := d_answer_to) rfl
end
end Lp
set_option maxHeartbeats 400000000
namespace Lp
open PySem PySem.Spec PyProof.Rows L2
open PySem.W HandSHeadRun
abbrev RR : PySem.W.OpenSpec := PySem.Challenge.rw_linkpieces_s01_answers
/-- where the things of the top lie that the facts speak of -/
def hd_adr : List Addr := ([3, 71, 162, 183, 218, 419, 440, 70, 161, 182, 217, 418, 439, 68, 159, 180, 201, 208, 215, 416, 437, 649, 650, 21, 28, 35, 42, 47, 54, 82] : List Addr) ++ ([89, 96, 103, 110, 117, 124, 131, 138, 145, 229, 234, 241, 248, 255, 262, 269, 276, 283, 290, 297, 304, 311, 318, 325, 332, 339, 346, 353, 360, 367] : List Addr) ++ ([374, 381, 388, 395, 402, 451, 458, 465, 472, 477, 484, 489, 496, 503, 508, 515, 522, 529, 536, 543, 550, 557, 564, 571, 578, 585, 592, 599, 606, 613] : List Addr) ++ ([620, 627, 634, 641, 648, 657, 664, 671, 67, 158, 179, 200, 207, 214, 415, 436, 20, 27, 34, 41, 46, 53, 81, 88, 95, 102, 109, 116, 123, 130] : List Addr) ++ ([137, 144, 228, 233, 240, 247, 254, 261, 268, 275, 282, 289, 296, 303, 310, 317, 324, 331, 338, 345, 352, 359, 366, 373, 380, 387, 394, 401, 450, 457] : List Addr) ++ ([464, 471, 476, 483, 488, 495, 502, 507, 514, 521, 528, 535, 542, 549, 556, 563, 570, 577, 584, 591, 598, 605, 612, 619, 626, 633, 640, 647, 656, 663] : List Addr) ++ ([670] : List Addr)
def hd_K (g : Addr → Option Obj) : PySem.W.Frag := He.frT g hd_adr
def hd_see (g : Addr → Option Obj) : He.AlX := (He.obsT fa fn [] (hd_K g), exB (hd_K g) && He.tabsB g [lamD] (hd_K g))
theorem hd_says {w : World} {h : Heap} (e : hd_see h.get? = He.valX fn [] w) : He.SaysX fa fn [] [lamD] exB w h (hd_K h.get?) := by
  have a := congrArg Prod.fst e
  have b : (exB (hd_K h.get?) && He.tabsB h.get? [lamD] (hd_K h.get?)) = true := congrArg Prod.snd e
  obtain ⟨b1, b2⟩ := He.ba b
  obtain ⟨c1, c2⟩ := He.ba (List.all_eq_true.mp b2 lamD (List.mem_singleton.mpr rfl))
  cases z : h.get? (He.cT (hd_K h.get?) lamD).2 with
  | none =>
    rw [z] at c2
    cases c2
  | some o =>
    rw [z] at c2
    refine ⟨a, b1, fun p hp => ?_, fun p hp => ?_, fun p hp => ?_⟩
    · obtain rfl := List.mem_singleton.mp hp
      exact c1
    · obtain rfl := List.mem_singleton.mp hp
      exact He.frT_none z c2
    · obtain rfl := List.mem_singleton.mp hp
      rw [z, He.emptyTab_eq c2]
/-- my own Hook: as hookX, the addresses written out -/
def hk : PySem.W.Hook where
  α := He.AlX
  obs := fun s => hd_see s.heap.get?
  val := fun w => He.valX fn [] w
  says := fun w h => ∃ K : PySem.W.Frag, K.In h ∧ He.SaysX fa fn [] [lamD] exB w h K
  of := fun _ _ e => ⟨hd_K _, He.frT_in, hd_says e⟩
  keeps := fun w h h' ⟨K, i, c⟩ k => ⟨K, PySem.W.Frag.In.keeps i k, c.t, c.more, c.hd, c.out, fun p hp => k _ _ (c.empty p hp)⟩
def ob (s : PySem.W.SharedT) : He.AlX := hd_see (HandSHeadRun.getT s)
theorem ob_eq (s : PySem.W.SharedT) : ob s = hk.obs s.abs := congrArg hd_see (funext (HandSHeadRun.getT_eq s))
def loose : List PySem.Str := (["NOBODY", "EVERYBODY", "ADDRESS_BITS", "is_one_machine", "is_bit_count", "first_bits", "MOST_OF_TWO", "number_at", "as_bytes", "sum_of", "HEAD_LENGTH", "MOST_LENGTH", "MOST_BODY", "FIRST_BYTE", "MOST_HOPS", "ERROR_heads", "MOST_WHAT", "MORE_FOLLOW", "UNCUT", "Head", "head_bytes", "read_head", "is_right_head", "is_right_length", "is_hops", "is_what", "is_to", "has_more", "is_uncut", "is_piece"] : List PySem.Str) ++ (["LINK_COUNT", "NAME_COUNT", "Link", "Way", "Machine", "is_link_number", "is_own_address", "is_for_machine", "WRONG_ARGUMENTS", "NOT_THERE", "NOT_AS_TOLD", "NOT_NOW", "NO_ROOM", "TOO_LONG", "MOST_WAYS", "answer_way", "answer_away", "answer_best", "is_way_start", "is_way_end", "next_address", "own_way", "way_to", "way_with_bits", "UPWARD", "SENT", "NO_LINK", "told_upward", "told_sent", "fits_by"] : List PySem.Str) ++ (["is_stuck", "sent_by", "cut", "piece_bytes", "NO_WAY", "HOPS_USED_UP", "DOES_NOT_FIT", "PIECES_MISSING", "MOST_NUMBER", "ERROR_HOPS", "ABOUT_LENGTH", "FRONT_LENGTH", "answer_error", "is_kind", "is_number", "error_back", "error_head", "error_body", "is_right_error", "MOST_GATHERINGS", "Piece", "Gathering", "gathering_key", "gathering_for", "end_gathering", "spoil", "is_there", "is_same", "is_spoiled_by", "lies_over"] : List PySem.Str) ++ (["is_against_end", "is_all_there", "whole_body", "first_piece", "TOLD_UPWARD", "PASSED_ON", "KEPT", "ERROR_BACK", "DROPPED", "answer_take", "take_packet", "take_whole", "take_piece", "take_for_others", "PATIENCE", "answer_tick", "given_up", "answer_told", "BY_WAY", "answer_send", "is_sender", "is_link_or_none", "send_by_link", "send_by_way", "send_upward", "LEAST_FITS", "MOST_FITS", "answer_new", "answer_link", "is_link_setting"] : List PySem.Str) ++ (["answer_pass", "NEW", "LINK", "PASS", "WAY", "AWAY", "BEST", "SEND", "TAKE", "ERROR_desk", "TICK", "NUMBERS_BEHIND", "WITH_ROW", "end_of_call", "answer_to"] : List PySem.Str)
abbrev iAns : Nat := 146
abbrev steps : Nat := 12000
abbrev wF (w : World) : World := w.withFollow "special-get-raises" false
abbrev wT (w : World) : World := w.withFollow "special-get-raises" true
noncomputable abbrev hd_run (w : World) (os : OsState) := endF (stepQ (denQ tabQ) RR.prog w) steps RR.prog w os
abbrev hd_q : Program := PySem.W.view RR.prog [iAns]
theorem hd_join {A B C D : Type} {x : Option A} {f : A → B} {g : A → C} {h : A → D} {b : B} {c : C} {d : D} (h1 : x.map (fun s => (f s, g s)) = some (b, c)) (h2 : x.map h = some d) : x.map (fun s => (f s, g s, h s)) = some (b, c, d) := by
  cases x with
  | none => cases h2
  | some s =>
    cases h1
    cases h2
    rfl
theorem runF1 (w : World) (os : OsState) : (hd_run (wF w) os).map (fun s => (looksF RR.prog (boot_heap (wF w).params) s.abs, seenQ hd_q loose (importedModules RR.prog.main.body) (fun s => xlAt hd_q [] s && recOk [] s) s.abs)) = some (true, openGood hd_q loose) := by kernel_rfl
theorem runF2 (w : World) (os : OsState) : (hd_run (wF w) os).map (fun s => ob s) = some (hk.val (wF w)) := by kernel_rfl
theorem runT1 (w : World) (os : OsState) : (hd_run (wT w) os).map (fun s => (looksF RR.prog (boot_heap (wT w).params) s.abs, seenQ hd_q loose (importedModules RR.prog.main.body) (fun s => xlAt hd_q [] s && recOk [] s) s.abs)) = some (true, openGood hd_q loose) := by kernel_rfl
theorem runT2 (w : World) (os : OsState) : (hd_run (wT w) os).map (fun s => ob s) = some (hk.val (wT w)) := by kernel_rfl
theorem run : ∀ w : World, HandSHeadRun.RunEqS RR (PySem.W.view RR.prog [iAns]) hk ob steps loose w := PySem.W.byRow2 "special-get-raises" (fun w os => hd_join (runF1 w os) (runF2 w os)) (fun w os => hd_join (runT1 w os) (runT2 w os))
end Lp
/-! The way to an address: the specification's fold is a search by bits, from 32 down, links' own ahead of told ways. -/
namespace Lp
def fb (a b : Nat) : Nat := a / 2 ^ (32 - b) * 2 ^ (32 - b)
theorem fb_eq_iff (a j : Nat) : a / 2 ^ j * 2 ^ j = a ↔ a % 2 ^ j = 0 := by
  have h := Nat.div_add_mod a (2 ^ j)
  rw [Nat.mul_comm] at h
  omega
theorem fb_inj {a b j : Nat} : a / 2 ^ j * 2 ^ j = b / 2 ^ j * 2 ^ j ↔ a / 2 ^ j = b / 2 ^ j := by
  constructor
  · intro h
    exact Nat.eq_of_mul_eq_mul_right (Nat.pow_pos (by decide)) h
  · intro h
    rw [h]
theorem agree_fb (a b bits : Nat) : Sv62.agree a b bits = decide (fb b bits = fb a bits) := by
  unfold Sv62.agree fb
  rw [Bool.eq_iff_iff, beq_iff_eq, decide_eq_true_iff, fb_inj]
  exact eq_comm
/-- what must hold of a machine's state -/
structure Good (n : Sv62.Net) : Prop where
  len : n.links.length = 4
  lok : ∀ l, some l ∈ n.links → 1 ≤ l.address ∧ l.address < 4294967295 ∧ l.bits ≤ 32 ∧ 68 ≤ l.fits ∧ l.fits ≤ 1500
  wok : ∀ w ∈ n.ways, w.address < 4294967296 ∧ w.bits ≤ 32 ∧ w.address % 2 ^ (32 - w.bits) = 0 ∧ w.link < 4 ∧ w.next < 4294967295
  wnd : (n.ways.map fun w => (w.address, w.bits)).Nodup
  wfew : n.ways.length ≤ 256
/-- a way as the program hands it on: bits, link, next -/
abbrev Way3 := Nat × Nat × Nat
def linkHit (n : Sv62.Net) (a b k : Nat) : Bool := match n.link k with
  | some l => decide (l.bits = b) && decide (fb l.address b = fb a b)
  | none => false
/-- a told way that leads there -/
def toldHit (n : Sv62.Net) (a : Nat) (w : Sv62.Way) : Bool := (n.link w.link).isSome && Sv62.agree a w.address w.bits
def keyHit (a b : Nat) (w : Sv62.Way) : Bool := decide (w.address = fb a b) && decide (w.bits = b)
def wayAt (n : Sv62.Net) (a b : Nat) : Option Way3 := match (List.range 4).find? (linkHit n a b) with
  | some k => some (b, k, 0)
  | none => match n.ways.find? (keyHit a b) with
    | some w => if (n.link w.link).isSome = true then some (w.bits, w.link, w.next) else none
    | none => none
def three (w : Sv62.Way) : Way3 := (w.bits, w.link, w.next)
/-- the one with the most bits, the first of these -/
def pick (m : Option Sv62.Way) (w : Sv62.Way) : Option Sv62.Way := match m with
  | some x => if x.bits < w.bits then some w else some x
  | none => some w
theorem pick_some : ∀ (l : List Sv62.Way) (x : Sv62.Way), ∃ y, l.foldl pick (some x) = some y ∧ x.bits ≤ y.bits ∧ (∀ z ∈ l, z.bits ≤ y.bits) ∧ (y = x ∨ (x.bits < y.bits ∧ l.find? (fun w => decide (w.bits = y.bits)) = some y))
  | [], x => ⟨x, rfl, Nat.le_refl _, (fun _ h => nomatch h), .inl rfl⟩
  | w :: l, x => by
    by_cases c : x.bits < w.bits
    · obtain ⟨y, e, h1, h2, h3⟩ := pick_some l w
      refine ⟨y, ?_, by omega, ?_, .inr ⟨by omega, ?_⟩⟩
      · rw [List.foldl_cons]
        show l.foldl pick (if x.bits < w.bits then some w else some x) = _
        rw [if_pos c]
        exact e
      · intro z hz
        rcases List.mem_cons.mp hz with rfl | hz
        · exact h1
        · exact h2 z hz
      · rcases h3 with rfl | ⟨h4, h5⟩
        · rw [List.find?_cons_of_pos]
          exact decide_eq_true rfl
        · rw [List.find?_cons_of_neg]
          · exact h5
          · simp only [decide_eq_true_iff]
            omega
    · obtain ⟨y, e, h1, h2, h3⟩ := pick_some l x
      refine ⟨y, ?_, h1, ?_, ?_⟩
      · rw [List.foldl_cons]
        show l.foldl pick (if x.bits < w.bits then some w else some x) = _
        rw [if_neg c]
        exact e
      · intro z hz
        rcases List.mem_cons.mp hz with rfl | hz
        · omega
        · exact h2 z hz
      · rcases h3 with rfl | ⟨h4, h5⟩
        · exact .inl rfl
        · refine .inr ⟨h4, ?_⟩
          rw [List.find?_cons_of_neg]
          · exact h5
          · simp only [decide_eq_true_iff]
            omega
theorem pick_none (l : List Sv62.Way) : (l = [] ∧ l.foldl pick none = none) ∨ ∃ y, l.foldl pick none = some y ∧ (∀ z ∈ l, z.bits ≤ y.bits) ∧ l.find? (fun w => decide (w.bits = y.bits)) = some y := by
  cases l with
  | nil => exact .inl ⟨rfl, rfl⟩
  | cons x l =>
    obtain ⟨y, e, h1, h2, h3⟩ := pick_some l x
    refine .inr ⟨y, e, ?_, ?_⟩
    · intro z hz
      rcases List.mem_cons.mp hz with rfl | hz
      · exact h1
      · exact h2 z hz
    · rcases h3 with rfl | ⟨h4, h5⟩
      · rw [List.find?_cons_of_pos]
        exact decide_eq_true rfl
      · rw [List.find?_cons_of_neg]
        · exact h5
        · simp only [decide_eq_true_iff]
          omega
/-- the search by bits, from 32 - o down -/
def searchFrom (g : Nat → Option Way3) : Nat → Nat → Option Way3
  | 0, _ => none
  | k + 1, o => match g (32 - o) with
    | some w => some w
    | none => searchFrom g k (o + 1)
theorem searchFrom_none {g : Nat → Option Way3} : ∀ (k o : Nat), (∀ b, g b = none) → searchFrom g k o = none
  | 0, _, _ => rfl
  | k + 1, o, h => by
    unfold searchFrom
    rw [h]
    exact searchFrom_none k (o + 1) h
theorem searchFrom_some {g : Nat → Option Way3} {b : Nat} {w : Way3} (hb : b ≤ 32) (hg : g b = some w) (hn : ∀ c, b < c → g c = none) : ∀ (k o : Nat), o ≤ 32 - b → 32 - b < o + k → searchFrom g k o = some w
  | 0, o, h1, h2 => by omega
  | k + 1, o, h1, h2 => by
    unfold searchFrom
    by_cases c : o = 32 - b
    · rw [c, show 32 - (32 - b) = b by omega, hg]
    · rw [hn (32 - o) (by omega)]
      exact searchFrom_some hb hg hn k (o + 1) (by omega) (by omega)
theorem best_is_pick (n : Sv62.Net) (a : Nat) : n.best a = (n.leads a).foldl pick none := rfl
theorem link_mem {n : Sv62.Net} {k : Nat} {l : Sv62.Link} (h : n.link k = some l) : some l ∈ n.links := by
  unfold Sv62.Net.link at h
  rw [List.getD_eq_getElem?_getD] at h
  cases e : n.links[k]? with
  | none =>
    rw [e] at h
    cases h
  | some o =>
    rw [e] at h
    have h2 : o = some l := h
    rw [← h2]
    exact List.mem_of_getElem? e
def ownWay (n : Sv62.Net) (k : Nat) : Option Sv62.Way := (n.link k).map fun l => (⟨l.address, l.bits, k, 0⟩ : Sv62.Way)
theorem find_own (n : Sv62.Net) (a b : Nat) : ∀ ks : List Nat, (((ks.filterMap (ownWay n)).filter (fun w => Sv62.agree a w.address w.bits)).find? (fun w => decide (w.bits = b))).map three = (ks.find? (linkHit n a b)).map (fun k => (b, k, 0))
  | [] => rfl
  | k :: ks => by
    have ih := find_own n a b ks
    cases e : n.link k with
    | none =>
      have h1 : ownWay n k = none := by unfold ownWay; rw [e]; rfl
      have h2 : linkHit n a b k = false := by unfold linkHit; rw [e]
      rw [List.filterMap_cons_none h1, List.find?_cons_of_neg (by rw [h2]; decide)]
      exact ih
    | some l =>
      have h1 : ownWay n k = some ⟨l.address, l.bits, k, 0⟩ := by unfold ownWay; rw [e]; rfl
      have h2 : linkHit n a b k = (decide (l.bits = b) && decide (fb l.address b = fb a b)) := by unfold linkHit; rw [e]
      rw [List.filterMap_cons_some h1]
      by_cases c1 : Sv62.agree a l.address l.bits = true
      · rw [List.filter_cons_of_pos (by exact c1)]
        by_cases c2 : l.bits = b
        · rw [List.find?_cons_of_pos (by simp only [decide_eq_true_iff]; exact c2)]
          have c3 : linkHit n a b k = true := by
            rw [h2, Bool.and_eq_true, decide_eq_true_iff, decide_eq_true_iff]
            rw [agree_fb, decide_eq_true_iff, c2] at c1
            exact ⟨c2, c1⟩
          rw [List.find?_cons_of_pos c3]
          show some (l.bits, k, 0) = some (b, k, 0)
          rw [c2]
        · rw [List.find?_cons_of_neg (by simp only [decide_eq_true_iff]; exact c2)]
          have c3 : linkHit n a b k = false := by
            rw [h2, decide_eq_false c2, Bool.false_and]
          rw [List.find?_cons_of_neg (by rw [c3]; decide)]
          exact ih
      · rw [List.filter_cons_of_neg (by exact c1)]
        have c3 : ¬ linkHit n a b k = true := by
          rw [h2, Bool.and_eq_true, decide_eq_true_iff, decide_eq_true_iff]
          rintro ⟨c4, c5⟩
          apply c1
          rw [agree_fb, decide_eq_true_iff, c4]
          exact c5
        rw [List.find?_cons_of_neg c3]
        exact ih
theorem find_told (n : Sv62.Net) (a b : Nat) : ∀ ws : List Sv62.Way, (∀ w ∈ ws, w.address % 2 ^ (32 - w.bits) = 0) → (ws.map fun w => (w.address, w.bits)).Nodup →
    ((ws.filter (toldHit n a)).find? (fun w => decide (w.bits = b))).map three =
      (match ws.find? (keyHit a b) with
        | some w => if (n.link w.link).isSome = true then some (three w) else none
        | none => none)
  | [], _, _ => rfl
  | w :: ws, hok, hnd => by
    have ih := find_told n a b ws (fun x hx => hok x (List.mem_cons_of_mem _ hx)) (List.nodup_cons.mp hnd).2
    have hw := hok w (List.mem_cons_self ..)
    by_cases c2 : w.bits = b
    · by_cases c1 : w.address = fb a b
      · -- this is the one of the key
        rw [List.find?_cons_of_pos (p := keyHit a b) (by unfold keyHit; rw [decide_eq_true c1, decide_eq_true c2]; rfl)]
        have ag : Sv62.agree a w.address w.bits = true := by
          have e1 : fb w.address b = w.address := by
            unfold fb
            rw [fb_eq_iff, ← c2]
            exact hw
          rw [agree_fb, decide_eq_true_iff, c2, e1]
          exact c1
        cases on : (n.link w.link).isSome with
        | true =>
          rw [List.filter_cons_of_pos (p := toldHit n a) (by unfold toldHit; rw [on, ag]; rfl), List.find?_cons_of_pos (by simp only [decide_eq_true_iff]; exact c2)]
          simp only [on, if_true, Option.map_some]
        | false =>
          rw [List.filter_cons_of_neg (p := toldHit n a) (by unfold toldHit; rw [on, Bool.false_and]; decide)]
          -- no other of the same key
          have nf : (ws.filter (toldHit n a)).find? (fun w => decide (w.bits = b)) = none := by
            rw [List.find?_eq_none]
            intro x hx
            rw [List.mem_filter] at hx
            unfold toldHit at hx
            rw [Bool.and_eq_true] at hx
            obtain ⟨hx1, _, hx2⟩ := hx
            simp only [decide_eq_true_iff]
            intro hb
            have e2 : fb x.address b = x.address := by
              unfold fb
              rw [fb_eq_iff, ← hb]
              exact hok x (List.mem_cons_of_mem _ hx1)
            rw [agree_fb, decide_eq_true_iff, hb, e2] at hx2
            refine (List.nodup_cons.mp hnd).1 (List.mem_map.mpr ⟨x, hx1, ?_⟩)
            show (x.address, x.bits) = (w.address, w.bits)
            rw [hx2, hb, c1, c2]
          rw [nf]
          simp [on]
      · rw [List.find?_cons_of_neg (p := keyHit a b) (by unfold keyHit; rw [decide_eq_false c1, Bool.false_and]; decide)]
        have ag : ¬ (toldHit n a w = true) := by
          unfold toldHit
          rw [Bool.and_eq_true]
          rintro ⟨_, h⟩
          have e1 : fb w.address b = w.address := by
            unfold fb
            rw [fb_eq_iff, ← c2]
            exact hw
          rw [agree_fb, decide_eq_true_iff, c2, e1] at h
          exact c1 h
        rw [List.filter_cons_of_neg ag]
        exact ih
    · rw [List.find?_cons_of_neg (p := keyHit a b) (by unfold keyHit; rw [decide_eq_false c2, Bool.and_false]; decide)]
      by_cases c1 : toldHit n a w = true
      · rw [List.filter_cons_of_pos c1, List.find?_cons_of_neg (by simp only [decide_eq_true_iff]; exact c2)]
        exact ih
      · rw [List.filter_cons_of_neg c1]
        exact ih
theorem leads_eq (n : Sv62.Net) (a : Nat) : n.leads a = (((List.range 4).filterMap (ownWay n)).filter (fun w => Sv62.agree a w.address w.bits)) ++ n.ways.filter (toldHit n a) := rfl
theorem find_leads {n : Sv62.Net} (G : Good n) (a b : Nat) : ((n.leads a).find? (fun w => decide (w.bits = b))).map three = wayAt n a b := by
  have h1 := find_own n a b (List.range 4)
  have h2 := find_told n a b n.ways (fun w hw => (G.wok w hw).2.2.1) G.wnd
  rw [leads_eq, List.find?_append]
  unfold wayAt
  cases e : (List.range 4).find? (linkHit n a b) with
  | some k =>
    rw [e] at h1
    cases q : ((((List.range 4).filterMap (ownWay n)).filter (fun w => Sv62.agree a w.address w.bits)).find? (fun w => decide (w.bits = b))) with
    | none =>
      rw [q] at h1
      cases h1
    | some w =>
      rw [q] at h1
      rw [Option.some_or]
      exact h1
  | none =>
    rw [e] at h1
    cases q : ((((List.range 4).filterMap (ownWay n)).filter (fun w => Sv62.agree a w.address w.bits)).find? (fun w => decide (w.bits = b))) with
    | some w =>
      rw [q] at h1
      cases h1
    | none =>
      rw [Option.none_or]
      exact h2
theorem leads_bits {n : Sv62.Net} (G : Good n) {a : Nat} {w : Sv62.Way} (h : w ∈ n.leads a) : w.bits ≤ 32 := by
  rw [leads_eq, List.mem_append] at h
  rcases h with h | h
  · rw [List.mem_filter, List.mem_filterMap] at h
    obtain ⟨⟨k, _, e⟩, _⟩ := h
    unfold ownWay at e
    cases q : n.link k with
    | none =>
      rw [q] at e
      cases e
    | some l =>
      rw [q] at e
      have e2 := Option.some.inj e
      rw [← e2]
      exact (G.lok l (link_mem q)).2.2.1
  · rw [List.mem_filter] at h
    exact (G.wok w h.1).2.1
/-- THE SEARCH: best, by bits -/
theorem best_search {n : Sv62.Net} (G : Good n) (a : Nat) : (n.best a).map three = searchFrom (wayAt n a) 33 0 := by
  rw [best_is_pick]
  rcases pick_none (n.leads a) with ⟨e1, e2⟩ | ⟨y, e1, e2, e3⟩
  · rw [e2]
    refine (searchFrom_none 33 0 fun b => ?_).symm
    rw [← find_leads G, e1]
    rfl
  · rw [e1]
    have hy : y ∈ n.leads a := List.mem_of_find?_eq_some e3
    refine (searchFrom_some (b := y.bits) (leads_bits G hy) ?_ ?_ 33 0 (Nat.zero_le _) (by omega)).symm
    · rw [← find_leads G, e3]
      rfl
    · intro c hc
      rw [← find_leads G]
      cases q : (n.leads a).find? (fun w => decide (w.bits = c)) with
      | none => rfl
      | some x =>
        have hx := List.mem_of_find?_eq_some q
        have hb := List.find?_some q
        simp only [decide_eq_true_iff] at hb
        have := e2 x hx
        omega
/-- the way found: its link is on, its next in range -/
theorem wayAt_ok {n : Sv62.Net} (G : Good n) {a b : Nat} {w : Way3} (h : wayAt n a b = some w) : w.1 = b ∧ w.2.1 < 4 ∧ (n.link w.2.1).isSome = true := by
  unfold wayAt at h
  cases e : (List.range 4).find? (linkHit n a b) with
  | some k =>
    rw [e] at h
    have e2 := Option.some.inj h
    rw [← e2]
    refine ⟨rfl, List.mem_range.mp (List.mem_of_find?_eq_some e), ?_⟩
    have hk := List.find?_some e
    unfold linkHit at hk
    cases q : n.link k with
    | none =>
      rw [q] at hk
      cases hk
    | some l => rfl
  | none =>
    rw [e] at h
    cases q : n.ways.find? (keyHit a b) with
    | none =>
      rw [q] at h
      cases h
    | some x =>
      rw [q] at h
      have hx := List.mem_of_find?_eq_some q
      have hb := List.find?_some q
      unfold keyHit at hb
      rw [Bool.and_eq_true, decide_eq_true_iff, decide_eq_true_iff] at hb
      have h2 : (if (n.link x.link).isSome = true then some (x.bits, x.link, x.next) else none) = some w := h
      by_cases c : (n.link x.link).isSome = true
      · rw [if_pos c] at h2
        have e2 := Option.some.inj h2
        rw [← e2]
        exact ⟨hb.2, (G.wok x hx).2.2.2.1, c⟩
      · rw [if_neg c] at h2
        cases h2
end Lp
/-! What is asked of a list of calls, opened: how it is read call by call, its bounds, how long the answers are. -/
namespace Lp
open PySv62
abbrev Call := List (List Int)
theorem whole_id (c : Call) : whole c = c := by
  unfold whole
  split <;> rfl
theorem whole_map (l : List Call) : l.map whole = l := by
  rw [show whole = id from funext whole_id, List.map_id]
/-- reading by a list: the calls that stand in it -/
inductive Reads : List Int → List Call → Prop
  | nil : Reads [] []
  | num {p : Int} {n : Nat} {xs t : List Int} {cs : List Call} : shape p = some (n, 0) → xs.length = n → Reads t cs → Reads (p :: (xs ++ t)) ([p :: xs] :: cs)
  | row {p : Int} {n : Nat} {xs b t : List Int} {cs : List Call} : shape p = some (n, 1) → xs.length = n → Reads t cs → Reads (p :: (xs ++ (b.length : Int) :: (b ++ t))) ([p :: xs, b] :: cs)
theorem shape_rows {p : Int} {n k : Nat} (h : shape p = some (n, k)) : k = 0 ∨ k = 1 := by
  unfold shape at h
  repeat' (split at h)
  all_goals first | (injection h with h; injection h with h1 h2; omega) | cases h
theorem reads_of : ∀ (f : Nat) (l : List Int) (cs : List Call), PyFlat.calls shape f l = some cs → Reads l cs
  | f, [], cs, h => by
    have e : cs = [] := by
      cases f <;> exact (Option.some.inj h).symm
    rw [e]
    exact .nil
  | 0, p :: r, cs, h => by cases h
  | f + 1, p :: r, cs, h => by
    have h1 : (match PyFlat.call shape (p :: r) with
      | none => none
      | some (c, t) => match PyFlat.calls shape f t with
        | none => none
        | some cs => some (c :: cs)) = some cs := h
    cases e : PyFlat.call shape (p :: r) with
    | none =>
      rw [e] at h1
      cases h1
    | some ct =>
      obtain ⟨c, t⟩ := ct
      rw [e] at h1
      have h2 : (match PyFlat.calls shape f t with
        | none => none
        | some cs => some (c :: cs)) = some cs := h1
      cases e2 : PyFlat.calls shape f t with
      | none =>
        rw [e2] at h2
        cases h2
      | some rest =>
        rw [e2] at h2
        have h3 : c :: rest = cs := Option.some.inj h2
        have ih := reads_of f t rest e2
        subst h3
        have e3 : (match shape p with
          | none => none
          | some (n, k) => if r.length < n then none else match PyFlat.rows k (r.drop n) with
            | none => none
            | some (xs, t) => some ((p :: r.take n) :: xs, t)) = some (c, t) := e
        cases es : shape p with
        | none =>
          rw [es] at e3
          cases e3
        | some nk =>
          obtain ⟨n, k⟩ := nk
          rw [es] at e3
          have e4 : (if r.length < n then none else match PyFlat.rows k (r.drop n) with
            | none => none
            | some (xs, t) => some ((p :: r.take n) :: xs, t)) = some (c, t) := e3
          by_cases hl : r.length < n
          · rw [if_pos hl] at e4
            cases e4
          · rw [if_neg hl] at e4
            have hn : (r.take n).length = n := by
              rw [List.length_take]
              omega
            rcases shape_rows es with hk | hk
            · subst hk
              have e5 : some ((p :: r.take n) :: [], r.drop n) = some (c, t) := e4
              have e6 := Option.some.inj e5
              injection e6 with e7 e8
              subst e7 e8
              have er : p :: r = p :: (r.take n ++ r.drop n) := by rw [List.take_append_drop]
              rw [er]
              exact .num es hn ih
            · subst hk
              cases hd : r.drop n with
              | nil =>
                rw [hd] at e4
                cases e4
              | cons z q =>
                rw [hd] at e4
                have e5 : (match (match (if 0 ≤ z ∧ z.toNat ≤ q.length then some (q.take z.toNat, q.drop z.toNat) else none : Option (List Int × List Int)) with
                    | none => none
                    | some (x, s) => some ([x], s) : Option (List (List Int) × List Int)) with
                  | none => none
                  | some (xs, t) => some ((p :: r.take n) :: xs, t)) = some (c, t) := e4
                by_cases hz : 0 ≤ z ∧ z.toNat ≤ q.length
                · rw [if_pos hz] at e5
                  have e6 := Option.some.inj (show some ((p :: r.take n) :: [q.take z.toNat], q.drop z.toNat) = some (c, t) from e5)
                  injection e6 with e7 e8
                  subst e7 e8
                  have ql : (q.take z.toNat).length = z.toNat := by
                    rw [List.length_take]
                    omega
                  have zl : z = ((q.take z.toNat).length : Int) := by
                    rw [ql]
                    omega
                  have er : p :: r = p :: (r.take n ++ ((q.take z.toNat).length : Int) :: (q.take z.toNat ++ q.drop z.toNat)) := by
                    rw [← zl, List.take_append_drop, ← hd, List.take_append_drop]
                  rw [er]
                  exact .row es hn ih
                · rw [if_neg hz] at e5
                  cases e5
/-- a call within its bounds -/
def Inside (c : Call) : Prop := PyInside.call bound c = true
/-- what a list of calls is worth that may be handed in -/
structure Asked (ns : List Int) (cs : List Call) : Prop where
  reads : Reads ns cs
  due : answers ns = PyFlat.told (PyFlat.played Sv62Neutral.step Sv62Neutral.start cs)
  some_ : cs ≠ []
  few : cs.length ≤ 400
  inside : ∀ c ∈ cs, Inside c
  short : Sv62Neutral.answered Sv62Neutral.start cs < 1000000
theorem asked_of {ns : List Int} (h : answers_asked ns = true) : ∃ cs, Asked ns cs := by
  unfold answers_asked at h
  cases e : PyFlat.calls shape ns.length ns with
  | none =>
    rw [e] at h
    cases h
  | some raw =>
    rw [e] at h
    have h1 : (!raw.isEmpty && PyFlat.atMost 400 raw && PyInside.calls bound raw && Sv62Neutral.asked (raw.map whole)) = true := h
    rw [whole_map] at h1
    simp only [Bool.and_eq_true] at h1
    obtain ⟨⟨⟨a1, a2⟩, a3⟩, a4⟩ := h1
    have a5 : (raw.all Sv62Neutral.asked1 && (decide (1 ≤ raw.length) && (decide (raw.length ≤ 400) && decide (Sv62Neutral.answered Sv62Neutral.start raw < 1000000)))) = true := a4
    simp only [Bool.and_eq_true, decide_eq_true_eq] at a5
    refine ⟨raw, reads_of _ _ _ e, ?_, ?_, a5.2.2.1, fun c hc => List.all_eq_true.mp a3 c hc, a5.2.2.2⟩
    · unfold answers calls
      rw [e]
      show PyFlat.told (PyFlat.played Sv62Neutral.step Sv62Neutral.start (raw.map whole)) = _
      rw [whole_map]
    · intro z
      rw [z] at a5
      have := a5.2.1
      simp at this
/-! ### how long the answers are -/
theorem told_cons (a : List Int) (l : List (List Int)) : PyFlat.told (a :: l) = (a.length : Int) :: (a ++ PyFlat.told l) := by
  unfold PyFlat.told
  rw [List.flatMap_cons]
  rfl
theorem told_played_cons (s : Sv62Neutral.S) (c : Call) (cs : List Call) : PyFlat.told (PyFlat.played Sv62Neutral.step s (c :: cs)) = ((Sv62Neutral.step s c).2.length : Int) :: ((Sv62Neutral.step s c).2 ++ PyFlat.told (PyFlat.played Sv62Neutral.step (Sv62Neutral.step s c).1 cs)) := told_cons _ _
theorem told_length : ∀ (s : Sv62Neutral.S) (cs : List Call), (PyFlat.told (PyFlat.played Sv62Neutral.step s cs)).length = Sv62Neutral.answered s cs + cs.length
  | _, [] => rfl
  | s, c :: cs => by
    rw [told_played_cons, List.length_cons, List.length_append, told_length]
    show _ = (Sv62Neutral.step s c).2.length + Sv62Neutral.answered (Sv62Neutral.step s c).1 cs + (cs.length + 1)
    omega
end Lp
/-! A head byte by byte: when bytes are a packet's beginning, and what it says. -/
namespace Lp
open Sv62
theorem u8_of (x : UInt8) : UInt8.ofNat x.toNat = x := UInt8.ofNat_toNat
theorem u8_lt (x : UInt8) : x.toNat < 256 := x.toNat_lt
theorem u8_eq {x y : UInt8} : x = y ↔ x.toNat = y.toNat := ⟨fun h => by rw [h], UInt8.toNat_inj.mp⟩
theorem num1 (a : UInt8) : number [a] = a.toNat := by
  show 256 * 0 + a.toNat = a.toNat
  omega
theorem num2 (a b : UInt8) : number [a, b] = 256 * a.toNat + b.toNat := by
  show 256 * (256 * 0 + a.toNat) + b.toNat = _
  omega
theorem num4 (a b c d : UInt8) : number [a, b, c, d] = 16777216 * a.toNat + 65536 * b.toNat + 256 * c.toNat + d.toNat := by
  show 256 * (256 * (256 * (256 * 0 + a.toNat) + b.toNat) + c.toNat) + d.toNat = _
  omega
theorem high2 (x : Nat) : high 2 x = [UInt8.ofNat (x / 256 % 256), UInt8.ofNat (x % 256)] := by
  show [UInt8.ofNat (x / 256 ^ 1 % 256), UInt8.ofNat (x / 256 ^ 0 % 256)] = _
  rw [Nat.pow_one, Nat.pow_zero, Nat.div_one]
theorem high4 (x : Nat) : high 4 x = [UInt8.ofNat (x / 16777216 % 256), UInt8.ofNat (x / 65536 % 256), UInt8.ofNat (x / 256 % 256), UInt8.ofNat (x % 256)] := by
  show [UInt8.ofNat (x / 256 ^ 3 % 256), UInt8.ofNat (x / 256 ^ 2 % 256), UInt8.ofNat (x / 256 ^ 1 % 256), UInt8.ofNat (x / 256 ^ 0 % 256)] = _
  rw [Nat.pow_one, Nat.pow_zero, Nat.div_one]
theorem high_num2 (a b : UInt8) : high 2 (256 * a.toNat + b.toNat) = [a, b] := by
  have h1 := u8_lt a
  have h2 := u8_lt b
  rw [high2, show (256 * a.toNat + b.toNat) / 256 % 256 = a.toNat by omega, show (256 * a.toNat + b.toNat) % 256 = b.toNat by omega, u8_of, u8_of]
theorem high_num4 (a b c d : UInt8) : high 4 (16777216 * a.toNat + 65536 * b.toNat + 256 * c.toNat + d.toNat) = [a, b, c, d] := by
  have h1 := u8_lt a
  have h2 := u8_lt b
  have h3 := u8_lt c
  have h4 := u8_lt d
  rw [high4, show (16777216 * a.toNat + 65536 * b.toNat + 256 * c.toNat + d.toNat) / 16777216 % 256 = a.toNat by omega, show (16777216 * a.toNat + 65536 * b.toNat + 256 * c.toNat + d.toNat) / 65536 % 256 = b.toNat by omega,
    show (16777216 * a.toNat + 65536 * b.toNat + 256 * c.toNat + d.toNat) / 256 % 256 = c.toNat by omega, show (16777216 * a.toNat + 65536 * b.toNat + 256 * c.toNat + d.toNat) % 256 = d.toNat by omega, u8_of, u8_of, u8_of, u8_of]
theorem high2_eq {x : Nat} (hx : x < 65536) (a b : UInt8) : high 2 x = [a, b] ↔ 256 * a.toNat + b.toNat = x := by
  constructor
  · intro h
    rw [high2] at h
    injection h with h1 h2
    injection h2 with h2 _
    rw [← h1, ← h2, UInt8.toNat_ofNat', UInt8.toNat_ofNat']
    omega
  · intro h
    rw [← h]
    exact high_num2 a b
theorem fold3_le (s : Nat) (h : s < 65536 * 65536) : fold (fold (fold s)) ≤ 65535 := by
  unfold fold
  omega
theorem sum_lt (b : Bytes) : sum b < 65536 := by
  unfold sum
  omega
/-- the packet that a head of these bytes tells -/
def said (b1 b2 b3 b6 b7 b8 b9 b12 b13 b14 b15 b16 b17 b18 b19 : UInt8) (rest : Bytes) : Packet :=
  ⟨b1.toNat, b2.toNat, b3.toNat % 2 == 1, b3.toNat / 2 % 2 == 1, 256 * b6.toNat + b7.toNat, 256 * b8.toNat + b9.toNat, 16777216 * b12.toNat + 65536 * b13.toNat + 256 * b14.toNat + b15.toNat, 16777216 * b16.toNat + 65536 * b17.toNat + 256 * b18.toNat + b19.toNat, rest⟩
theorem flag_nat (x : Nat) : (x % 2 == 1).toNat + 2 * (x / 2 % 2 == 1).toNat = x % 4 := by
  have h1 : (x % 2 == 1).toNat = x % 2 := by
    rcases Nat.mod_two_eq_zero_or_one x with h | h <;> rw [h] <;> rfl
  have h2 : (x / 2 % 2 == 1).toNat = x / 2 % 2 := by
    rcases Nat.mod_two_eq_zero_or_one (x / 2) with h | h <;> rw [h] <;> rfl
  rw [h1, h2]
  omega
section
variable (b0 b1 b2 b3 b4 b5 b6 b7 b8 b9 b10 b11 b12 b13 b14 b15 b16 b17 b18 b19 : UInt8) (rest : Bytes)
theorem headOf_said : (said b1 b2 b3 b6 b7 b8 b9 b12 b13 b14 b15 b16 b17 b18 b19 rest).headOf (256 * b4.toNat + b5.toNat) =
    [0x51, b1, b2, UInt8.ofNat (b3.toNat % 4), b4, b5, b6, b7, b8, b9] ++ (high 2 (sum ([0x51, b1, b2, UInt8.ofNat (b3.toNat % 4), b4, b5, b6, b7, b8, b9] ++ (zeros 2 ++ [b12, b13, b14, b15, b16, b17, b18, b19]))) ++ [b12, b13, b14, b15, b16, b17, b18, b19]) := by
  unfold Packet.headOf said
  dsimp only
  rw [flag_nat, high_num2, high_num2, high_num2, high_num4, high_num4, u8_of, u8_of]
  rfl
/-- **firstOf, byte by byte** -/
theorem firstOf_bytes : firstOf (b0 :: b1 :: b2 :: b3 :: b4 :: b5 :: b6 :: b7 :: b8 :: b9 :: b10 :: b11 :: b12 :: b13 :: b14 :: b15 :: b16 :: b17 :: b18 :: b19 :: rest) =
    if b0 = 0x51 ∧ b3.toNat ≤ 3 ∧ 256 * b10.toNat + b11.toNat = sum [b0, b1, b2, b3, b4, b5, b6, b7, b8, b9, 0, 0, b12, b13, b14, b15, b16, b17, b18, b19] ∧
      (said b1 b2 b3 b6 b7 b8 b9 b12 b13 b14 b15 b16 b17 b18 b19 rest).good (256 * b4.toNat + b5.toNat) = true
    then some (said b1 b2 b3 b6 b7 b8 b9 b12 b13 b14 b15 b16 b17 b18 b19 rest, 256 * b4.toNat + b5.toNat) else none := by
  have ep : (⟨part (b0 :: b1 :: b2 :: b3 :: b4 :: b5 :: b6 :: b7 :: b8 :: b9 :: b10 :: b11 :: b12 :: b13 :: b14 :: b15 :: b16 :: b17 :: b18 :: b19 :: rest) 1 1,
      part (b0 :: b1 :: b2 :: b3 :: b4 :: b5 :: b6 :: b7 :: b8 :: b9 :: b10 :: b11 :: b12 :: b13 :: b14 :: b15 :: b16 :: b17 :: b18 :: b19 :: rest) 2 1,
      part (b0 :: b1 :: b2 :: b3 :: b4 :: b5 :: b6 :: b7 :: b8 :: b9 :: b10 :: b11 :: b12 :: b13 :: b14 :: b15 :: b16 :: b17 :: b18 :: b19 :: rest) 3 1 % 2 == 1,
      part (b0 :: b1 :: b2 :: b3 :: b4 :: b5 :: b6 :: b7 :: b8 :: b9 :: b10 :: b11 :: b12 :: b13 :: b14 :: b15 :: b16 :: b17 :: b18 :: b19 :: rest) 3 1 / 2 % 2 == 1,
      part (b0 :: b1 :: b2 :: b3 :: b4 :: b5 :: b6 :: b7 :: b8 :: b9 :: b10 :: b11 :: b12 :: b13 :: b14 :: b15 :: b16 :: b17 :: b18 :: b19 :: rest) 6 2,
      part (b0 :: b1 :: b2 :: b3 :: b4 :: b5 :: b6 :: b7 :: b8 :: b9 :: b10 :: b11 :: b12 :: b13 :: b14 :: b15 :: b16 :: b17 :: b18 :: b19 :: rest) 8 2,
      part (b0 :: b1 :: b2 :: b3 :: b4 :: b5 :: b6 :: b7 :: b8 :: b9 :: b10 :: b11 :: b12 :: b13 :: b14 :: b15 :: b16 :: b17 :: b18 :: b19 :: rest) 12 4,
      part (b0 :: b1 :: b2 :: b3 :: b4 :: b5 :: b6 :: b7 :: b8 :: b9 :: b10 :: b11 :: b12 :: b13 :: b14 :: b15 :: b16 :: b17 :: b18 :: b19 :: rest) 16 4, rest⟩ : Packet) =
      said b1 b2 b3 b6 b7 b8 b9 b12 b13 b14 b15 b16 b17 b18 b19 rest := by
    show (⟨number [b1], number [b2], number [b3] % 2 == 1, number [b3] / 2 % 2 == 1, number [b6, b7], number [b8, b9], number [b12, b13, b14, b15], number [b16, b17, b18, b19], rest⟩ : Packet) = _
    rw [num1, num1, num1, num2, num2, num4, num4]
    rfl
  have en : part (b0 :: b1 :: b2 :: b3 :: b4 :: b5 :: b6 :: b7 :: b8 :: b9 :: b10 :: b11 :: b12 :: b13 :: b14 :: b15 :: b16 :: b17 :: b18 :: b19 :: rest) 4 2 = 256 * b4.toNat + b5.toNat := num2 b4 b5
  unfold firstOf
  dsimp only
  rw [show (b0 :: b1 :: b2 :: b3 :: b4 :: b5 :: b6 :: b7 :: b8 :: b9 :: b10 :: b11 :: b12 :: b13 :: b14 :: b15 :: b16 :: b17 :: b18 :: b19 :: rest).drop 20 = rest from rfl, ep, en, headOf_said]
  have hlt := u8_lt b3
  by_cases c : b0 = 0x51 ∧ b3.toNat ≤ 3 ∧ 256 * b10.toNat + b11.toNat = sum [b0, b1, b2, b3, b4, b5, b6, b7, b8, b9, 0, 0, b12, b13, b14, b15, b16, b17, b18, b19] ∧
      (said b1 b2 b3 b6 b7 b8 b9 b12 b13 b14 b15 b16 b17 b18 b19 rest).good (256 * b4.toNat + b5.toNat) = true
  · rw [if_pos c, if_pos]
    obtain ⟨c0, c3, cs, cg⟩ := c
    refine ⟨by simp only [List.length_cons]; omega, ?_, cg⟩
    have e3 : UInt8.ofNat (b3.toNat % 4) = b3 := by
      rw [Nat.mod_eq_of_lt (by omega), u8_of]
    rw [e3, ← c0]
    have e4 : high 2 (sum ([b0, b1, b2, b3, b4, b5, b6, b7, b8, b9] ++ (zeros 2 ++ [b12, b13, b14, b15, b16, b17, b18, b19]))) = [b10, b11] := (high2_eq (sum_lt _) _ _).mpr cs
    rw [e4]
    rfl
  · rw [if_neg c, if_neg]
    rintro ⟨_, h, cg⟩
    apply c
    have h2 : [b0, b1, b2, b3, b4, b5, b6, b7, b8, b9] ++ ([b10, b11] ++ [b12, b13, b14, b15, b16, b17, b18, b19]) = [0x51, b1, b2, UInt8.ofNat (b3.toNat % 4), b4, b5, b6, b7, b8, b9] ++ (high 2 (sum ([0x51, b1, b2, UInt8.ofNat (b3.toNat % 4), b4, b5, b6, b7, b8, b9] ++ (zeros 2 ++ [b12, b13, b14, b15, b16, b17, b18, b19]))) ++ [b12, b13, b14, b15, b16, b17, b18, b19]) := h
    obtain ⟨h3, h4⟩ := List.append_inj h2 rfl
    obtain ⟨h5, _⟩ := List.append_inj h4 (by rw [high2]; rfl)
    injection h3 with k0 h3
    injection h3 with _ h3
    injection h3 with _ h3
    injection h3 with k3 _
    have e3 : b3.toNat ≤ 3 := by
      rw [k3, UInt8.toNat_ofNat']
      omega
    refine ⟨k0, e3, ?_, cg⟩
    rw [← k3, ← k0] at h5
    exact (high2_eq (sum_lt _) _ _).mp h5.symm
end
end Lp
/-! Bytes, sums, heads, cutting: the mathematics, no Python. -/
namespace Lp
open Sv62
/-! ### every second one -/
def evens {α : Type} : List α → List α
  | [] => []
  | [a] => [a]
  | a :: _ :: r => a :: evens r
theorem evens_length {α : Type} : ∀ l : List α, (evens l).length ≤ l.length
  | [] => Nat.le_refl _
  | [_] => Nat.le_refl _
  | _ :: _ :: r => by
    have := evens_length r
    simp only [evens, List.length_cons]
    omega
theorem evens_map {α β : Type} (f : α → β) : ∀ l : List α, (evens l).map f = evens (l.map f)
  | [] => rfl
  | [_] => rfl
  | a :: b :: r => by
    show f a :: (evens r).map f = f a :: evens (r.map f)
    rw [evens_map f r]
/-! ### sums -/
theorem arith5 {x y u v z : Nat} (h : u * 256 + v = z) : (x + u) * 256 + (y + v) = 256 * x + y + z := by omega
theorem sum_evens : ∀ b : Bytes, ((evens b).map UInt8.toNat).sum * 256 + ((evens (b.drop 1)).map UInt8.toNat).sum = pairs b
  | [] => rfl
  | [a] => by
    show (a.toNat + 0) * 256 + 0 = 256 * a.toNat
    omega
  | [a, b] => by
    show (a.toNat + 0) * 256 + (b.toNat + 0) = 256 * a.toNat + b.toNat + 0
    omega
  | a :: b :: c :: r => by
    have ih := sum_evens (c :: r)
    have e1 : evens (a :: b :: c :: r) = a :: evens (c :: r) := by rw [evens]
    have e2 : evens ((a :: b :: c :: r).drop 1) = b :: evens ((c :: r).drop 1) := by
      show evens (b :: c :: r) = b :: evens r
      rw [evens]
    have e3 : pairs (a :: b :: c :: r) = 256 * a.toNat + b.toNat + pairs (c :: r) := by rw [pairs]
    rw [e1, e2, List.map_cons, List.map_cons, List.sum_cons, List.sum_cons, e3]
    exact arith5 ih
theorem pairs_app : ∀ (a b : Bytes), a.length % 2 = 0 → pairs (a ++ b) = pairs a + pairs b
  | [], b, _ => by
    show pairs b = 0 + pairs b
    omega
  | [_], _, h => by simp at h
  | x :: y :: r, b, h => by
    have hr : r.length % 2 = 0 := by
      simp only [List.length_cons] at h
      omega
    have ih := pairs_app r b hr
    show 256 * x.toNat + y.toNat + pairs (r ++ b) = 256 * x.toNat + y.toNat + pairs r + pairs b
    omega
theorem pairs_zeros (z : Bytes) : pairs (zeros 2 ++ z) = pairs z := by
  show 256 * 0 + 0 + pairs z = pairs z
  omega
theorem sum_zeros {a z : Bytes} (h : a.length % 2 = 0) : sum (a ++ (zeros 2 ++ z)) = sum (a ++ z) := by
  unfold sum
  rw [pairs_app _ _ h, pairs_app _ _ h, pairs_zeros]
theorem pairs_le : ∀ b : Bytes, pairs b ≤ 65536 * b.length
  | [] => Nat.le_refl _
  | [a] => by
    have := u8_lt a
    show 256 * a.toNat ≤ 65536 * 1
    omega
  | a :: b :: r => by
    have h1 := u8_lt a
    have h2 := u8_lt b
    have ih := pairs_le r
    show 256 * a.toNat + b.toNat + pairs r ≤ 65536 * (r.length + 1 + 1)
    omega
theorem fold_lt {s : Nat} (h : 65535 < s) : fold s < s := by
  unfold fold
  omega
theorem fold_id {s : Nat} (h : s ≤ 65535) : fold s = s := by
  unfold fold
  omega
theorem fold3_fold {s : Nat} (h : s < 65536 * 65536) : fold (fold (fold (fold s))) = fold (fold (fold s)) := fold_id (fold3_le s h)
theorem fold_small {s : Nat} (h : s < 65536 * 65536) : fold s < 65536 * 65536 := by
  unfold fold
  omega
theorem fold3_id {s : Nat} (h : s ≤ 65535) : fold (fold (fold s)) = s := by rw [fold_id h, fold_id h, fold_id h]
/-! ### heads -/
structure Hd where
  hops : Nat
  what : Nat
  flags : Nat
  length : Nat
  name : Nat
  place : Nat
  sender : Nat
  to : Nat
def hdOf (p : Packet) (n : Nat) : Hd := ⟨p.hops, p.what, p.more.toNat + 2 * p.uncut.toNat, n, p.name, p.place, p.from_, p.to⟩
def Hd.front (h : Hd) : Bytes := [0x51, UInt8.ofNat h.hops, UInt8.ofNat h.what, UInt8.ofNat h.flags] ++ (high 2 h.length ++ (high 2 h.name ++ high 2 h.place))
def Hd.back (h : Hd) : Bytes := high 4 h.sender ++ high 4 h.to
def Hd.bytes (h : Hd) : Bytes := h.front ++ (high 2 (sum (h.front ++ h.back)) ++ h.back)
theorem high_len (n x : Nat) : (high n x).length = n := by
  unfold high
  rw [List.length_map, List.length_range]
theorem front_len (h : Hd) : h.front.length = 10 := by
  unfold Hd.front
  simp only [List.length_append, high_len, List.length_cons, List.length_nil]
theorem back_len (h : Hd) : h.back.length = 8 := by
  unfold Hd.back
  simp only [List.length_append, high_len]
theorem bytes_len (h : Hd) : h.bytes.length = 20 := by
  unfold Hd.bytes
  simp only [List.length_append, high_len, front_len, back_len]
theorem hdOf_bytes (p : Packet) (n : Nat) : (hdOf p n).bytes = p.headOf n := by
  have e : p.headOf n = (hdOf p n).front ++ (high 2 (sum ((hdOf p n).front ++ (zeros 2 ++ (hdOf p n).back))) ++ (hdOf p n).back) := rfl
  rw [e, sum_zeros (by rw [front_len])]
  rfl
theorem number_lt : ∀ (b : Bytes), number b < 256 ^ b.length := by
  have key : ∀ (b : Bytes) (n : Nat), b.foldl (fun n c => 256 * n + c.toNat) n < (n + 1) * 256 ^ b.length := by
    intro b
    induction b with
    | nil => intro n; simp
    | cons x r ih =>
      intro n
      have h1 := u8_lt x
      have h2 := ih (256 * n + x.toNat)
      rw [List.foldl_cons]
      refine Nat.lt_of_lt_of_le h2 ?_
      rw [List.length_cons, Nat.pow_succ, Nat.mul_comm (256 ^ r.length) 256, ← Nat.mul_assoc]
      exact Nat.mul_le_mul_right _ (by omega)
  intro b
  have := key b 0
  simpa [number] using this
theorem part_lt (b : Bytes) (i n : Nat) : part b i n < 256 ^ n := by
  unfold part
  refine Nat.lt_of_lt_of_le (number_lt _) (Nat.pow_le_pow_right (by decide) ?_)
  rw [List.length_take]
  omega
/-- the head as it's read -/
def hdRead (b : Bytes) : Hd := ⟨part b 1 1, part b 2 1, part b 3 1, part b 4 2, part b 6 2, part b 8 2, part b 12 4, part b 16 4⟩
def moreOf (f : Nat) : Bool := f % 2 == 1
def rightLen (h : Hd) : Bool := !(decide (h.length < 20) || decide (65515 < h.place * 8 + (h.length - 20))) && (!moreOf h.flags || (decide (20 < h.length) && (h.length - 20) % 8 == 0))
def rightHd (h : Hd) : Bool := !(!(decide (1 ≤ h.hops) && decide (h.hops ≤ 255)) || !(decide (1 ≤ h.what) && decide (h.what ≤ 4)) || decide (3 < h.flags)) &&
  ((decide (0 < h.sender) && decide (h.sender < 4294967295)) && ((decide (0 < h.to) && decide (h.to ≤ 4294967295)) && rightLen h))
def pkRead (b : Bytes) : Packet := ⟨part b 1 1, part b 2 1, part b 3 1 % 2 == 1, part b 3 1 / 2 % 2 == 1, part b 6 2, part b 8 2, part b 12 4, part b 16 4, b.drop 20⟩
theorem hdOf_read {b : Bytes} (h : part b 3 1 ≤ 3) : hdOf (pkRead b) (part b 4 2) = hdRead b := by
  unfold hdOf pkRead hdRead
  dsimp only
  rw [flag_nat, Nat.mod_eq_of_lt (by omega)]
theorem good_iff {b : Bytes} (h : part b 3 1 ≤ 3) : (pkRead b).good (part b 4 2) = rightHd (hdRead b) := by
  have h1 := part_lt b 1 1
  have h4 := part_lt b 4 2
  have h6 := part_lt b 6 2
  rw [Bool.eq_iff_iff]
  unfold Packet.good rightHd rightLen moreOf pkRead hdRead
  dsimp only
  generalize part b 1 1 = x1 at *
  generalize part b 2 1 = x2 at *
  generalize part b 3 1 = x3 at *
  generalize part b 4 2 = x4 at *
  generalize part b 6 2 = x6 at *
  generalize part b 8 2 = x8 at *
  generalize part b 12 4 = x12 at *
  generalize part b 16 4 = x16 at *
  unfold EVERYBODY MOST
  cases hm : (x3 % 2 == 1) with
  | true =>
    simp only [Bool.and_eq_true, Bool.or_eq_true, Bool.not_eq_true', Bool.not_eq_false', Bool.not_true, Bool.false_or, Bool.or_eq_false_iff, Bool.and_eq_false_iff, decide_eq_true_eq, decide_eq_false_iff_not, beq_iff_eq, Bool.not_eq_false', Bool.false_eq_true, false_or]
    constructor <;> intro z <;> omega
  | false =>
    simp only [Bool.and_eq_true, Bool.or_eq_true, Bool.not_eq_true', Bool.not_eq_false', Bool.not_false, Bool.true_or, Bool.or_eq_false_iff, Bool.and_eq_false_iff, decide_eq_true_eq, decide_eq_false_iff_not, beq_iff_eq, and_true, true_or]
    constructor <;> intro z <;> omega
theorem take_flag {b : Bytes} (h : 20 ≤ b.length) (hd : Hd) (e : b.take 20 = hd.bytes) (hf : hd.flags < 256) : part b 3 1 = hd.flags := by
  have e3 : (b.take 20)[3]? = some (UInt8.ofNat hd.flags) := by
    rw [e]
    unfold Hd.bytes Hd.front
    rfl
  rw [List.getElem?_take_of_lt (by decide)] at e3
  unfold part
  have e4 : (b.drop 3).take 1 = [UInt8.ofNat hd.flags] := by
    have : b.drop 3 = UInt8.ofNat hd.flags :: b.drop 4 := by
      rw [List.drop_eq_getElem_cons (by omega)]
      congr 1
      rw [List.getElem?_eq_getElem (by omega)] at e3
      exact Option.some.inj e3
    rw [this]
    rfl
  rw [e4, num1, UInt8.toNat_ofNat', Nat.mod_eq_of_lt (by omega)]
/-- **a head read** as the program reads it -/
theorem firstOf_read {b : Bytes} (h : 20 ≤ b.length) : firstOf b = if rightHd (hdRead b) = true ∧ (hdRead b).bytes = b.take 20 then some (pkRead b, part b 4 2) else none := by
  have e : firstOf b = if 20 ≤ b.length ∧ b.take 20 = (pkRead b).headOf (part b 4 2) ∧ (pkRead b).good (part b 4 2) = true then some (pkRead b, part b 4 2) else none := rfl
  rw [e]
  by_cases hf : part b 3 1 ≤ 3
  · rw [← hdOf_bytes, hdOf_read hf, good_iff hf]
    by_cases c : rightHd (hdRead b) = true ∧ (hdRead b).bytes = b.take 20
    · rw [if_pos c, if_pos ⟨h, c.2.symm, c.1⟩]
    · rw [if_neg c, if_neg fun z => c ⟨z.2.2, z.2.1.symm⟩]
  · rw [if_neg, if_neg]
    · intro z
      have : rightHd (hdRead b) = false := by
        unfold rightHd
        have : decide (3 < (hdRead b).flags) = true := decide_eq_true (by show 3 < part b 3 1; omega)
        rw [this]
        simp
      rw [this] at z
      exact absurd z.1 (by decide)
    · rintro ⟨_, z, _⟩
      rw [← hdOf_bytes] at z
      have hlt : (hdOf (pkRead b) (part b 4 2)).flags = part b 3 1 % 4 := by
        unfold hdOf pkRead
        dsimp only
        rw [flag_nat]
      have := take_flag h _ z (by rw [hlt]; omega)
      rw [hlt] at this
      omega
theorem firstOf_short {b : Bytes} (h : b.length < 20) : firstOf b = none := by
  have e : firstOf b = if 20 ≤ b.length ∧ b.take 20 = (pkRead b).headOf (part b 4 2) ∧ (pkRead b).good (part b 4 2) = true then some (pkRead b, part b 4 2) else none := rfl
  rw [e, if_neg fun z => by omega]
/-- what a packet that's read is -/
structure PkOk (p : Packet) (n : Nat) : Prop where
  hops : 1 ≤ p.hops ∧ p.hops ≤ 255
  what : 1 ≤ p.what ∧ p.what ≤ 4
  len : 20 ≤ n ∧ n ≤ 65535
  name : p.name < 65536
  from_ : 1 ≤ p.from_ ∧ p.from_ < 4294967295
  to : 1 ≤ p.to ∧ p.to ≤ 4294967295
  place : 8 * p.place + (n - 20) ≤ 65515
  more : p.more = true → 28 ≤ n ∧ (n - 20) % 8 = 0
theorem good_ok {p : Packet} {n : Nat} (h : p.good n = true) : PkOk p n := by
  unfold Packet.good EVERYBODY MOST at h
  simp only [Bool.and_eq_true, decide_eq_true_eq] at h
  obtain ⟨h1, h2, h3, h4, h5, h6, h7, h8, h9, h10, h11, h12, h13⟩ := h
  refine ⟨⟨h1, h2⟩, ⟨h3, h4⟩, ⟨h5, h6⟩, h7, ⟨h8, h9⟩, ⟨h10, h11⟩, h12, fun hm => ?_⟩
  rw [hm] at h13
  simp only [Bool.not_true, Bool.false_or, Bool.and_eq_true, decide_eq_true_eq, beq_iff_eq] at h13
  exact h13
theorem firstOf_ok {b : Bytes} {p : Packet} {n : Nat} (h : firstOf b = some (p, n)) : PkOk p n ∧ p.body = b.drop 20 ∧ 20 ≤ b.length ∧ p.headOf n = b.take 20 := by
  have e : firstOf b = if 20 ≤ b.length ∧ b.take 20 = (pkRead b).headOf (part b 4 2) ∧ (pkRead b).good (part b 4 2) = true then some (pkRead b, part b 4 2) else none := rfl
  rw [e] at h
  by_cases c : 20 ≤ b.length ∧ b.take 20 = (pkRead b).headOf (part b 4 2) ∧ (pkRead b).good (part b 4 2) = true
  · rw [if_pos c] at h
    have h1 := Option.some.inj h
    injection h1 with h2 h3
    subst h2 h3
    exact ⟨good_ok c.2.2, rfl, c.1, c.2.1.symm⟩
  · rw [if_neg c] at h
    cases h
/-! ### cutting -/
theorem cut_one {k f : Nat} {p : Packet} (h : 20 + p.body.length ≤ f) : cut k f p = [p] := by
  cases k with
  | zero => rfl
  | succ k =>
    show (if 20 + p.body.length ≤ f then [p] else _) = _
    rw [if_pos h]
theorem cut_more {k f : Nat} {p : Packet} (h : ¬ 20 + p.body.length ≤ f) : cut (k + 1) f p = { p with more := true, body := p.body.take ((f - 20) / 8 * 8) } :: cut k f { p with place := p.place + (f - 20) / 8 * 8 / 8, body := p.body.drop ((f - 20) / 8 * 8) } := by
  show (if 20 + p.body.length ≤ f then [p] else _) = _
  rw [if_neg h]
/-- what's left behind j pieces -/
def restOf (p : Packet) (m j : Nat) : Packet := { p with place := p.place + m * j / 8, body := p.body.drop (m * j) }
theorem restOf_zero (p : Packet) (m : Nat) : restOf p m 0 = p := by
  unfold restOf
  rw [Nat.mul_zero, Nat.zero_div, Nat.add_zero, List.drop_zero]
theorem restOf_succ (p : Packet) {f j : Nat} : { restOf p ((f - 20) / 8 * 8) j with place := (restOf p ((f - 20) / 8 * 8) j).place + (f - 20) / 8 * 8 / 8, body := (restOf p ((f - 20) / 8 * 8) j).body.drop ((f - 20) / 8 * 8) } = restOf p ((f - 20) / 8 * 8) (j + 1) := by
  unfold restOf
  dsimp only
  congr 1
  · have e1 : (f - 20) / 8 * 8 / 8 = (f - 20) / 8 := by omega
    have e2 : (f - 20) / 8 * 8 * j / 8 = (f - 20) / 8 * j := by
      rw [Nat.mul_right_comm, Nat.mul_div_cancel _ (by decide)]
    have e3 : (f - 20) / 8 * 8 * (j + 1) / 8 = (f - 20) / 8 * (j + 1) := by
      rw [Nat.mul_right_comm, Nat.mul_div_cancel _ (by decide)]
    rw [e1, e2, e3, Nat.mul_succ]
    omega
  · rw [List.drop_drop]
    congr 1
theorem cut_len {k f : Nat} : ∀ {p : Packet}, (cut k f p).length ≤ k + 1 := by
  induction k with
  | zero => intro p; exact Nat.le_refl _
  | succ k ih =>
    intro p
    by_cases h : 20 + p.body.length ≤ f
    · rw [cut_one h]
      simp
    · rw [cut_more h, List.length_cons]
      have := @ih { p with place := p.place + (f - 20) / 8 * 8 / 8, body := p.body.drop ((f - 20) / 8 * 8) }
      omega
theorem cut_bodies {f : Nat} : ∀ (k : Nat) (p : Packet), ((cut k f p).map fun x => x.body.length).sum = p.body.length
  | 0, p => by
    show p.body.length + 0 = p.body.length
    omega
  | k + 1, p => by
    by_cases h : 20 + p.body.length ≤ f
    · rw [cut_one h]
      show p.body.length + 0 = p.body.length
      omega
    · rw [cut_more h, List.map_cons, List.sum_cons, cut_bodies k]
      dsimp only
      rw [List.length_take, List.length_drop]
      omega
theorem headOf_len (p : Packet) (n : Nat) : (p.headOf n).length = 20 := by
  rw [← hdOf_bytes, bytes_len]
theorem pk_bytes_len (p : Packet) : p.bytes.length = 20 + p.body.length := by
  show (p.headOf _ ++ p.body).length = _
  rw [List.length_append, headOf_len]
/-- how long what's told of a packet that's sent is -/
theorem out_len (k x : Nat) (l : Link) (p : Packet) : ((outBy k x l p).flatMap Sv62Neutral.wanted).length ≤ 25 * p.body.length + 24 := by
  have h1 : ∀ ps : List Packet, ((ps.map fun y => Want.out k (if x = 0 then p.to else x) y.bytes).flatMap Sv62Neutral.wanted).length = 24 * ps.length + (ps.map fun y => y.body.length).sum := by
    intro ps
    induction ps with
    | nil => rfl
    | cons y r ih =>
      rw [List.map_cons, List.flatMap_cons, List.length_append, ih, List.length_cons, List.map_cons, List.sum_cons]
      have : (Sv62Neutral.wanted (Want.out k (if x = 0 then p.to else x) y.bytes)).length = 24 + y.body.length := by
        show (1 :: (k : Int) :: ((if x = 0 then p.to else x : Nat) : Int) :: ((y.bytes.length : Int) :: Sv62Neutral.ofOctets y.bytes)).length = _
        simp only [List.length_cons, Sv62Neutral.ofOctets, List.length_map, pk_bytes_len]
        omega
      omega
  have h2 := h1 (pieces l.fits p)
  have h3 : (pieces l.fits p).length ≤ p.body.length + 1 := cut_len
  have h4 : ((pieces l.fits p).map fun y => y.body.length).sum = p.body.length := cut_bodies _ _
  show (((pieces l.fits p).map fun y => Want.out k (if x = 0 then p.to else x) y.bytes).flatMap Sv62Neutral.wanted).length ≤ _
  omega
theorem up_len (k : Nat) (h b : Bytes) : (Sv62Neutral.wanted (.up k h b)).length = 3 + h.length + b.length := by
  show (0 :: (k : Int) :: (Sv62Neutral.ofOctets h ++ ((b.length : Int) :: Sv62Neutral.ofOctets b))).length = _
  simp only [List.length_cons, List.length_append, Sv62Neutral.ofOctets, List.length_map]
  omega
end Lp
/-! Packets in pieces: the mathematics, no Python. -/
namespace Lp
open Sv62
def endOf (p : Packet) : Nat := 8 * p.place + p.body.length
def gotOf (p : Packet) : Nat × (Bool × Bytes) := (8 * p.place, p.more, p.body)
structure PcOk (p : Packet) : Prop where
  pk : PkOk p (20 + p.body.length)
  piece : p.isPiece = true
theorem PcOk.first {p : Packet} (h : PcOk p) (z : p.place = 0) : p.more = true ∧ 8 ≤ p.body.length := by
  have h1 : (p.more || p.place != 0) = true := h.piece
  rw [z] at h1
  have h2 : p.more = true := by simpa using h1
  have := h.pk.more h2
  exact ⟨h2, by omega⟩
/-- what the program asks of two pieces -/
def sameB (p q : Packet) : Bool := decide (8 * p.place = 8 * q.place) && (decide ((!p.more) = (!q.more)) && decide (p.body = q.body))
def overB (p q : Packet) : Bool := decide (8 * p.place < endOf q) && decide (8 * q.place < endOf p)
def endB (p q : Packet) : Bool := if (!p.more && !q.more) = true then true else (!q.more && decide (endOf q < endOf p)) || (!p.more && decide (endOf p < endOf q))
def spoilB (p q : Packet) : Bool := overB p q || endB p q
structure PartIs (x : Part) (ps : List Packet) : Prop where
  got : x.got = ps.map gotOf
  first : x.first = ps.find? (fun p => p.place == 0)
  ends : x.ends = ((ps.filter (fun p => !p.more)).map endOf).head?
  one : (ps.filter fun p => !p.more).length ≤ 1
  sp : x.spoiled = true → ps = []
  key : ∀ p ∈ ps, x.of p = true
  ok : ∀ p ∈ ps, PcOk p
  apart : ps.Pairwise fun a b => overB a b = false
  within : ∀ p ∈ ps, ∀ q ∈ ps, q.more = false → endOf p ≤ endOf q
def addTo (x : Part) (p : Packet) : Part := { x with got := x.got ++ [(8 * p.place, p.more, p.body)], ends := if p.more = true then x.ends else some (8 * p.place + p.body.length), first := if p.place = 0 then some p else x.first }
theorem any_congr' {α : Type} {l : List α} {f g : α → Bool} (h : ∀ a ∈ l, f a = g a) : l.any f = l.any g := by
  induction l with
  | nil => rfl
  | cons a r ih =>
    rw [List.any_cons, List.any_cons, h a List.mem_cons_self, ih fun b hb => h b (List.mem_cons_of_mem _ hb)]
/-- the last one, if it's there -/
theorem PartIs.lasts {x : Part} {ps : List Packet} (h : PartIs x ps) : (x.ends = none ∧ ∀ q ∈ ps, q.more = true) ∨ ∃ z ∈ ps, z.more = false ∧ x.ends = some (endOf z) ∧ ∀ q ∈ ps, q.more = false → q = z := by
  have he := h.ends
  have ho := h.one
  cases q : ps.filter (fun p => !p.more) with
  | nil =>
    rw [q] at he
    refine .inl ⟨he, fun y hy => ?_⟩
    cases hm : y.more with
    | true => rfl
    | false =>
      have : y ∈ ps.filter (fun p => !p.more) := List.mem_filter.mpr ⟨hy, by rw [hm]; rfl⟩
      rw [q] at this
      cases this
  | cons z r =>
    rw [q] at he ho
    have hr : r = [] := by
      cases r with
      | nil => rfl
      | cons _ _ => simp at ho
    subst hr
    have hz : z ∈ ps.filter (fun p => !p.more) := by rw [q]; exact List.mem_cons_self
    obtain ⟨hz1, hz2⟩ := List.mem_filter.mp hz
    refine .inr ⟨z, hz1, by simpa using hz2, he, fun y hy hm => ?_⟩
    have : y ∈ ps.filter (fun p => !p.more) := List.mem_filter.mpr ⟨hy, by rw [hm]; rfl⟩
    rw [q] at this
    exact List.mem_singleton.mp this
theorem put_eq {x : Part} {ps : List Packet} (h : PartIs x ps) (p : Packet) : x.put p = if ps.any (sameB p) = true then .same else if ps.any (spoilB p) = true then .spoils else .on (addTo x p) := by
  have e1 : (x.got.any fun y => y.1 == 8 * p.place && (y.2.1 == p.more && y.2.2 == p.body)) = ps.any (sameB p) := by
    rw [h.got, List.any_map]
    refine any_congr' fun q _ => ?_
    unfold sameB gotOf
    rw [Bool.eq_iff_iff]
    simp only [Function.comp, Bool.and_eq_true, beq_iff_eq, decide_eq_true_eq]
    constructor
    · rintro ⟨a, b, c⟩
      exact ⟨a.symm, by rw [b], c.symm⟩
    · rintro ⟨a, b, c⟩
      refine ⟨a.symm, ?_, c.symm⟩
      cases h1 : p.more <;> cases h2 : q.more <;> rw [h1, h2] at b <;> first | rfl | cases b
  have e2 : (x.got.any fun y => over (8 * p.place) p.body y.1 y.2.2) = ps.any (overB p) := by
    rw [h.got, List.any_map]
    rfl
  have e3 : (match x.ends with
      | some z => decide (z < 8 * p.place + p.body.length) || !p.more
      | none => !p.more && x.got.any fun y => decide (8 * p.place + p.body.length < y.1 + y.2.2.length)) = ps.any (endB p) := by
    rcases h.lasts with ⟨hn, hall⟩ | ⟨z, hz, hm, he, hu⟩
    · rw [hn]
      show (!p.more && x.got.any fun y => decide (8 * p.place + p.body.length < y.1 + y.2.2.length)) = _
      rw [h.got, List.any_map, Bool.eq_iff_iff, Bool.and_eq_true, List.any_eq_true, List.any_eq_true]
      constructor
      · rintro ⟨a, q, hq, b⟩
        refine ⟨q, hq, ?_⟩
        unfold endB
        rw [hall q hq]
        have b2 : decide (endOf p < endOf q) = true := b
        rw [b2, a]
        rfl
      · rintro ⟨q, hq, b⟩
        unfold endB at b
        rw [hall q hq] at b
        simp only [Bool.not_true, Bool.and_false, Bool.false_eq_true, if_false, Bool.false_and, Bool.false_or, Bool.and_eq_true] at b
        exact ⟨b.1, q, hq, b.2⟩
    · rw [he]
      show (decide (endOf z < 8 * p.place + p.body.length) || !p.more) = _
      rw [Bool.eq_iff_iff, List.any_eq_true, Bool.or_eq_true]
      constructor
      · rintro (a | a)
        · refine ⟨z, hz, ?_⟩
          unfold endB
          rw [hm]
          have a2 : decide (endOf z < endOf p) = true := a
          rw [a2]
          cases p.more <;> rfl
        · refine ⟨z, hz, ?_⟩
          unfold endB
          rw [hm, a]
          rfl
      · rintro ⟨q, hq, b⟩
        unfold endB at b
        cases hp : p.more with
        | false => exact .inr rfl
        | true =>
          rw [hp] at b
          simp only [Bool.not_true, Bool.false_and, Bool.false_eq_true, if_false, Bool.or_false, Bool.and_eq_true] at b
          have hq2 : q.more = false := by simpa using b.1
          rw [hu q hq hq2] at b
          exact .inl b.2
  have e4 : ps.any (spoilB p) = (ps.any (overB p) || ps.any (endB p)) := by
    unfold spoilB
    generalize ps = l
    induction l with
    | nil => rfl
    | cons a r ih =>
      rw [List.any_cons, List.any_cons, List.any_cons, ih]
      cases overB p a <;> cases endB p a <;> cases r.any (overB p) <;> cases r.any (endB p) <;> rfl
  unfold Part.put
  dsimp only
  rw [e1, e2, e4]
  by_cases c1 : ps.any (sameB p) = true
  · rw [if_pos c1, if_pos c1]
  · rw [if_neg c1, if_neg c1]
    by_cases c2 : ps.any (overB p) = true
    · rw [if_pos c2, c2, Bool.true_or, if_pos rfl]
    · rw [if_neg c2]
      rw [Bool.not_eq_true] at c2
      rw [c2, Bool.false_or]
      by_cases c3 : ps.any (endB p) = true
      · rw [if_pos c3]
        exact if_pos (e3.trans c3)
      · rw [if_neg c3]
        exact if_neg fun z => c3 (e3.symm.trans z)
theorem overB_comm (p q : Packet) : overB p q = overB q p := by
  unfold overB
  rw [Bool.and_comm]
theorem put_is {x : Part} {ps : List Packet} (h : PartIs x ps) {p : Packet} (hx : x.of p = true) (hs : x.spoiled = false) (hp : PcOk p) (hn : ps.any (spoilB p) = false) : PartIs (addTo x p) (ps ++ [p]) := by
  have hno : ∀ q ∈ ps, overB p q = false ∧ endB p q = false := fun q hq => by
    have := List.any_eq_false.mp hn q hq
    unfold spoilB at this
    rw [Bool.not_eq_true, Bool.or_eq_false_iff] at this
    exact this
  refine ⟨?_, ?_, ?_, ?_, fun z => ?_, ?_, ?_, ?_, ?_⟩
  · show x.got ++ [gotOf p] = _
    rw [h.got, List.map_append]
    rfl
  · show (if p.place = 0 then some p else x.first) = _
    rw [List.find?_append, ← h.first]
    by_cases z : p.place = 0
    · rw [if_pos z]
      have hf : x.first = none := by
        rw [h.first, List.find?_eq_none]
        intro q hq hz
        have hq0 : q.place = 0 := by simpa using hz
        have h1 := (hno q hq).1
        have h2 := hp.first z
        have h3 := (h.ok q hq).first hq0
        unfold overB endOf at h1
        rw [z, hq0] at h1
        have h4 : decide (8 * 0 < 8 * 0 + q.body.length) = true := decide_eq_true (by omega)
        have h5 : decide (8 * 0 < 8 * 0 + p.body.length) = true := decide_eq_true (by omega)
        rw [h4, h5] at h1
        cases h1
      rw [hf, List.find?_cons_of_pos (by rw [z]; rfl)]
      rfl
    · rw [if_neg z, List.find?_cons_of_neg (by simpa using z), List.find?_nil, Option.or_none]
  · show (if p.more = true then x.ends else some (8 * p.place + p.body.length)) = _
    rw [List.filter_append, List.map_append]
    cases hm : p.more with
    | true =>
      rw [if_pos rfl, List.filter_cons_of_neg (by rw [hm]; decide), h.ends]
      simp
    | false =>
      rw [if_neg (by decide), List.filter_cons_of_pos (by rw [hm]; rfl)]
      rcases h.lasts with ⟨h1, hall⟩ | ⟨z, hz, hzm, _, _⟩
      · have : ps.filter (fun p => !p.more) = [] := by
          rw [List.filter_eq_nil_iff]
          intro q hq
          rw [hall q hq]
          decide
        rw [this]
        rfl
      · have := (hno z hz).2
        unfold endB at this
        rw [hm, hzm] at this
        simp at this
  · rw [List.filter_append, List.length_append]
    cases hm : p.more with
    | true =>
      rw [List.filter_cons_of_neg (by rw [hm]; decide)]
      have := h.one
      simpa using this
    | false =>
      rcases h.lasts with ⟨h1, hall⟩ | ⟨z, hz, hzm, _, _⟩
      · have : ps.filter (fun p => !p.more) = [] := by
          rw [List.filter_eq_nil_iff]
          intro q hq
          rw [hall q hq]
          decide
        rw [this]
        exact Nat.le_trans (Nat.add_le_add_left (List.length_filter_le _ _) _) (by simp)
      · have := (hno z hz).2
        unfold endB at this
        rw [hm, hzm] at this
        simp at this
  · have z2 : x.spoiled = true := z
    rw [hs] at z2
    cases z2
  · intro q hq
    rw [List.mem_append, List.mem_singleton] at hq
    rcases hq with hq | rfl
    · exact h.key q hq
    · exact hx
  · intro q hq
    rw [List.mem_append, List.mem_singleton] at hq
    rcases hq with hq | rfl
    · exact h.ok q hq
    · exact hp
  · rw [List.pairwise_append]
    refine ⟨h.apart, List.pairwise_singleton _ _, fun a ha b hb => ?_⟩
    rw [List.mem_singleton.mp hb, overB_comm]
    exact (hno a ha).1
  · intro q hq r hr hm
    rw [List.mem_append, List.mem_singleton] at hq hr
    rcases hr with hr | rfl
    · rcases hq with hq | rfl
      · exact h.within q hq r hr hm
      · have h2 := (hno r hr).2
        unfold endB at h2
        rw [hm] at h2
        simp only [Bool.not_false, Bool.and_true, Bool.true_and] at h2
        cases hq2 : q.more with
        | true =>
          rw [hq2] at h2
          simp at h2
          exact h2
        | false =>
          rw [hq2] at h2
          simp at h2
    · rcases hq with hq | rfl
      · have h2 := (hno q hq).2
        unfold endB at h2
        rw [hm] at h2
        simp only [Bool.not_false, Bool.true_and] at h2
        cases hq2 : q.more with
        | true =>
          rw [hq2] at h2
          simp at h2
          exact h2
        | false =>
          rw [hq2] at h2
          simp at h2
      · exact Nat.le_refl _
/-! ### all there: one begins at 0 -/
def cov (h : Nat) (ps : List Packet) : Nat := (ps.map fun p => min h (endOf p) - 8 * p.place).sum
theorem cov_step {h : Nat} : ∀ {ps : List Packet}, ps.Pairwise (fun a b => overB a b = false) → cov (h + 1) ps ≤ cov h ps + (if (ps.any fun p => decide (8 * p.place ≤ h) && decide (h < endOf p)) = true then 1 else 0)
  | [], _ => Nat.le_refl _
  | p :: r, hp => by
    obtain ⟨h1, h2⟩ := List.pairwise_cons.mp hp
    have ih := cov_step (h := h) h2
    have e1 : cov (h + 1) (p :: r) = (min (h + 1) (endOf p) - 8 * p.place) + cov (h + 1) r := by
      unfold cov
      rw [List.map_cons, List.sum_cons]
    have e2 : cov h (p :: r) = (min h (endOf p) - 8 * p.place) + cov h r := by
      unfold cov
      rw [List.map_cons, List.sum_cons]
    rw [e1, e2, List.any_cons]
    by_cases c : 8 * p.place ≤ h ∧ h < endOf p
    · have hc : (decide (8 * p.place ≤ h) && decide (h < endOf p)) = true := by
        rw [decide_eq_true c.1, decide_eq_true c.2]
        rfl
      have hr : (r.any fun p => decide (8 * p.place ≤ h) && decide (h < endOf p)) = false := by
        rw [List.any_eq_false]
        intro q hq z
        rw [Bool.and_eq_true, decide_eq_true_eq, decide_eq_true_eq] at z
        have h3 := h1 q hq
        unfold overB at h3
        rw [Bool.and_eq_false_iff, decide_eq_false_iff_not, decide_eq_false_iff_not] at h3
        omega
      rw [hr] at ih
      simp only [Bool.false_eq_true, if_false] at ih
      rw [hc, Bool.true_or, if_pos rfl]
      omega
    · have hc : (decide (8 * p.place ≤ h) && decide (h < endOf p)) = false := by
        rw [Bool.and_eq_false_iff, decide_eq_false_iff_not, decide_eq_false_iff_not]
        omega
      rw [hc, Bool.false_or]
      have e3 : min (h + 1) (endOf p) - 8 * p.place ≤ min h (endOf p) - 8 * p.place := by omega
      omega
theorem cov_all {e : Nat} {ps : List Packet} (h : ∀ p ∈ ps, endOf p ≤ e) : cov e ps = (ps.map fun p => p.body.length).sum := by
  unfold cov
  congr 1
  apply List.map_congr_left
  intro p hp
  have := h p hp
  unfold endOf at *
  omega
theorem cov_le {ps : List Packet} (hp : ps.Pairwise fun a b => overB a b = false) (h0 : ∀ p ∈ ps, p.place ≠ 0) : ∀ h : Nat, cov (h + 1) ps ≤ h
  | 0 => by
    have : cov (0 + 1) ps = 0 := by
      unfold cov
      have e : (ps.map fun p => min (0 + 1) (endOf p) - 8 * p.place) = ps.map fun _ => 0 := by
        apply List.map_congr_left
        intro p hq
        have := h0 p hq
        omega
      rw [e]
      clear e hp h0
      induction ps with
      | nil => rfl
      | cons a r ih => rw [List.map_cons, List.sum_cons, ih]
    omega
  | h + 1 => by
    have h1 := cov_le hp h0 h
    have h2 := cov_step (h := h + 1) hp
    have h3 : (if (ps.any fun p => decide (8 * p.place ≤ h + 1) && decide (h + 1 < endOf p)) = true then 1 else 0) ≤ 1 := by
      split <;> omega
    omega
theorem whole_first {x : Part} {ps : List Packet} (h : PartIs x ps) (hw : x.whole = true) : ∃ f ∈ ps, x.first = some f ∧ f.place = 0 := by
  rcases h.lasts with ⟨hn, _⟩ | ⟨z, hz, hm, he, _⟩
  · unfold Part.whole at hw
    rw [hn] at hw
    cases hw
  · have hs : (ps.map fun p => p.body.length).sum = endOf z := by
      unfold Part.whole at hw
      rw [he] at hw
      have hw2 : ((x.got.map fun y => y.2.2.length).sum == endOf z) = true := hw
      rw [h.got, List.map_map] at hw2
      exact beq_iff_eq.mp hw2
    cases hf : ps.find? (fun p => p.place == 0) with
    | some f =>
      refine ⟨f, List.mem_of_find?_eq_some hf, h.first.trans hf, ?_⟩
      have := List.find?_some hf
      simpa using this
    | none =>
      exfalso
      have h0 : ∀ p ∈ ps, p.place ≠ 0 := fun p hp => by
        have := List.find?_eq_none.mp hf p hp
        simpa using this
      have hc := cov_all (e := endOf z) (ps := ps) fun p hp => h.within p hp z hz hm
      have hz0 := h0 z hz
      have hpos : 1 ≤ endOf z := by
        unfold endOf
        omega
      have hl := cov_le h.apart h0 (endOf z - 1)
      rw [Nat.sub_add_cancel hpos] at hl
      omega
theorem whole_iff {x : Part} {ps : List Packet} (h : PartIs x ps) : x.whole = decide ((ps.filter fun p => !p.more).map endOf = [(ps.map fun p => p.body.length).sum]) := by
  have hs : (x.got.map fun y => y.2.2.length).sum = (ps.map fun p => p.body.length).sum := by
    rw [h.got, List.map_map]
    rfl
  unfold Part.whole
  rw [hs]
  have he := h.ends
  have ho := h.one
  cases q : ps.filter (fun p => !p.more) with
  | nil =>
    rw [q] at he
    rw [he]
    rfl
  | cons z r =>
    rw [q] at he ho
    have hr : r = [] := by
      cases r with
      | nil => rfl
      | cons _ _ => simp at ho
    subst hr
    rw [he]
    show ((ps.map fun p => p.body.length).sum == endOf z) = _
    rw [Bool.eq_iff_iff, beq_iff_eq, decide_eq_true_eq]
    constructor
    · intro e
      rw [e]
      rfl
    · intro e
      injection e with e _
      exact e.symm
theorem body_bound {x : Part} {ps : List Packet} (h : PartIs x ps) (hw : x.whole = true) : (ps.map fun p => p.body.length).sum ≤ 65515 := by
  rcases h.lasts with ⟨hn, _⟩ | ⟨z, hz, hm, he, _⟩
  · unfold Part.whole at hw
    rw [hn] at hw
    cases hw
  · have hs : (ps.map fun p => p.body.length).sum = endOf z := by
      unfold Part.whole at hw
      rw [he] at hw
      have hw2 : ((x.got.map fun y => y.2.2.length).sum == endOf z) = true := hw
      rw [h.got, List.map_map] at hw2
      exact beq_iff_eq.mp hw2
    have := (h.ok z hz).pk.place
    unfold endOf at hs
    omega
/-! ### put together in their places -/
theorem key_one {α : Type} (g : α → Nat) : ∀ (a b : List α), a.Pairwise (fun x y => g x ≤ g y) → b.Pairwise (fun x y => g x ≤ g y) → (∀ z, a.filter (fun x => g x == z) = b.filter (fun x => g x == z)) → a = b
  | [], [], _, _, _ => rfl
  | [], y :: t, _, _, h => by
    have := h (g y)
    rw [List.filter_cons_of_pos (by simp)] at this
    cases this
  | x :: r, [], _, _, h => by
    have := h (g x)
    rw [List.filter_cons_of_pos (by simp)] at this
    cases this
  | x :: r, y :: t, ha, hb, h => by
    obtain ⟨ha1, ha2⟩ := List.pairwise_cons.mp ha
    obtain ⟨hb1, hb2⟩ := List.pairwise_cons.mp hb
    have hx : x ∈ (y :: t).filter (fun v => g v == g x) := by
      rw [← h (g x)]
      exact List.mem_filter.mpr ⟨List.mem_cons_self, by simp⟩
    have hy : y ∈ (x :: r).filter (fun v => g v == g y) := by
      rw [h (g y)]
      exact List.mem_filter.mpr ⟨List.mem_cons_self, by simp⟩
    have h1 : g y ≤ g x := by
      rcases List.mem_cons.mp (List.mem_filter.mp hx).1 with e | e
      · rw [e]
        exact Nat.le_refl _
      · exact hb1 x e
    have h2 : g x ≤ g y := by
      rcases List.mem_cons.mp (List.mem_filter.mp hy).1 with e | e
      · rw [e]
        exact Nat.le_refl _
      · exact ha1 y e
    have e := Nat.le_antisymm h2 h1
    have hz := h (g x)
    rw [List.filter_cons_of_pos (by simp), List.filter_cons_of_pos (by simp [e])] at hz
    injection hz with hz1 hz2
    subst hz1
    congr 1
    refine key_one g r t ha2 hb2 fun z => ?_
    by_cases c : g x = z
    · rw [← c]
      exact hz2
    · have := h z
      rw [List.filter_cons_of_neg (by simpa using c), List.filter_cons_of_neg (by simpa using c)] at this
      exact this
theorem putPiece_sorted {x : Nat × Bytes} : ∀ {l : List (Nat × Bytes)}, l.Pairwise (fun a b => a.1 ≤ b.1) → (putPiece x l).Pairwise (fun a b => a.1 ≤ b.1) ∧ (∀ y ∈ putPiece x l, y = x ∨ y ∈ l) ∧ ∀ z, (putPiece x l).filter (fun a => a.1 == z) = l.filter (fun a => a.1 == z) ++ [x].filter (fun a => a.1 == z)
  | [], _ => ⟨List.pairwise_singleton _ _, fun y hy => .inl (List.mem_singleton.mp hy), fun z => rfl⟩
  | y :: l, h => by
    obtain ⟨h1, h2⟩ := List.pairwise_cons.mp h
    by_cases c : x.1 < y.1
    · have e : putPiece x (y :: l) = x :: y :: l := by
        show (if x.1 < y.1 then x :: y :: l else y :: putPiece x l) = _
        rw [if_pos c]
      rw [e]
      refine ⟨List.pairwise_cons.mpr ⟨fun b hb => ?_, h⟩, fun b hb => ?_, fun z => ?_⟩
      · rcases List.mem_cons.mp hb with rfl | hb
        · exact Nat.le_of_lt c
        · exact Nat.le_trans (Nat.le_of_lt c) (h1 b hb)
      · rcases List.mem_cons.mp hb with rfl | hb
        · exact .inl rfl
        · exact .inr hb
      · by_cases cz : x.1 = z
        · have hn : (y :: l).filter (fun a => a.1 == z) = [] := by
            rw [List.filter_eq_nil_iff]
            intro b hb
            rcases List.mem_cons.mp hb with rfl | hb
            · simp
              omega
            · have := h1 b hb
              simp
              omega
          rw [List.filter_cons, hn]
          simp [cz]
        · rw [List.filter_cons_of_neg (by simpa using cz), List.filter_cons_of_neg (l := []) (by simpa using cz)]
          simp
    · have e : putPiece x (y :: l) = y :: putPiece x l := by
        show (if x.1 < y.1 then x :: y :: l else y :: putPiece x l) = _
        rw [if_neg c]
      obtain ⟨i1, i2, i3⟩ := putPiece_sorted (x := x) h2
      rw [e]
      refine ⟨List.pairwise_cons.mpr ⟨fun b hb => ?_, i1⟩, fun b hb => ?_, fun z => ?_⟩
      · rcases i2 b hb with rfl | hb
        · omega
        · exact h1 b hb
      · rcases List.mem_cons.mp hb with rfl | hb
        · exact .inr List.mem_cons_self
        · rcases i2 b hb with h | h
          · exact .inl h
          · exact .inr (List.mem_cons_of_mem _ h)
      · rw [List.filter_cons, List.filter_cons, i3 z]
        split <;> simp
theorem fold_put (l : List (Nat × (Bool × Bytes))) : ∀ acc : List (Nat × Bytes), acc.Pairwise (fun a b => a.1 ≤ b.1) →
    (l.foldl (fun l y => putPiece (y.1, y.2.2) l) acc).Pairwise (fun a b => a.1 ≤ b.1) ∧ ∀ z, (l.foldl (fun l y => putPiece (y.1, y.2.2) l) acc).filter (fun a => a.1 == z) = acc.filter (fun a => a.1 == z) ++ (l.map fun y => (y.1, y.2.2)).filter (fun a => a.1 == z) := by
  induction l with
  | nil =>
    intro acc h
    exact ⟨h, fun z => by simp⟩
  | cons y r ih =>
    intro acc h
    obtain ⟨h1, _, h3⟩ := putPiece_sorted (x := (y.1, y.2.2)) h
    obtain ⟨i1, i2⟩ := ih _ h1
    refine ⟨i1, fun z => ?_⟩
    rw [List.foldl_cons, i2 z, h3 z, List.append_assoc, List.map_cons]
    congr 1
    rw [List.filter_cons, List.filter_cons]
    split <;> simp
/-- sorted by their places, equal ones in their order: the body -/
theorem body_sorted {x : Part} {ps qs : List Packet} (h : PartIs x ps) (hs : qs.Pairwise fun a b => a.place ≤ b.place) (hf : ∀ z, qs.filter (fun p => p.place == z) = ps.filter (fun p => p.place == z)) : (qs.map fun p => p.body).flatten = x.body := by
  obtain ⟨f1, f2⟩ := fold_put x.got [] List.Pairwise.nil
  have e : qs.map (fun p => (8 * p.place, p.body)) = x.got.foldl (fun l y => putPiece (y.1, y.2.2) l) [] := by
    refine key_one (fun a => a.1) _ _ ?_ f1 fun z => ?_
    · rw [List.pairwise_map]
      exact hs.imp fun {a b} hab => by
        show 8 * a.place ≤ 8 * b.place
        omega
    · rw [f2 z, List.filter_nil, List.nil_append, h.got, List.map_map, List.filter_map, List.filter_map]
      have h8 : ∀ l : List Packet, l.filter ((fun a : Nat × Bytes => a.1 == z) ∘ fun p => (8 * p.place, p.body)) = if z % 8 = 0 then l.filter (fun p => p.place == z / 8) else [] := by
        intro l
        by_cases c : z % 8 = 0
        · rw [if_pos c]
          apply List.filter_congr
          intro p _
          show (8 * p.place == z) = (p.place == z / 8)
          rw [Bool.eq_iff_iff, beq_iff_eq, beq_iff_eq]
          omega
        · rw [if_neg c, List.filter_eq_nil_iff]
          intro p _
          show ¬ (8 * p.place == z) = true
          rw [beq_iff_eq]
          omega
      have h9 : ps.filter ((fun a : Nat × Bytes => a.1 == z) ∘ (fun y : Nat × (Bool × Bytes) => (y.1, y.2.2)) ∘ gotOf) = if z % 8 = 0 then ps.filter (fun p => p.place == z / 8) else [] := h8 ps
      rw [h8 qs, h9]
      by_cases c : z % 8 = 0
      · rw [if_pos c, if_pos c, hf]
        rfl
      · rw [if_neg c, if_neg c]
        rfl
  unfold Part.body
  rw [← e, List.map_map]
  rfl
end Lp
set_option maxHeartbeats 400000000
namespace Lp
open PySem PySem.W PySem.Calls PyProof.Rows PyProof.V PySem.Spec DT
section
variable {KT : Type} [DecidableEq KT] {prog : Program} {w : World} {knd : HeapKind prog w KT}
/-- d.pop(k) of a dict whose keys lie in the heap, k being there -/
theorem meets_pop_one {d b : Addr} {k : KT} (hd : (d == sysModules) = false) :
    MeetsIn prog w (Builtin.«dict.pop» ⟨[.ref d, .ref b], []⟩) (fun A R s => ∃ xs p, knd.room A.in1 ∧ knd.is s.heap k b ∧ s.heap.DictOfH knd d xs ∧ xs.length ≤ sizeLine ∧ atKey xs k = some p ∧
      ∀ h2 tk, h2.DictOfH knd d (dropH xs k) → Heap.SameBut d s.heap h2 → R (.ok (.ret p.2)) { s with heap := h2, toks := tk }) :=
  .of_wp fun A R s ⟨xs, p, room, key, dict, size, there, go⟩ => by
    obtain ⟨o, es, ep, ho, hc, hdat, he, his, hn⟩ := id dict
    have count : es.size = xs.length := size_of_entries he
    have part : (keyPart (Value.ref b)).isSome = false := rfl
    have full : es.isEmpty = false := by
      cases q : es.isEmpty with
      | false => rfl
      | true =>
        have z : es.size = 0 := by simpa using q
        have z2 : xs = [] := List.length_eq_zero_iff.mp (by omega)
        rw [z2] at there
        cases there
    unfold Builtin.«dict.pop»
    refine wpAny_bind ?_
    unfold Builtin.Dict.keyAndDefault
    refine wpAny_bind (wpAny_notOrdered_dict dict.typeIs ?_)
    show wpAny _ _ (pure (d, Value.ref b, none)) _ _ s
    refine wpAny_pure ?_
    simp only [part, Bool.false_eq_true, if_false]
    refine wpAny_bind (wpAny_dictEntries ho hdat (wpAny_bind (wpAny_pure ?_)))
    simp only [full, Bool.false_eq_true, if_false]
    refine wpAny_bind (takeH room key dict size (fun no => ?_) fun p2 e hp hev h2 dict2 same => ?_)
    · rw [there] at no
      cases no
    · have ep2 : p = p2 := Option.some.inj (there.symm.trans hp)
      subst ep2
      simp only [Option.isNone_some, Bool.false_eq_true, if_false]
      exact wpAny_bind (wpAny_letGo (wpAny_pure ⟨e.val, rfl, by rw [hev]; exact go h2 _ dict2 same⟩))
end
/-! ### d.pop(t), t a tuple that is there -/
open L2 in
def tPopT (td ty : TE) : TE := fun σ H Q => td σ H fun x H1 => ∃ a, x = .ref a ∧ IsD H1 a ∧ ty σ H1 fun y H2 =>
  ∃ (kvs : List (List L2.Key × V)) (k : List L2.Key) (b : Addr) (v : V), y = .ref b ∧ H2 a = some (.dT kvs) ∧ H2 b = some (.tup (k.map kV)) ∧ valV kvs k = some v ∧ Q v (upd H2 a (.dT (dropK kvs k)))
section
open L2
variable {X : Cx} {o e : Expr} {td ty : TE} {apos cpos : Pos}
theorem pe_popT (hu : X.A.units + 1 < cLine) (ho : PE X o td) (he : PE X e ty) (m : M1 X o "pop" apos e cpos) : PE X (.Call (.Attribute o "pop" apos) [e] [] cpos) (tPopT td ty) := by
  refine ⟨fun pins s σ H Q I h => ?_⟩
  refine wpAny_Call_method m.base m.few m.line PySem.F.plainAttrs_dict PySem.F.slot_dict_pop PySem.F.type_dict_pop (thn (ho.run pins s σ H _ I h) fun self st1 ⟨x, H1, I1, rx, a, ex, isd, q1⟩ => ?_)
  subst ex
  obtain rfl : self = Value.ref a := rx
  obtain ⟨ty1, ty2, _⟩ := isD_at I1 isd
  refine ⟨ty1, ty2, ?_⟩
  rw [m.trees]
  refine Calls.callWith_builtin rfl (Calls.evalArgs_plain (Calls.spliced_cons (thn (he.run pins st1 σ H1 _ I1 q1) fun key st2 ⟨y, H2, I2, ry, kvs, k, b, v, ey, ha, hb, hv, q2⟩ => Calls.spliced_nil ?_)))
  subst ey
  obtain rfl : key = Value.ref b := ry
  obtain ⟨short, low, pairs, rel, dict⟩ := dt_of I2.hok ha
  have short2 : pairs.length ≤ sizeLine := by
    rw [← Paired.length rel]
    exact short
  have here := rel.val k
  rw [hv] at here
  obtain ⟨p, hp, rp⟩ : ∃ p, atKey pairs k = some p ∧ RelV v p.2 := by
    cases q : atKey pairs k with
    | none =>
      rw [q] at here
      exact (show False from here).elim
    | some p =>
      rw [q] at here
      exact ⟨p, rfl, here⟩
  refine call_meetsIn PySem.F.slot_dict_pop dict.typeIs PySem.F.entry_dict_pop (PySem.F.args_dict_pop_2 _ _) (meets_pop_one (knd := tupleKind (mixKind X.prog X.w)) (k := k) low)
    ⟨pairs, p, tupleKind_room_in1 hu, key_of I2.hok hb, dict, short2, hp, fun h2 tk dict2 same => ?_⟩
  obtain ⟨ob, es, ep, g1, g2, g3, g4, _, g5⟩ := dict2
  have keeps : L2.Inv X pins σ (upd H2 a (.dT (dropK kvs k))) { st2 with heap := h2, toks := tk } := by
    refine d_write I2 (by rw [ha]; exact True.intro) same ⟨ob, g1⟩ ⟨Nat.le_trans (dropK_le kvs k) short, low, _, ?_, ob, es, ep, g1, g2, g3, g4, g5⟩
    refine (L2.DX.KT_drop k rel).keeps fun c ys hc => ?_
    rw [upd_ne (ne_of hc ha fun z => nomatch z)]
    exact hc
  show EP X pins σ Q p.2 _
  exact ⟨v, _, keeps, rp, q2⟩
end
end Lp
set_option maxHeartbeats 400000000
namespace Lp
open PySem PySem.W PySem.Calls PyProof.Rows PyProof.V PySem.Spec L2
/-! ### xs[i::2] -/
theorem evens_vals {l : List V} {us : List Value} (r : Vals l us) : Vals (evens l) (evens us) := by
  match l, us, r with
  | [], _, .nil => exact .nil
  | [_], _, .cons h .nil => exact .cons h .nil
  | _ :: _ :: _, _, .cons h (.cons _ r) => exact .cons h (evens_vals r)
theorem pick_evens {α : Type} : ∀ ys : List α, ((List.range ((ys.length + 1) / 2)).map fun k => 2 * k).filterMap (fun i => ys[i]?) = evens ys
  | [] => by simp [evens]
  | [a] => by simp [evens, List.range_succ]
  | a :: b :: r => by
    have e : ((a :: b :: r).length + 1) / 2 = (r.length + 1) / 2 + 1 := by
      simp only [List.length_cons]
      omega
    have ih := pick_evens r
    rw [e, List.range_succ_eq_map, List.map_cons, List.map_map, List.filterMap_cons]
    show a :: _ = a :: evens r
    congr 1
    rw [← ih, List.filterMap_map, List.filterMap_map]
    congr 1
theorem pick_from {α : Type} (xs : Array α) (a c : Nat) : ((List.range c).map fun k => a + 2 * k).filterMap (xs[·]?) = ((List.range c).map fun k => 2 * k).filterMap (fun i => (xs.toList.drop a)[i]?) := by
  rw [List.filterMap_map, List.filterMap_map]
  congr 1
  funext k
  simp [List.getElem?_drop]
theorem slicePick_evens (its : List Value) (i : Nat) : slicePick its.toArray (some (i : Int)) none (some 2) = (evens (its.drop i)).toArray := by
  have hb : sliceBounds (some (i : Int)) none (some 2) its.toArray.size = (((min i its.length : Nat) : Int), ((its.length : Nat) : Int), 2) := by
    have neg : ¬ ((i : Int) < 0) := by omega
    have two : (2 : Int) > 0 := by decide
    simp only [sliceBounds, Option.getD_some, List.size_toArray, neg, two, if_false, if_true]
    congr 1
    omega
  unfold slicePick
  rw [hb]
  show ((sliceRange ((min i its.length : Nat) : Int) ((its.length : Nat) : Int) 2).filterMap (its.toArray[·]?)).toArray = _
  have hr : sliceRange ((min i its.length : Nat) : Int) ((its.length : Nat) : Int) 2 = (List.range (((its.drop (min i its.length)).length + 1) / 2)).map fun k => min i its.length + 2 * k := by
    unfold sliceRange
    simp only [show (2 : Int) > 0 by decide, if_true]
    have ec : (if ((min i its.length : Nat) : Int) < ((its.length : Nat) : Int) then (((its.length : Nat) : Int) - ((min i its.length : Nat) : Int) + 2 - 1) / 2 else 0).toNat = ((its.drop (min i its.length)).length + 1) / 2 := by
      rw [List.length_drop]
      by_cases h : ((min i its.length : Nat) : Int) < ((its.length : Nat) : Int)
      · rw [if_pos h]
        omega
      · rw [if_neg h]
        omega
    rw [ec]
    apply List.map_congr_left
    intro k _
    omega
  rw [hr, pick_from, List.toList_toArray, pick_evens]
  by_cases h : i ≤ its.length
  · rw [Nat.min_eq_left h]
  · rw [Nat.min_eq_right (by omega), List.drop_of_length_le (Nat.le_refl _), List.drop_of_length_le (by omega)]
section
variable {X : Cx}
def tEvery (K : PySem.W.Frag) (i : Nat) (te : TE) : TE := fun σ H Q => te σ H fun x H1 => ∃ a xs, x = .ref a ∧ SqL K H1 a xs ∧ ∀ p, H1 p = none → Q (.ref p) (upd H1 p (.lst (evens (xs.drop i))))
theorem pe_every {e : Expr} {te : TE} {i k j : Nat} {p1 p2 p3 pos : Pos} (he : PE X e te) : PE X (.Subscript e (.Slice (some (.Constant (.int (i : Int)) k p1)) none (some (.Constant (.int 2) j p2)) p3) pos) (tEvery X.K i te) := by
  refine ⟨fun pn s0 σ H Q iv hh => ?_⟩
  refine Subscript_ (thn (he.run pn s0 σ H _ iv hh) fun v s1 ⟨x, H1, I1, r1, q1⟩ => ?_)
  obtain ⟨a, xs, ex, hx, q⟩ := q1
  subst ex
  cases r1
  have hlo : PO X (some (.Constant (.int (i : Int)) k p1)) (tPart (tC (.int (i : Int)))) := po_some pe_int
  have hst : PO X (some (.Constant (.int 2) j p2)) (tPart (tC (.int 2))) := po_some pe_int
  refine wpAny_Slice (thn (hlo.run pn s1 σ H1 (fun o H2 => o = some (i : Int) ∧ H2 = H1) I1 ⟨(i : Int), rfl, rfl, rfl⟩) fun vl s2 ⟨l, H2, I2, pl, el, e2⟩ => ?_)
  subst el e2
  refine thn (po_none.run pn s2 σ H2 (fun o H3 => o = none ∧ H3 = H2) I2 ⟨rfl, rfl⟩) fun vu s3 ⟨u, H3, I3, pu, eu, e3⟩ => ?_
  subst eu e3
  refine thn (hst.run pn s3 σ H3 (fun o H4 => o = some 2 ∧ H4 = H3) I3 ⟨2, rfl, rfl, rfl⟩) fun vs s4 ⟨o, H4, I4, ps, eo, e4⟩ => ?_
  subst eo e4
  have I5 : Inv X pn σ H4 { s4 with heap := s4.heap.push { cls := .type "slice", data := .fields #[vl, vu, vs] } } := I4.kept (t' := s4.toks) fun b ob q => Heap.get?_push_of_some _ q
  obtain ⟨its, r, ht, hz⟩ := I5.list hx
  have hlen := r.length
  show wpAny (model X.prog X.w) X.A (subscriptTail e (.Slice (some (.Constant (.int (i : Int)) k p1)) none (some (.Constant (.int 2) j p2)) p3) (.ref a) (.ref s4.heap.objs.size)) (EP X pn σ Q) X.xe { s4 with heap := s4.heap.push { cls := .type "slice", data := .fields #[vl, vu, vs] } }
  refine tail_any (ops := [.ref a, .ref s4.heap.objs.size]) ht.isList.typeIs (PySem.slot_list_getitem.lookup) ?_ (by with_unfolding_all rfl)
  refine wpAny_getItem_list_slice ht.isList (Heap.IsSliceOf.new _ vl vu vs) pl pu ps (by decide) ?_ (by rw [List.size_toArray]; omega)
  rw [slicePick_evens]
  refine ⟨.ref _, _, I5.laid (t' := s4.toks) (o := .lst (evens (xs.drop i))) (fun b ob q => Heap.get?_push_of_some _ q) (Nat.le_refl _) ?_, rfl, q _ (I5.hok.fresh (Nat.le_refl _))⟩
  exact ⟨Nat.le_trans (evens_length _) (by rw [List.length_drop]; omega), _, 0, evens_vals (r.drop i), Heap.get?_push_size _ rfl⟩
end
end Lp
set_option maxHeartbeats 400000000
namespace Lp
open PySem PySem.W PySem.Calls PyProof.Rows PyProof.V PySem.Spec L2
section
variable {X : Cx} {pn : List (Addr × Obj)} {σ : L2.St} {H : Hp} {st : Shared}
/-- what the lambda's object is -/
abbrev lamO (q : Str) (ar : Arguments) (bd : Expr) (sc : Scope) (pm : Value) (c : Addr) (ct : Value) : Obj := PySem.W.kla_obj "<lambda>" q ar bd sc [] pm c ct
/-- a lambda of one parameter y, without captured names, called somewhere within a built-in's call -/
theorem lam_call1 {k : Nat} {A : Around} {f c : Addr} {q y : Str} {ar : Arguments} {bd : Expr} {sc : Scope} {pm ct u : Value} {x : V} {tb : TE} {Q : VK} (iv : Inv X pn σ H st) (e0 : Env0 X.prog X.w X.K X.mg X.base A X.stack st H)
    (hf : st.heap.get? f = some (lamO q ar bd sc pm c ct)) (hc : H c = some (LamX.CodeO c q)) (S : FnScope [y] [y] sc) (hb : bindArgs (PySem.W.kla_fn "<lambda>" q ar bd sc [] pm (.ref c) ct) ⟨[u], []⟩ = pure [(y, u)])
    (hr : Room (k + 1) A) (rx : RelV x u) (hbody : PE (cxOf L2.CX0 X.prog X.w X.K X.mg X.base [y] q sc f (.ref c) A X.stack st H L2.E0) bd tb) (ht : tb (start [y] [x]) H Q) :
    codeAny (model X.prog X.w) A (.call (.ref f) ⟨[u], []⟩) (CR L2.CX0 X.stack X.prog X.w H st Q L2.E0) st := by
  obtain ⟨⟨oc, fs, t, g1, g2, g3⟩, _, _⟩ := iv.hok c _ hc
  have lim : st.heap.NoLimit := e0.mod.nolimit.keeps fun b o e => (e0.bs b o e).1
  refine PySem.W.kla_callFunE hr.depth hf rfl S.co S.gen rfl ⟨c, oc, fs, t, rfl, g1, g2, g3⟩ ?_
  rw [hb]
  have kinds : ∀ z ∈ [(y, u)], sc.names.lookup z.1 = some .local ∨ (sc.names.lookup z.1 = some .cell ∧ ((cellsFrom (st.heap.objs.size + 1) sc.names []).lookup z.1).isSome = true) := fun z hz => by
    rw [List.mem_singleton.mp hz]
    rcases S.par y (List.mem_singleton.mpr rfl) with g | g
    · exact .inl g
    · exact .inr ⟨g, PySem.W.cellsFrom_some _ _ _ (.inl g)⟩
  refine wpAny_pure (wpAny_newFunctionEnv_cells S.kind kinds fun env he s1 inC => ?_)
  subst he
  refine ⟨lim.keeps inC.toInCall.keep, PySem.W.kla_codeExpr ?_⟩
  have J : Inv (cxOf L2.CX0 X.prog X.w X.K X.mg X.base [y] q sc f (.ref c) A X.stack st H L2.E0) [] (start [y] [x]) H s1 := inv_start S hr.hd e0 rfl (.cons rx .nil) inC
  refine wpAny_mono (hbody.run [] s1 _ H Q J ht) (fun v s2 hq => ?_) fun e s2 hq => hq
  obtain ⟨z, H2, J2, rz, qz⟩ := hq
  exact ⟨z, H2, J2.os, J2.bare, J2.base, J2.hok, rz, qz⟩
/-- an address at which nothing that matters stands: new since st -/
structure Loose (X : Cx) (pn : List (Addr × Obj)) (b : Addr) : Prop where
  late : X.s_0.heap.objs.size ≤ b
  loc : b ≠ X.env.locals
  cell : ∀ x c, X.env.cells.lookup x = some c → c ≠ b
  pin : ∀ p ∈ X.pn ++ pn, p.1 ≠ b
  frame : b ∉ frs X.stack
theorem loose_of (iv : Inv X pn σ H st) {b : Addr} (h : st.heap.objs.size ≤ b) : Loose X pn b := by
  refine ⟨Nat.le_trans iv.sz h, Nat.ne_of_gt (Nat.lt_of_lt_of_le iv.lt h), fun x c e z => ?_, fun p hp z => ?_, fun z => ?_⟩
  · obtain ⟨v, o, ho, _⟩ := iv.cell x c e
    exact absurd (Heap.lt_size ho) (by rw [z]; exact Nat.not_lt.mpr h)
  · exact absurd (Heap.lt_size (iv.pin p hp).1) (by rw [z]; exact Nat.not_lt.mpr h)
  · rcases List.mem_cons.mp (iv.stkSub _ z) with e | e
    · exact absurd iv.lt (by rw [← e]; exact Nat.not_lt.mpr h)
    · exact iv.nofs h e
/-- such an object is written: nothing changes -/
theorem poke {b : Addr} {g : Obj → Obj} {tk : Nat} (iv : Inv X pn σ H st) (lo : Loose X pn b) (hb : H b = none) : Inv X pn σ H { st with heap := st.heap.update b g, toks := tk } := by
  have nb : ∀ d u, H d = some u → d ≠ b := fun d u e z => by
    rw [z, hb] at e
    cases e
  have at_ : ∀ d, d ≠ b → (st.heap.update b g).get? d = st.heap.get? d := fun d hd => Heap.get?_update_ne st.heap d b g hd
  refine iv.step (g' := st.gens) (d' := st.drawn) (ch := [b]) (fun d hd => ?_) (fun d o _ _ hd e _ => ?_) (fun d o _ _ hd e _ => ⟨o.slots, ?_⟩) (fun d o _ _ n => n) (fun d o hd e => ⟨o, ?_⟩) (fun d xs e => e) (fun d o u e => e) (fun d ps e => ⟨#[], by simpa using e⟩) (fun m hn => ?_) (fun d u e => ?_) iv.bare
  · rw [List.mem_singleton.mp hd]
    exact ⟨.inr lo.late, lo.loc, lo.cell, lo.pin⟩
  · rw [at_ d (fun z => hd (List.mem_singleton.mpr z))]
    exact e
  · rw [at_ d (fun z => hd (List.mem_singleton.mpr z))]
    exact e
  · rw [at_ d (fun z => hd (List.mem_singleton.mpr z))]
    exact e
  · obtain ⟨ob, es, ep, ho, r⟩ := hn
    exact ⟨ob, es, ep, (at_ _ lo.loc.symm).trans ho, r⟩
  · refine (iv.hok d u e).stay (fun d2 v hd q => ?_) (fun d2 q => q) fun d2 xs q => q
    rcases hd with z | z
    · rw [z, at_ d (nb d u e), ← z]
      exact q
    · rw [at_ d2 (nb d2 _ z)]
      exact q
/-- such an object is told from now on -/
theorem adopt {b : Addr} {o : HO} (iv : Inv X pn σ H st) (lo : Loose X pn b) (hb : H b = none) (there : ∃ u, st.heap.get? b = some u) (ok : ObjOk X.prog X.w (upd H b o) st.heap b o) : Inv X pn σ (upd H b o) st := by
  have nb : ∀ d u, H d = some u → d ≠ b := fun d u e z => by
    rw [z, hb] at e
    cases e
  have up : ∀ d u, H d = some u → upd H b o d = some u := fun d u e => by
    rw [upd_ne (nb d u e)]
    exact e
  have iv2 := iv.step (H' := upd H b o) (h' := st.heap) (g' := st.gens) (t' := st.toks) (d' := st.drawn) (ch := [b]) (fun d hd => by rw [List.mem_singleton.mp hd]; exact ⟨.inr lo.late, lo.loc, lo.cell, lo.pin⟩) (fun d u _ _ _ e _ => e) (fun d u _ _ _ e _ => ⟨u.slots, e⟩)
    (fun d u hd e n => by rw [upd_ne (fun z => hd (List.mem_singleton.mpr z))]; exact n) (fun d u _ e => ⟨u, e⟩) (fun d xs e => up d _ e) (fun d u v e => up d _ e) (fun d ps e => ⟨#[], by rw [Array.append_empty]; exact up d _ e⟩) (fun m hn => hn) (fun d u e => ?_) iv.bare
  · exact iv2
  · by_cases hd : d = b
    · rw [hd] at e ⊢
      rw [upd_same] at e
      cases e
      exact ok
    · rw [upd_ne hd] at e
      exact (iv.hok d u e).stay (fun _ _ _ q => q) (fun d2 q => up d2 _ q) fun d2 xs q => up d2 _ q
end
/-! ### list.sort by a key, on the heap as it is -/
section
variable {prog : Program} {w : World} {A : Around} {E : Value → Shared → Prop} {st : Shared} {a ks : Addr} {keys : Array Value} {its : List Value} {kz : List Int} {e e1 : Nat} {P : PySem.Fin → Shared → Prop}
theorem key_tail {S : SortSt} (h1 : st.heap.get? ks = some (seqObj "list" keys e)) (h2 : st.heap.get? a = some (seqObj "list" #[] e1)) (ne : ks ≠ a) (ik : IntsAre keys.toList kz) (ln : kz.length = its.length) (few : its.length ≤ sizeLine)
    (pm : (arrOf S).Perm (keys.zip its.toArray)) (so : SortedTo (arrOf S) (arrOf S).size) (nf : failedOf S = none) (sb : Stable intKind (arrOf S) (keys.zip its.toArray))
    (go : ∀ (out : Array Value) (tk : Nat), KskOutSt false kz its out.toList → P (.done (.ret .none)) { st with heap := (st.heap.update ks (Obj.mapSeq fun _ => #[])).update a (Obj.mapSeq fun _ => out), toks := tk }) :
    wpAny (model prog w) A (ksk_tail a false e1 (.ref ks) S) P E st := by
  have few2 := few
  rw [sizeLine_eq] at few2
  have kl : keys.size = its.length := by
    have := ik.length
    rw [Array.length_toList] at this
    omega
  have ol : (arrOf S).size = its.length := by rw [pm.size_eq, Array.size_zip, kl, List.size_toArray, Nat.min_self]
  have h3 : (st.heap.update ks (Obj.mapSeq fun _ => (#[] : Array Value))).get? a = some (seqObj "list" #[] e1) := (Heap.get?_update_ne _ _ _ _ ne.symm).trans h2
  have so2 : KskOutSt false kz its ((arrOf S).map (·.2)).toList := by
    have z := ksk_outSt (b := false) ik pm so (by simpa using sb)
    simpa using z
  unfold ksk_tail
  try dsimp only
  refine wpAny_bind (listUpdate_at h1 rfl ?_ (by rw [kl]; exact few) (Nat.zero_le _))
  refine wpAny_bind (wpAny_letGo ?_)
  refine wpAny_bind (seqEpoch_at h3 rfl ?_)
  refine wpAny_bind (listUpdate_at h3 rfl ?_ (Nat.zero_le _) (by simp only [Bool.false_eq_true, if_false, Array.size_map]; rw [ol, sizeLine_eq]; omega))
  rw [nf]
  simp only [bne_self_eq_false, Bool.false_eq_true, if_false]
  exact wpAny_pure (go _ _ so2)
theorem key_end (h1 : st.heap.get? ks = some (seqObj "list" keys e)) (h2 : st.heap.get? a = some (seqObj "list" #[] e1)) (ne : ks ≠ a) (ik : IntsAre keys.toList kz) (ln : kz.length = its.length) (few : its.length ≤ sizeLine)
    (go : ∀ (out : Array Value) (tk : Nat), KskOutSt false kz its out.toList → P (.done (.ret .none)) { st with heap := (st.heap.update ks (Obj.mapSeq fun _ => #[])).update a (Obj.mapSeq fun _ => out), toks := tk }) :
    wpAny (model prog w) A (ksk_end a false its.toArray e1 (.ref ks) keys) P E st := by
  have kl : keys.size = its.length := by
    have := ik.length
    rw [Array.length_toList] at this
    omega
  have zl : (keys.zip its.toArray).size = its.length := by rw [Array.size_zip, kl, List.size_toArray, Nat.min_self]
  unfold ksk_end
  try dsimp only
  simp only [Bool.false_eq_true, if_false]
  by_cases two : its.toArray.size < 2
  · rw [if_pos two, if_pos two]
    refine wpAny_bind (wpAny_pure ?_)
    rw [StateT.run_pure]
    refine wpAny_bind (wpAny_pure ?_)
    try dsimp only
    refine key_tail (S := SortSt.mk' general' (keys.zip its.toArray) #[] 7 none) h1 h2 ne ik ln few (Array.Perm.refl _) ?_ rfl (Stable.refl _) go
    intro i j ij jl
    have jl2 : j < (keys.zip its.toArray).size := jl
    rw [zl] at jl2
    rw [List.size_toArray] at two
    have : i = j := by omega
    subst this
    exact Int.le_refl _
  · rw [if_neg two, if_neg two]
    rw [List.size_toArray] at two
    rw [ksk_kind ik (by rw [kl]; omega)]
    refine wpAny_bind (wpAny_pure ?_)
    refine wpAny_bind (wpAny_mono (wpS_sortRunsSt (κ := intKind) (a₀ := keys.zip its.toArray) (st := SortSt.mk' oneType' (keys.zip its.toArray) #[] 7 none)
      (Q := fun _ z => (arrOf z).Perm (keys.zip its.toArray) ∧ failedOf z = none ∧ SortedTo (arrOf z) (arrOf z).size ∧ Stable intKind (arrOf z) (keys.zip its.toArray))
      intKind_oneLt (ksk_keysOfInt (ksk_intKeys ik)) ⟨Array.Perm.refl _, rfl, rfl⟩ rfl (Stable.refl _) (by rw [zl]; omega)
      fun z z1 z2 z3 z4 => ⟨z1, z2, by rw [z1.size_eq]; exact sortedTo_of_int z3, z4⟩) ?_ fun _ _ z => z)
    rintro ⟨⟨⟩, z⟩ s2 ⟨rfl, z1, z2, z3, z4⟩
    try dsimp only
    exact key_tail h1 h2 ne ik ln few z1 z3 z2 z4 go
end
/-! ### sorted(l, key=f) under the invariant: f called gives a whole number of each item, and leaves what is told -/
def addrOf : Value → Addr
  | .ref a => a
  | _ => 0
theorem vals_refs : ∀ {as : List Addr} {us : List Value}, Vals (as.map V.ref) us → us = as.map Value.ref
  | [], _, .nil => rfl
  | a :: r, _, .cons h t => by
    cases h
    rw [vals_refs t]
    rfl
theorem refs_vals : ∀ as : List Addr, Vals (as.map V.ref) (as.map Value.ref)
  | [] => .nil
  | a :: r => .cons rfl (refs_vals r)
theorem zip_map_self {α β γ : Type} (f : α → β) (g : α → γ) : ∀ l : List α, (l.map f).zip (l.map g) = l.map fun x => (f x, g x)
  | [] => rfl
  | x :: r => congrArg _ (zip_map_self f g r)
theorem out_addrs {k : Addr → Int} {as : List Addr} {out : List Value} (h : KskOutSt false (as.map k) (as.map Value.ref) out) : ∃ bs : List Addr, out = bs.map Value.ref ∧ bs.Perm as ∧ bs.Pairwise (fun x y => k x ≤ k y) ∧ ∀ z, bs.filter (fun x => k x == z) = as.filter (fun x => k x == z) := by
  obtain ⟨ps, h1, h2, h3, h4⟩ := h
  rw [zip_map_self] at h1 h4
  have hm : ∀ p ∈ ps, p = (k (addrOf p.2), Value.ref (addrOf p.2)) := fun p hp => by
    obtain ⟨x, _, e⟩ := List.mem_map.mp (h1.mem_iff.mp hp)
    rw [← e]
    rfl
  have ep : ps = (ps.map fun p => addrOf p.2).map fun x => (k x, Value.ref x) := by
    rw [List.map_map]
    conv => lhs; rw [← List.map_id ps]
    exact List.map_congr_left fun p hp => hm p hp
  have back : ∀ l : List Addr, (l.map fun x => (k x, Value.ref x)).map (fun p => addrOf p.2) = l := fun l => by
    rw [List.map_map]
    exact List.map_id l
  generalize (ps.map fun p => addrOf p.2) = bs at ep
  subst ep
  refine ⟨bs, ?_, ?_, ?_, fun z => ?_⟩
  · rw [h2, List.map_map]
    rfl
  · have := h1.map fun p => addrOf p.2
    rw [back, back] at this
    exact this
  · rw [List.pairwise_map] at h3
    exact h3.imp fun {x y} hxy => by simpa using hxy
  · have e4 := congrArg (fun l => l.map fun p : Int × Value => addrOf p.2) (h4 z)
    simp only [List.filter_map, back] at e4
    exact e4
section
variable {X : Cx} {pn : List (Addr × Obj)} {σ : L2.St} {H : Hp} {st : Shared}
theorem sorted_by {l f : Addr} {fo : Obj} {as : List Addr} {k : Addr → Int} {Q : VK} (iv : Inv X pn σ H st) (hl : SqL X.K H l (as.map V.ref)) (hf : st.heap.get? f = some fo) (nf : H f = none) (ff : f ∉ frs X.stack)
    (turn : ∀ s1, Inv X pn σ H s1 → s1.heap.get? f = some fo → ∀ x ∈ as, codeAny (model X.prog X.w) X.A.in1.in1 (.call (.ref f) ⟨[.ref x], []⟩) (CR L2.CX0 X.stack X.prog X.w H s1 (fun v H' => v = .int (k x) ∧ H' = H) L2.E0) s1)
    (go : ∀ (p : Addr) (bs : List Addr), H p = none → bs.Perm as → bs.Pairwise (fun x y => k x ≤ k y) → (∀ z, bs.filter (fun x => k x == z) = as.filter (fun x => k x == z)) → Q (.ref p) (upd H p (.lst (bs.map V.ref)))) :
    wpAny (model X.prog X.w) X.A (call (.builtin "sorted") [.ref l] [(Str.ofString "key", .ref f)]) (EP X pn σ Q) X.xe st := by
  obtain ⟨its, rv, pl, zs⟩ := iv.list hl
  obtain rfl := vals_refs rv
  rw [List.length_map] at zs
  have few : (as.map Value.ref).length ≤ sizeLine := by rw [List.length_map]; exact zs
  have few2 := zs
  rw [sizeLine_eq] at few2
  refine call_function_entry_kw kind_sorted plain_sorted entry_sorted (ksk_s1 _ _) ?_
  unfold Builtin.«sorted»
  refine wpAny_bind (m := checkCount "sorted" 1 1 _) (wpAny_pure ?_)
  refine wpAny_bind (collect_list pl.isList ?_ few)
  refine wpAny_bind (wpAny_newList ?_ few)
  generalize hh1 : ((st.heap.push (seqObj "list" #[] 0)).update st.heap.objs.size (Obj.mapSeq (· ++ (as.map Value.ref).toArray))) = g1
  have z1 : g1.objs.size = st.heap.objs.size + 1 := by rw [← hh1, Heap.size_update, size_push']
  have k1 : ∀ b o, st.heap.get? b = some o → g1.get? b = some o := fun b o q => by
    rw [← hh1, Heap.get?_update_ne _ _ _ _ (Nat.ne_of_lt (Heap.lt_size q))]
    exact Heap.get?_push_of_some _ q
  show wpAny _ _ (do let _ ← holding _ (call (.builtin "list.sort") [.ref g1.objs.size] _); _) _ _ { st with heap := g1.push (seqObj "list" (as.map Value.ref).toArray 0) }
  have oD : (g1.push (seqObj "list" (as.map Value.ref).toArray 0)).get? g1.objs.size = some (seqObj "list" (as.map Value.ref).toArray 0) := Heap.get?_push_size _ rfl
  have lD : Loose X pn g1.objs.size := loose_of iv (by rw [z1]; exact Nat.le_succ _)
  have nD : H g1.objs.size = none := iv.hok.fresh (by rw [z1]; exact Nat.le_succ _)
  have iv2 : Inv X pn σ H { st with heap := g1.push (seqObj "list" (as.map Value.ref).toArray 0) } := iv.kept (t' := st.toks) fun b o q => Heap.get?_push_of_some _ (k1 b o q)
  have f2 : (g1.push (seqObj "list" (as.map Value.ref).toArray 0)).get? f = some fo := Heap.get?_push_of_some _ (k1 _ _ hf)
  have fD : f ≠ g1.objs.size := Nat.ne_of_lt (by rw [z1]; exact Nat.lt_succ_of_lt (Heap.lt_size hf))
  generalize g1.objs.size = D at oD lD nD fD ⊢
  generalize g1.push (seqObj "list" (as.map Value.ref).toArray 0) = g2 at oD iv2 f2 ⊢
  refine wpAny_bind (wpAny_holding (wpAny_call_entry_kw slot_list_sort ⟨_, oD, rfl⟩ entry_list_sort ?_ (ksk_l1 _ _)))
  rw [ksk_t1]
  unfold ksk_tree
  refine wpAny_bind (listItems_at oD rfl ?_)
  refine wpAny_bind (listUpdate_at oD rfl ?_ (by rw [List.size_toArray]; exact few) (Nat.zero_le _))
  obtain ⟨e1, o3⟩ : ∃ e1, (g2.update D (Obj.mapSeq fun _ => (#[] : Array Value))).get? D = some (seqObj "list" #[] e1) := ⟨_, get?_update_seq oD fun _ => #[]⟩
  have iv3 : Inv X pn σ H { st with heap := g2.update D (Obj.mapSeq fun _ => (#[] : Array Value)) } := poke (tk := st.toks) iv2 lD nD
  have f3 : (g2.update D (Obj.mapSeq fun _ => (#[] : Array Value))).get? f = some fo := (Heap.get?_update_ne _ _ _ _ fD).trans f2
  show wpAny _ _ _ _ _ { st with heap := g2.update D (Obj.mapSeq fun _ => (#[] : Array Value)) }
  generalize g2.update D (Obj.mapSeq fun _ => (#[] : Array Value)) = g3 at o3 iv3 f3 ⊢
  refine wpAny_bind (seqEpoch_at o3 rfl ?_)
  refine wpAny_bind (wpAny_newTuple ?_ (by show (as.map Value.ref).toArray.toList.length ≤ _; rw [List.toList_toArray]; exact few))
  refine wpAny_bind (wpAny_newList ?_ (Nat.zero_le _))
  refine wpAny_holding ?_
  show wpAny _ _ (ksk_rest D (.ref f) false _ e1 (.ref (g3.push (seqObj "tuple" (as.map Value.ref).toArray 0)).objs.size)) _ _ { st with heap := (g3.push (seqObj "tuple" (as.map Value.ref).toArray 0)).push (seqObj "list" #[] 0) }
  have z4 : g3.objs.size ≤ (g3.push (seqObj "tuple" (as.map Value.ref).toArray 0)).objs.size := by rw [size_push']; exact Nat.le_succ _
  have oK : ((g3.push (seqObj "tuple" (as.map Value.ref).toArray 0)).push (seqObj "list" #[] 0)).get? (g3.push (seqObj "tuple" (as.map Value.ref).toArray 0)).objs.size = some (seqObj "list" #[] 0) := Heap.get?_push_size _ rfl
  have lK : Loose X pn (g3.push (seqObj "tuple" (as.map Value.ref).toArray 0)).objs.size := loose_of iv3 z4
  have nK : H (g3.push (seqObj "tuple" (as.map Value.ref).toArray 0)).objs.size = none := iv3.hok.fresh z4
  have k4 : ∀ b o, g3.get? b = some o → ((g3.push (seqObj "tuple" (as.map Value.ref).toArray 0)).push (seqObj "list" #[] 0)).get? b = some o := fun b o q => Heap.get?_push_of_some _ (Heap.get?_push_of_some _ q)
  have iv4 : Inv X pn σ H { st with heap := (g3.push (seqObj "tuple" (as.map Value.ref).toArray 0)).push (seqObj "list" #[] 0) } := iv3.kept (t' := st.toks) k4
  have o4 := k4 _ _ o3
  have f4 := k4 _ _ f3
  have ne : (g3.push (seqObj "tuple" (as.map Value.ref).toArray 0)).objs.size ≠ D := Nat.ne_of_gt (Nat.lt_of_lt_of_le (Heap.lt_size o3) z4)
  have fK : f ≠ (g3.push (seqObj "tuple" (as.map Value.ref).toArray 0)).objs.size := Nat.ne_of_lt (Nat.lt_of_lt_of_le (Heap.lt_size f3) z4)
  generalize (g3.push (seqObj "tuple" (as.map Value.ref).toArray 0)).objs.size = ks at oK lK nK ne fK ⊢
  generalize (g3.push (seqObj "tuple" (as.map Value.ref).toArray 0)).push (seqObj "list" #[] 0) = g4 at oK iv4 o4 f4 ⊢
  unfold ksk_rest
  refine wpAny_bind (wpAny_rule ?_)
  rw [List.forIn_toArray]
  refine wpAny_bind (ksk_fold (fun i s1 => ∃ (ka : Array Value) (e : Nat), Inv X pn σ H s1 ∧ s1.heap.get? f = some fo ∧ s1.heap.get? D = some (seqObj "list" #[] e1) ∧ s1.heap.get? ks = some (seqObj "list" ka e) ∧ IntsAre ka.toList ((as.map k).take i)) (as.map Value.ref) 0 _
    ⟨#[], 0, iv4, f4, o4, oK, by simpa using IntsAre.nil⟩ ?step ?done)
  case step =>
    rintro j u s1 hu ⟨ka, e, jv, jf, jD, jK, ji⟩
    simp only [Nat.zero_add] at ji ⊢
    rw [List.getElem?_map] at hu
    obtain ⟨x, hx, rfl⟩ : ∃ x, as[j]? = some x ∧ Value.ref x = u := by
      cases q : as[j]? with
      | none => rw [q] at hu; cases hu
      | some x => rw [q] at hu; exact ⟨x, rfl, Option.some.inj hu⟩
    have hj : j < as.length := (List.getElem?_eq_some_iff.mp hx).1
    have kl : ka.size ≤ as.length := by
      have := ji.length
      rw [Array.length_toList, List.length_take, List.length_map] at this
      omega
    refine wpAny_bind (wpAny_attempt (wpAny_call (codeAny_mono (turn s1 jv jf x (List.mem_of_getElem? hx)) fun r s2 hr => ?_)))
    cases r with
    | error er => exact False.elim hr
    | ok fl =>
      cases fl with
      | next => exact False.elim hr
      | brk => exact False.elim hr
      | cont => exact False.elim hr
      | ret v =>
        have jv2 := jv.after hr
        obtain ⟨v0, H0, os, bare, un, ok0, r0, rfl, rfl⟩ := hr
        obtain ⟨v1, H1, jw, r1, e1v, rfl⟩ := jv2
        obtain ⟨t, rfl⟩ := r0
        have jf2 := un.keep f _ jf nf ff (by simp)
        have jD2 := un.keep D _ jD nD lD.frame (by simp)
        have jK2 := un.keep ks _ jK nK lK.frame (by simp)
        try dsimp only
        have ek : (as.map k).take (j + 1) = (as.map k).take j ++ [k x] := by
          rw [List.take_add_one, List.getElem?_map, hx]
          rfl
        have ea : (ka.push (Value.int (k x) t)).toList = ka.toList ++ [Value.int (k x) t] := by simp
        refine wpAny_bind (listUpdate_at jK2 rfl ?_ (by rw [sizeLine_eq]; omega) (Nat.le_trans (Nat.le_of_eq (Array.size_push ..)) (by rw [sizeLine_eq]; omega)))
        refine wpAny_pure ⟨rfl, ka.push (.int (k x) t), _, poke (tk := s2.toks) jw lK nK, (Heap.get?_update_ne _ _ _ _ fK).trans jf2, (Heap.get?_update_ne _ _ _ _ ne.symm).trans jD2, get?_update_seq jK2 (·.push (.int (k x) t)), ?_⟩
        rw [ea, ek]
        exact ksk_snoc ji
  case done =>
    rintro s1 ⟨ka, e, jv, jf, jD, jK, ji⟩
    have ji2 : IntsAre ka.toList (as.map k) := by
      rw [List.take_of_length_le (by rw [List.length_map, List.length_map]; omega)] at ji
      exact ji
    try dsimp only
    refine wpAny_bind (listItems_at jK rfl ?_)
    refine key_end jK jD ne ji2 (by rw [List.length_map, List.length_map]) few fun out tk ho => ⟨_, rfl, wpAny_pure ⟨_, rfl, ?_⟩⟩
    obtain ⟨bs, eo, b1, b2, b3⟩ := out_addrs ho
    have jv2 : Inv X pn σ H { s1 with heap := (s1.heap.update ks (Obj.mapSeq fun _ => #[])).update D (Obj.mapSeq fun _ => out), toks := tk } := poke (tk := tk) (poke (g := Obj.mapSeq fun _ => #[]) (tk := s1.toks) jv lK nK) lD nD
    have jD2 : (s1.heap.update ks (Obj.mapSeq fun _ => (#[] : Array Value))).get? D = some (seqObj "list" #[] e1) := (Heap.get?_update_ne _ _ _ _ ne.symm).trans jD
    have jD3 := get?_update_seq jD2 fun _ => out
    have eo2 : out = (bs.map Value.ref).toArray := by rw [← eo, Array.toArray_toList]
    rw [eo2] at jD3 jv2 ⊢
    refine ⟨.ref D, upd H D (.lst (bs.map V.ref)), adopt jv2 lD nD ⟨_, jD3⟩ ⟨by rw [List.length_map, b1.length_eq]; exact zs, bs.map Value.ref, _, refs_vals bs, jD3⟩, rfl, go D bs nD b1 b2 b3⟩
/-- sorted(e, key=lambda y: y.fl), the items instances of C -/
def sortR (K : PySem.W.Frag) (P C : Addr) (q fl : Str) (Q : VK) (x : V) (H1 : Hp) : Prop := ∃ (l : Addr) (as : List Addr) (k : Addr → Int), x = .ref l ∧ SqL K H1 l (as.map V.ref) ∧
  (∀ a ∈ as, ∃ dx fs, H1 a = some (.ins C dx fs) ∧ fs.lookup fl = some (.int (k a))) ∧ LamX.TabS H1 P q ∧
  ∀ (H2 : Hp) (p : Addr) (bs : List Addr), LamX.ExtN H1 H2 → LamX.TabS H2 P q → H2 p = none → bs.Perm as → bs.Pairwise (fun x y => k x ≤ k y) → (∀ z, bs.filter (fun x => k x == z) = as.filter (fun x => k x == z)) → Q (.ref p) (upd H2 p (.lst (bs.map V.ref)))
def tSortLam (K : PySem.W.Frag) (P C : Addr) (q fl : Str) (te : TE) : TE := fun σ H Q => te σ H fun x H1 => sortR K P C q fl Q x H1
theorem vis1 {y : Str} {sc : Scope} (S : FnScope [y] [y] sc) : Vis sc y := by
  rcases S.par y (List.mem_singleton.mpr rfl) with g | g
  · exact .inl g
  · exact .inr (.inl g)
theorem sqL_extN {K : PySem.W.Frag} {H1 H2 : Hp} {l : Addr} {xs : List V} (e : LamX.ExtN H1 H2) (h : SqL K H1 l xs) : SqL K H2 l xs := by
  rcases h with h | h
  · refine .inl ?_
    rcases h with h | ⟨o, h⟩
    · exact .inl (e _ _ h fun ps z => nomatch z)
    · exact .inr ⟨o, e _ _ h fun ps z => nomatch z⟩
  · exact .inr h
theorem pe_sortLam {y fl : Str} {e : Expr} {te : TE} {c P C : Addr} {ar : Arguments} {sc : Scope} {p p1 p2 lp kp pos : Pos} (hg : Gl X "sorted") (hm : X.mg "sorted" = none) (TB : LamX.TabB X.base X.mg c P) (hcode : X.env.code = .ref c) (hr : Room 3 X.A) (calm : X.calm = true) (ha : PA X [e] (tCons te tNil)) (hc : Cls X.K C) (hn : NoAttr X.K C fl)
    (S : FnScope [y] [y] sc) (hcl : ∀ cs, cloFrom cs sc.names [] = []) (hdef : defaultsOf ar X.env = ([], []))
    (hb : ∀ (q : Str) (pm cv ct u : Value), bindArgs (PySem.W.kla_fn "<lambda>" q ar (.Attribute (.Name y p1) fl p2) sc [] pm cv ct) ⟨[u], []⟩ = pure [(y, u)])
    (hs : backTo pos (starEach [e] X.env) = (false, eval e X.env) :: backTo pos (starEach [] X.env) := by rfl) (hpl : (backTo pos (starEach [e] X.env)).any (·.1) = false := by rfl)
    (hd : (y == ("__debug__" : Str)) = false := by decide) (hcd : (y == ("__classdict__" : Str)) = false := by decide) :
    PE X (.Call (.Name "sorted" p) [e] [⟨some "key", .Lambda ar (.Attribute (.Name y p1) fl p2) sc lp, kp⟩] pos) (tSortLam X.K P C (X.env.qual ++ "<lambda>") fl te) := by
  refine ⟨fun pn s0 σ H Q iv hh => ?_⟩
  refine wpAny_Call_Name_kw (ld_blt iv hg hm boot_sorted ?_ (by decide) (by decide))
  refine PyProof.Rows.callWith_kw (thn (ha.run pos pn s0 σ H (fun xs H1 => match xs with
    | [x] => sortR X.K P C (X.env.qual ++ "<lambda>") fl Q x H1
    | _ => False) iv hh) fun us s1 ⟨vs, H1, iv1, r1, q1⟩ => ?_) hs hpl (by rfl) (by rfl)
  match vs, r1, q1 with
  | [x], .cons rx .nil, q1 =>
    obtain ⟨l, as, k, rfl, hl, hi, tb, go⟩ := q1
    cases rx
    show wpAny _ _ (evalAll ((do let v ← eval (.Lambda ar (.Attribute (.Name y p1) fl p2) sc lp) X.env; standAt pos; pure v) :: [])) _ _ s1
    refine wpAny_evalAll_cons (wpAny_bind (LamX.lam_make2 (T := [(P, X.env.qual ++ "<lambda>")]) iv1 TB hcode (List.mem_singleton.mpr rfl) (fun z hz _ => by rw [List.mem_singleton.mp hz]) (fun z hz => by rw [List.mem_singleton.mp hz]; exact tb) hdef
      (fun z hz ez => absurd ez (S.nofree z hz)) fun f c2 pm ct H2 s2 iv2 ex tb2 hf nf ff hco => ?_))
    refine wpAny_bind (wpAny_standAt (wpAny_pure (wpAny_evalAll_nil ?_)))
    rw [hcl] at hf
    show wpAny _ _ (call (.builtin "sorted") [.ref l] [(Str.ofString "key", .ref f)]) _ _ s2
    refine sorted_by (k := k) iv2 (sqL_extN ex hl) hf nf ff (fun s3 iv3 f3 a ha2 => ?_) fun pp bs np b1 b2 b3 => go H2 pp bs ex (tb2 _ (List.mem_singleton.mpr rfl)) np b1 b2 b3
    obtain ⟨dx, fs, ho, hk⟩ := hi a ha2
    refine lam_call1 (k := 0) (x := .ref a) iv3 iv3.env0.in1.in1 f3 hco S (hb _ _ _ _ _) (hr.in1.in1) rfl (pe_fld (pe_var (i := 0) rfl (vis1 S) hd hcd) rfl) ?_
    exact ⟨.ref a, rfl, a, C, dx, fs, .int (k a), rfl, ex _ _ ho (fun ps z => nomatch z), hc, hn, hk, rfl, rfl⟩
end
end Lp
set_option maxHeartbeats 400000000
namespace Lp
open PySem PySem.Spec PyProof.Rows L2 Evl
/-! Words of my own over the hand layer -/
theorem pe_gi {X : Cx} {x : Str} {i : Int} {pos : Pos} (hg : Gl X x) (h : ∃ t, X.mg x = some (.int i t)) (hd : (x == ("__debug__" : Str)) = false := by decide) : PE X (.Name x pos) (tC (.int i)) := by
  obtain ⟨t, e⟩ := h
  exact pe_glob hg e ⟨t, rfl⟩ hd
def DefOk (P : Program) (w : World) (K : PySem.W.Frag) (mg : Str → Option Value) (base : Heap) (k : Nat) (f : Addr) (ps : List Str) (sp : Sp) : Prop :=
  ∃ fd : FuncData, FnOk P w K mg base CX0 k f fd ps sp ∧ Binds K fd ps [] ∧ PySem.W.keepIn K (.ref f) = true
/-- a def that only reckons: of the values vs it gives z, and what was there stays -/
def spZ (A : List V → V → Prop) : Sp := fun vs H Q _ => ∃ z, A vs z ∧ ∀ H', Ex H H' → Q z H'
theorem spZ_v {A : List V → V → Prop} {vs : List V} {H : Hp} {z : V} (h : A vs z) : SpV (spZ A) vs H z := fun H1 _ Q q E => ⟨z, h, q⟩
/-- the end of such a def's body: return e -/
theorem ret_ev {te : TE} {D : Ends} {σ : L2.St} {H : Hp} {z : V} (h : Ev te σ H z) (q : ∀ H', Ex H H' → D.rt z H') : tRet te D σ H := h H (Ex.refl H) _ q
theorem rv_ch {r r' : R2} {σ : L2.St} {H : Hp} {ta tb tc : TE} {x y z : V} {a : Bool} {b : Bool} (h1 : Ev ta σ H x) (h2 : Ev tb σ H y) (h3 : a = true → Ev tc σ H z) (hr : RV r x y H (.bl a)) (hr' : a = true → RV r' y z H (.bl b)) :
    Ev (tChain r r' ta tb tc) σ H (.bl (a && b)) := fun H1 e Q k =>
  h1 H1 e _ fun H2 e2 => h2 H2 (e.trans e2) _ fun H3 e3 => hr H3 ((e.trans e2).trans e3) _ fun H4 e4 => by
    refine ⟨a, rfl, ?_⟩
    cases a with
    | true =>
      rw [if_pos rfl]
      refine h3 rfl H4 (((e.trans e2).trans e3).trans e4) _ fun H5 e5 => ?_
      exact hr' rfl H5 ((((e.trans e2).trans e3).trans e4).trans e5) _ fun H6 e6 => k H6 ((((e2.trans e3).trans e4).trans e5).trans e6)
    | false =>
      rw [if_neg Bool.false_ne_true]
      exact k H4 ((e2.trans e3).trans e4)
/-- a def by its own code object -/
theorem okC {P : Program} {w : World} {K : PySem.W.Frag} {mg : Str → Option Value} {base : Heap} {x qual : Str} {ar : Arguments} {bd : List Stmt} {sc : Scope} {p : He.Defn} {fd : FuncData} {N ps : List Str} {k : Nat} {sp : Sp} (F : FunD K x qual ar bd sc [] [] (He.fAd K p) fd) (S : FnScope N ps sc) (len : ∀ vs H Q E, sp vs H Q E → vs.length = ps.length)
    (body : ∀ (A : Around) (outer : List Env) (s : Shared) (H : Hp) (vs : List V) (Q : VK) (E : XK), Room k (A.deeper (envOfC qual sc s.heap.objs.size (He.fAd K p) (.ref (He.codeOf K p)))) → sp vs H Q E →
      ∃ t, PSs (cxOf CX0 P w K mg base N qual sc (He.fAd K p) (.ref (He.codeOf K p)) A outer s H E) bd t ∧ t { nx := fun _ H' => Q .non H', rt := Q } (start N vs) H) : FnOk P w K mg base CX0 (k + 1) (He.fAd K p) fd ps sp := by
  obtain ⟨oc, od, dV, kV, doc, pm, an, cdv, ct, osl, rfl, lk, hcd, _, _⟩ := F.ex
  obtain ⟨c, rfl⟩ := He.codeIn_ref hcd
  have e : He.codeOf K p = c := He.codeOf_eq lk rfl
  rw [e] at body
  exact fn_of lk hcd S len fun A outer s H vs Q E hr hsp => body A outer s H vs Q E hr hsp
end Lp
set_option maxHeartbeats 400000000
namespace Lp
open PySem PySem.Spec PyProof.Rows L2
theorem lk_here {k : Str} {v : V} {r : List (Str × V)} : List.lookup k ((k, v) :: r) = some v := by simp [List.lookup]
theorem lk_past {k g : Str} {v : V} {r : List (Str × V)} (h : (k == g) = false) : List.lookup k ((g, v) :: r) = List.lookup k r := by simp [List.lookup, h]
theorem pf_here {f : Str} {v x : V} {r : List (Str × V)} : putF f v ((f, x) :: r) = (f, v) :: r := if_pos rfl
theorem pf_past {f g : Str} {v x : V} {r : List (Str × V)} (h : ¬ g = f) : putF f v ((g, x) :: r) = (g, x) :: putF f v r := if_neg h
def F_Head (v0 v1 v2 v3 v4 v5 v6 v7 : V) : List (Str × V) := [("hops", v0), ("what", v1), ("flags", v2), ("length", v3), ("name", v4), ("place", v5), ("sender", v6), ("to", v7)]
theorem F_Head_hops {v0 v1 v2 v3 v4 v5 v6 v7 : V} : List.lookup ("hops" : Str) (F_Head v0 v1 v2 v3 v4 v5 v6 v7) = some v0 := lk_here
theorem F_Head_put_hops {v0 v1 v2 v3 v4 v5 v6 v7 x : V} : putF "hops" x (F_Head v0 v1 v2 v3 v4 v5 v6 v7) = F_Head x v1 v2 v3 v4 v5 v6 v7 := pf_here
theorem F_Head_new_hops {v0 : V} : putF "hops" v0 ([] : List (Str × V)) = ([("hops", v0)] : List (Str × V)) := rfl
theorem F_Head_what {v0 v1 v2 v3 v4 v5 v6 v7 : V} : List.lookup ("what" : Str) (F_Head v0 v1 v2 v3 v4 v5 v6 v7) = some v1 := (lk_past (by decide +kernel)).trans (lk_here)
theorem F_Head_put_what {v0 v1 v2 v3 v4 v5 v6 v7 x : V} : putF "what" x (F_Head v0 v1 v2 v3 v4 v5 v6 v7) = F_Head v0 x v2 v3 v4 v5 v6 v7 := (pf_past (by decide +kernel)).trans (congrArg _ (pf_here))
theorem F_Head_new_what {v0 v1 : V} : putF "what" v1 ([("hops", v0)] : List (Str × V)) = ([("hops", v0), ("what", v1)] : List (Str × V)) := (pf_past (by decide +kernel)).trans (congrArg _ (rfl))
theorem F_Head_flags {v0 v1 v2 v3 v4 v5 v6 v7 : V} : List.lookup ("flags" : Str) (F_Head v0 v1 v2 v3 v4 v5 v6 v7) = some v2 := (lk_past (by decide +kernel)).trans ((lk_past (by decide +kernel)).trans (lk_here))
theorem F_Head_put_flags {v0 v1 v2 v3 v4 v5 v6 v7 x : V} : putF "flags" x (F_Head v0 v1 v2 v3 v4 v5 v6 v7) = F_Head v0 v1 x v3 v4 v5 v6 v7 := (pf_past (by decide +kernel)).trans (congrArg _ ((pf_past (by decide +kernel)).trans (congrArg _ (pf_here))))
theorem F_Head_new_flags {v0 v1 v2 : V} : putF "flags" v2 ([("hops", v0), ("what", v1)] : List (Str × V)) = ([("hops", v0), ("what", v1), ("flags", v2)] : List (Str × V)) := (pf_past (by decide +kernel)).trans (congrArg _ ((pf_past (by decide +kernel)).trans (congrArg _ (rfl))))
theorem F_Head_length {v0 v1 v2 v3 v4 v5 v6 v7 : V} : List.lookup ("length" : Str) (F_Head v0 v1 v2 v3 v4 v5 v6 v7) = some v3 := (lk_past (by decide +kernel)).trans ((lk_past (by decide +kernel)).trans ((lk_past (by decide +kernel)).trans (lk_here)))
theorem F_Head_put_length {v0 v1 v2 v3 v4 v5 v6 v7 x : V} : putF "length" x (F_Head v0 v1 v2 v3 v4 v5 v6 v7) = F_Head v0 v1 v2 x v4 v5 v6 v7 := (pf_past (by decide +kernel)).trans (congrArg _ ((pf_past (by decide +kernel)).trans (congrArg _ ((pf_past (by decide +kernel)).trans (congrArg _ (pf_here))))))
theorem F_Head_new_length {v0 v1 v2 v3 : V} : putF "length" v3 ([("hops", v0), ("what", v1), ("flags", v2)] : List (Str × V)) = ([("hops", v0), ("what", v1), ("flags", v2), ("length", v3)] : List (Str × V)) := (pf_past (by decide +kernel)).trans (congrArg _ ((pf_past (by decide +kernel)).trans (congrArg _ ((pf_past (by decide +kernel)).trans (congrArg _ (rfl))))))
theorem F_Head_name {v0 v1 v2 v3 v4 v5 v6 v7 : V} : List.lookup ("name" : Str) (F_Head v0 v1 v2 v3 v4 v5 v6 v7) = some v4 := (lk_past (by decide +kernel)).trans ((lk_past (by decide +kernel)).trans ((lk_past (by decide +kernel)).trans ((lk_past (by decide +kernel)).trans (lk_here))))
theorem F_Head_put_name {v0 v1 v2 v3 v4 v5 v6 v7 x : V} : putF "name" x (F_Head v0 v1 v2 v3 v4 v5 v6 v7) = F_Head v0 v1 v2 v3 x v5 v6 v7 := (pf_past (by decide +kernel)).trans (congrArg _ ((pf_past (by decide +kernel)).trans (congrArg _ ((pf_past (by decide +kernel)).trans (congrArg _ ((pf_past (by decide +kernel)).trans (congrArg _ (pf_here))))))))
theorem F_Head_new_name {v0 v1 v2 v3 v4 : V} : putF "name" v4 ([("hops", v0), ("what", v1), ("flags", v2), ("length", v3)] : List (Str × V)) = ([("hops", v0), ("what", v1), ("flags", v2), ("length", v3), ("name", v4)] : List (Str × V)) := (pf_past (by decide +kernel)).trans (congrArg _ ((pf_past (by decide +kernel)).trans (congrArg _ ((pf_past (by decide +kernel)).trans (congrArg _ ((pf_past (by decide +kernel)).trans (congrArg _ (rfl))))))))
theorem F_Head_place {v0 v1 v2 v3 v4 v5 v6 v7 : V} : List.lookup ("place" : Str) (F_Head v0 v1 v2 v3 v4 v5 v6 v7) = some v5 := (lk_past (by decide +kernel)).trans ((lk_past (by decide +kernel)).trans ((lk_past (by decide +kernel)).trans ((lk_past (by decide +kernel)).trans ((lk_past (by decide +kernel)).trans (lk_here)))))
theorem F_Head_put_place {v0 v1 v2 v3 v4 v5 v6 v7 x : V} : putF "place" x (F_Head v0 v1 v2 v3 v4 v5 v6 v7) = F_Head v0 v1 v2 v3 v4 x v6 v7 := (pf_past (by decide +kernel)).trans (congrArg _ ((pf_past (by decide +kernel)).trans (congrArg _ ((pf_past (by decide +kernel)).trans (congrArg _ ((pf_past (by decide +kernel)).trans (congrArg _ ((pf_past (by decide +kernel)).trans (congrArg _ (pf_here))))))))))
theorem F_Head_new_place {v0 v1 v2 v3 v4 v5 : V} : putF "place" v5 ([("hops", v0), ("what", v1), ("flags", v2), ("length", v3), ("name", v4)] : List (Str × V)) = ([("hops", v0), ("what", v1), ("flags", v2), ("length", v3), ("name", v4), ("place", v5)] : List (Str × V)) := (pf_past (by decide +kernel)).trans (congrArg _ ((pf_past (by decide +kernel)).trans (congrArg _ ((pf_past (by decide +kernel)).trans (congrArg _ ((pf_past (by decide +kernel)).trans (congrArg _ ((pf_past (by decide +kernel)).trans (congrArg _ (rfl))))))))))
theorem F_Head_sender {v0 v1 v2 v3 v4 v5 v6 v7 : V} : List.lookup ("sender" : Str) (F_Head v0 v1 v2 v3 v4 v5 v6 v7) = some v6 := (lk_past (by decide +kernel)).trans ((lk_past (by decide +kernel)).trans ((lk_past (by decide +kernel)).trans ((lk_past (by decide +kernel)).trans ((lk_past (by decide +kernel)).trans ((lk_past (by decide +kernel)).trans (lk_here))))))
theorem F_Head_put_sender {v0 v1 v2 v3 v4 v5 v6 v7 x : V} : putF "sender" x (F_Head v0 v1 v2 v3 v4 v5 v6 v7) = F_Head v0 v1 v2 v3 v4 v5 x v7 := (pf_past (by decide +kernel)).trans (congrArg _ ((pf_past (by decide +kernel)).trans (congrArg _ ((pf_past (by decide +kernel)).trans (congrArg _ ((pf_past (by decide +kernel)).trans (congrArg _ ((pf_past (by decide +kernel)).trans (congrArg _ ((pf_past (by decide +kernel)).trans (congrArg _ (pf_here))))))))))))
theorem F_Head_new_sender {v0 v1 v2 v3 v4 v5 v6 : V} : putF "sender" v6 ([("hops", v0), ("what", v1), ("flags", v2), ("length", v3), ("name", v4), ("place", v5)] : List (Str × V)) = ([("hops", v0), ("what", v1), ("flags", v2), ("length", v3), ("name", v4), ("place", v5), ("sender", v6)] : List (Str × V)) := (pf_past (by decide +kernel)).trans (congrArg _ ((pf_past (by decide +kernel)).trans (congrArg _ ((pf_past (by decide +kernel)).trans (congrArg _ ((pf_past (by decide +kernel)).trans (congrArg _ ((pf_past (by decide +kernel)).trans (congrArg _ ((pf_past (by decide +kernel)).trans (congrArg _ (rfl))))))))))))
theorem F_Head_to {v0 v1 v2 v3 v4 v5 v6 v7 : V} : List.lookup ("to" : Str) (F_Head v0 v1 v2 v3 v4 v5 v6 v7) = some v7 := (lk_past (by decide +kernel)).trans ((lk_past (by decide +kernel)).trans ((lk_past (by decide +kernel)).trans ((lk_past (by decide +kernel)).trans ((lk_past (by decide +kernel)).trans ((lk_past (by decide +kernel)).trans ((lk_past (by decide +kernel)).trans (lk_here)))))))
theorem F_Head_put_to {v0 v1 v2 v3 v4 v5 v6 v7 x : V} : putF "to" x (F_Head v0 v1 v2 v3 v4 v5 v6 v7) = F_Head v0 v1 v2 v3 v4 v5 v6 x := (pf_past (by decide +kernel)).trans (congrArg _ ((pf_past (by decide +kernel)).trans (congrArg _ ((pf_past (by decide +kernel)).trans (congrArg _ ((pf_past (by decide +kernel)).trans (congrArg _ ((pf_past (by decide +kernel)).trans (congrArg _ ((pf_past (by decide +kernel)).trans (congrArg _ ((pf_past (by decide +kernel)).trans (congrArg _ (pf_here))))))))))))))
theorem F_Head_new_to {v0 v1 v2 v3 v4 v5 v6 v7 : V} : putF "to" v7 ([("hops", v0), ("what", v1), ("flags", v2), ("length", v3), ("name", v4), ("place", v5), ("sender", v6)] : List (Str × V)) = ([("hops", v0), ("what", v1), ("flags", v2), ("length", v3), ("name", v4), ("place", v5), ("sender", v6), ("to", v7)] : List (Str × V)) := (pf_past (by decide +kernel)).trans (congrArg _ ((pf_past (by decide +kernel)).trans (congrArg _ ((pf_past (by decide +kernel)).trans (congrArg _ ((pf_past (by decide +kernel)).trans (congrArg _ ((pf_past (by decide +kernel)).trans (congrArg _ ((pf_past (by decide +kernel)).trans (congrArg _ ((pf_past (by decide +kernel)).trans (congrArg _ (rfl))))))))))))))
def F_Link (v0 v1 v2 : V) : List (Str × V) := [("address", v0), ("bits", v1), ("fits", v2)]
theorem F_Link_address {v0 v1 v2 : V} : List.lookup ("address" : Str) (F_Link v0 v1 v2) = some v0 := lk_here
theorem F_Link_put_address {v0 v1 v2 x : V} : putF "address" x (F_Link v0 v1 v2) = F_Link x v1 v2 := pf_here
theorem F_Link_new_address {v0 : V} : putF "address" v0 ([] : List (Str × V)) = ([("address", v0)] : List (Str × V)) := rfl
theorem F_Link_bits {v0 v1 v2 : V} : List.lookup ("bits" : Str) (F_Link v0 v1 v2) = some v1 := (lk_past (by decide +kernel)).trans (lk_here)
theorem F_Link_put_bits {v0 v1 v2 x : V} : putF "bits" x (F_Link v0 v1 v2) = F_Link v0 x v2 := (pf_past (by decide +kernel)).trans (congrArg _ (pf_here))
theorem F_Link_new_bits {v0 v1 : V} : putF "bits" v1 ([("address", v0)] : List (Str × V)) = ([("address", v0), ("bits", v1)] : List (Str × V)) := (pf_past (by decide +kernel)).trans (congrArg _ (rfl))
theorem F_Link_fits {v0 v1 v2 : V} : List.lookup ("fits" : Str) (F_Link v0 v1 v2) = some v2 := (lk_past (by decide +kernel)).trans ((lk_past (by decide +kernel)).trans (lk_here))
theorem F_Link_put_fits {v0 v1 v2 x : V} : putF "fits" x (F_Link v0 v1 v2) = F_Link v0 v1 x := (pf_past (by decide +kernel)).trans (congrArg _ ((pf_past (by decide +kernel)).trans (congrArg _ (pf_here))))
theorem F_Link_new_fits {v0 v1 v2 : V} : putF "fits" v2 ([("address", v0), ("bits", v1)] : List (Str × V)) = ([("address", v0), ("bits", v1), ("fits", v2)] : List (Str × V)) := (pf_past (by decide +kernel)).trans (congrArg _ ((pf_past (by decide +kernel)).trans (congrArg _ (rfl))))
def F_Way (v0 v1 v2 : V) : List (Str × V) := [("bits", v0), ("link", v1), ("next_machine", v2)]
theorem F_Way_bits {v0 v1 v2 : V} : List.lookup ("bits" : Str) (F_Way v0 v1 v2) = some v0 := lk_here
theorem F_Way_put_bits {v0 v1 v2 x : V} : putF "bits" x (F_Way v0 v1 v2) = F_Way x v1 v2 := pf_here
theorem F_Way_new_bits {v0 : V} : putF "bits" v0 ([] : List (Str × V)) = ([("bits", v0)] : List (Str × V)) := rfl
theorem F_Way_link {v0 v1 v2 : V} : List.lookup ("link" : Str) (F_Way v0 v1 v2) = some v1 := (lk_past (by decide +kernel)).trans (lk_here)
theorem F_Way_put_link {v0 v1 v2 x : V} : putF "link" x (F_Way v0 v1 v2) = F_Way v0 x v2 := (pf_past (by decide +kernel)).trans (congrArg _ (pf_here))
theorem F_Way_new_link {v0 v1 : V} : putF "link" v1 ([("bits", v0)] : List (Str × V)) = ([("bits", v0), ("link", v1)] : List (Str × V)) := (pf_past (by decide +kernel)).trans (congrArg _ (rfl))
theorem F_Way_next_machine {v0 v1 v2 : V} : List.lookup ("next_machine" : Str) (F_Way v0 v1 v2) = some v2 := (lk_past (by decide +kernel)).trans ((lk_past (by decide +kernel)).trans (lk_here))
theorem F_Way_put_next_machine {v0 v1 v2 x : V} : putF "next_machine" x (F_Way v0 v1 v2) = F_Way v0 v1 x := (pf_past (by decide +kernel)).trans (congrArg _ ((pf_past (by decide +kernel)).trans (congrArg _ (pf_here))))
theorem F_Way_new_next_machine {v0 v1 v2 : V} : putF "next_machine" v2 ([("bits", v0), ("link", v1)] : List (Str × V)) = ([("bits", v0), ("link", v1), ("next_machine", v2)] : List (Str × V)) := (pf_past (by decide +kernel)).trans (congrArg _ ((pf_past (by decide +kernel)).trans (congrArg _ (rfl))))
def F_Machine (v0 v1 v2 v3 v4 v5 v6 : V) : List (Str × V) := [("links", v0), ("ways", v1), ("passes_on", v2), ("gatherings", v3), ("time", v4), ("next_name", v5), ("taken", v6)]
theorem F_Machine_links {v0 v1 v2 v3 v4 v5 v6 : V} : List.lookup ("links" : Str) (F_Machine v0 v1 v2 v3 v4 v5 v6) = some v0 := lk_here
theorem F_Machine_put_links {v0 v1 v2 v3 v4 v5 v6 x : V} : putF "links" x (F_Machine v0 v1 v2 v3 v4 v5 v6) = F_Machine x v1 v2 v3 v4 v5 v6 := pf_here
theorem F_Machine_new_links {v0 : V} : putF "links" v0 ([] : List (Str × V)) = ([("links", v0)] : List (Str × V)) := rfl
theorem F_Machine_ways {v0 v1 v2 v3 v4 v5 v6 : V} : List.lookup ("ways" : Str) (F_Machine v0 v1 v2 v3 v4 v5 v6) = some v1 := (lk_past (by decide +kernel)).trans (lk_here)
theorem F_Machine_put_ways {v0 v1 v2 v3 v4 v5 v6 x : V} : putF "ways" x (F_Machine v0 v1 v2 v3 v4 v5 v6) = F_Machine v0 x v2 v3 v4 v5 v6 := (pf_past (by decide +kernel)).trans (congrArg _ (pf_here))
theorem F_Machine_new_ways {v0 v1 : V} : putF "ways" v1 ([("links", v0)] : List (Str × V)) = ([("links", v0), ("ways", v1)] : List (Str × V)) := (pf_past (by decide +kernel)).trans (congrArg _ (rfl))
theorem F_Machine_passes_on {v0 v1 v2 v3 v4 v5 v6 : V} : List.lookup ("passes_on" : Str) (F_Machine v0 v1 v2 v3 v4 v5 v6) = some v2 := (lk_past (by decide +kernel)).trans ((lk_past (by decide +kernel)).trans (lk_here))
theorem F_Machine_put_passes_on {v0 v1 v2 v3 v4 v5 v6 x : V} : putF "passes_on" x (F_Machine v0 v1 v2 v3 v4 v5 v6) = F_Machine v0 v1 x v3 v4 v5 v6 := (pf_past (by decide +kernel)).trans (congrArg _ ((pf_past (by decide +kernel)).trans (congrArg _ (pf_here))))
theorem F_Machine_new_passes_on {v0 v1 v2 : V} : putF "passes_on" v2 ([("links", v0), ("ways", v1)] : List (Str × V)) = ([("links", v0), ("ways", v1), ("passes_on", v2)] : List (Str × V)) := (pf_past (by decide +kernel)).trans (congrArg _ ((pf_past (by decide +kernel)).trans (congrArg _ (rfl))))
theorem F_Machine_gatherings {v0 v1 v2 v3 v4 v5 v6 : V} : List.lookup ("gatherings" : Str) (F_Machine v0 v1 v2 v3 v4 v5 v6) = some v3 := (lk_past (by decide +kernel)).trans ((lk_past (by decide +kernel)).trans ((lk_past (by decide +kernel)).trans (lk_here)))
theorem F_Machine_put_gatherings {v0 v1 v2 v3 v4 v5 v6 x : V} : putF "gatherings" x (F_Machine v0 v1 v2 v3 v4 v5 v6) = F_Machine v0 v1 v2 x v4 v5 v6 := (pf_past (by decide +kernel)).trans (congrArg _ ((pf_past (by decide +kernel)).trans (congrArg _ ((pf_past (by decide +kernel)).trans (congrArg _ (pf_here))))))
theorem F_Machine_new_gatherings {v0 v1 v2 v3 : V} : putF "gatherings" v3 ([("links", v0), ("ways", v1), ("passes_on", v2)] : List (Str × V)) = ([("links", v0), ("ways", v1), ("passes_on", v2), ("gatherings", v3)] : List (Str × V)) := (pf_past (by decide +kernel)).trans (congrArg _ ((pf_past (by decide +kernel)).trans (congrArg _ ((pf_past (by decide +kernel)).trans (congrArg _ (rfl))))))
theorem F_Machine_time {v0 v1 v2 v3 v4 v5 v6 : V} : List.lookup ("time" : Str) (F_Machine v0 v1 v2 v3 v4 v5 v6) = some v4 := (lk_past (by decide +kernel)).trans ((lk_past (by decide +kernel)).trans ((lk_past (by decide +kernel)).trans ((lk_past (by decide +kernel)).trans (lk_here))))
theorem F_Machine_put_time {v0 v1 v2 v3 v4 v5 v6 x : V} : putF "time" x (F_Machine v0 v1 v2 v3 v4 v5 v6) = F_Machine v0 v1 v2 v3 x v5 v6 := (pf_past (by decide +kernel)).trans (congrArg _ ((pf_past (by decide +kernel)).trans (congrArg _ ((pf_past (by decide +kernel)).trans (congrArg _ ((pf_past (by decide +kernel)).trans (congrArg _ (pf_here))))))))
theorem F_Machine_new_time {v0 v1 v2 v3 v4 : V} : putF "time" v4 ([("links", v0), ("ways", v1), ("passes_on", v2), ("gatherings", v3)] : List (Str × V)) = ([("links", v0), ("ways", v1), ("passes_on", v2), ("gatherings", v3), ("time", v4)] : List (Str × V)) := (pf_past (by decide +kernel)).trans (congrArg _ ((pf_past (by decide +kernel)).trans (congrArg _ ((pf_past (by decide +kernel)).trans (congrArg _ ((pf_past (by decide +kernel)).trans (congrArg _ (rfl))))))))
theorem F_Machine_next_name {v0 v1 v2 v3 v4 v5 v6 : V} : List.lookup ("next_name" : Str) (F_Machine v0 v1 v2 v3 v4 v5 v6) = some v5 := (lk_past (by decide +kernel)).trans ((lk_past (by decide +kernel)).trans ((lk_past (by decide +kernel)).trans ((lk_past (by decide +kernel)).trans ((lk_past (by decide +kernel)).trans (lk_here)))))
theorem F_Machine_put_next_name {v0 v1 v2 v3 v4 v5 v6 x : V} : putF "next_name" x (F_Machine v0 v1 v2 v3 v4 v5 v6) = F_Machine v0 v1 v2 v3 v4 x v6 := (pf_past (by decide +kernel)).trans (congrArg _ ((pf_past (by decide +kernel)).trans (congrArg _ ((pf_past (by decide +kernel)).trans (congrArg _ ((pf_past (by decide +kernel)).trans (congrArg _ ((pf_past (by decide +kernel)).trans (congrArg _ (pf_here))))))))))
theorem F_Machine_new_next_name {v0 v1 v2 v3 v4 v5 : V} : putF "next_name" v5 ([("links", v0), ("ways", v1), ("passes_on", v2), ("gatherings", v3), ("time", v4)] : List (Str × V)) = ([("links", v0), ("ways", v1), ("passes_on", v2), ("gatherings", v3), ("time", v4), ("next_name", v5)] : List (Str × V)) := (pf_past (by decide +kernel)).trans (congrArg _ ((pf_past (by decide +kernel)).trans (congrArg _ ((pf_past (by decide +kernel)).trans (congrArg _ ((pf_past (by decide +kernel)).trans (congrArg _ ((pf_past (by decide +kernel)).trans (congrArg _ (rfl))))))))))
theorem F_Machine_taken {v0 v1 v2 v3 v4 v5 v6 : V} : List.lookup ("taken" : Str) (F_Machine v0 v1 v2 v3 v4 v5 v6) = some v6 := (lk_past (by decide +kernel)).trans ((lk_past (by decide +kernel)).trans ((lk_past (by decide +kernel)).trans ((lk_past (by decide +kernel)).trans ((lk_past (by decide +kernel)).trans ((lk_past (by decide +kernel)).trans (lk_here))))))
theorem F_Machine_put_taken {v0 v1 v2 v3 v4 v5 v6 x : V} : putF "taken" x (F_Machine v0 v1 v2 v3 v4 v5 v6) = F_Machine v0 v1 v2 v3 v4 v5 x := (pf_past (by decide +kernel)).trans (congrArg _ ((pf_past (by decide +kernel)).trans (congrArg _ ((pf_past (by decide +kernel)).trans (congrArg _ ((pf_past (by decide +kernel)).trans (congrArg _ ((pf_past (by decide +kernel)).trans (congrArg _ ((pf_past (by decide +kernel)).trans (congrArg _ (pf_here))))))))))))
theorem F_Machine_new_taken {v0 v1 v2 v3 v4 v5 v6 : V} : putF "taken" v6 ([("links", v0), ("ways", v1), ("passes_on", v2), ("gatherings", v3), ("time", v4), ("next_name", v5)] : List (Str × V)) = ([("links", v0), ("ways", v1), ("passes_on", v2), ("gatherings", v3), ("time", v4), ("next_name", v5), ("taken", v6)] : List (Str × V)) := (pf_past (by decide +kernel)).trans (congrArg _ ((pf_past (by decide +kernel)).trans (congrArg _ ((pf_past (by decide +kernel)).trans (congrArg _ ((pf_past (by decide +kernel)).trans (congrArg _ ((pf_past (by decide +kernel)).trans (congrArg _ ((pf_past (by decide +kernel)).trans (congrArg _ (rfl))))))))))))
theorem F_Machine_no_renew {v0 v1 v2 v3 v4 v5 v6 : V} : List.lookup ("renew" : Str) (F_Machine v0 v1 v2 v3 v4 v5 v6) = none := (lk_past (by decide +kernel)).trans ((lk_past (by decide +kernel)).trans ((lk_past (by decide +kernel)).trans ((lk_past (by decide +kernel)).trans ((lk_past (by decide +kernel)).trans ((lk_past (by decide +kernel)).trans ((lk_past (by decide +kernel)).trans (rfl)))))))
theorem F_Machine_no_use_name {v0 v1 v2 v3 v4 v5 v6 : V} : List.lookup ("use_name" : Str) (F_Machine v0 v1 v2 v3 v4 v5 v6) = none := (lk_past (by decide +kernel)).trans ((lk_past (by decide +kernel)).trans ((lk_past (by decide +kernel)).trans ((lk_past (by decide +kernel)).trans ((lk_past (by decide +kernel)).trans ((lk_past (by decide +kernel)).trans ((lk_past (by decide +kernel)).trans (rfl)))))))
def F_Piece (v0 v1 v2 v3 v4 : V) : List (Str × V) := [("head", v0), ("body", v1), ("start", v2), ("end", v3), ("is_last", v4)]
theorem F_Piece_head {v0 v1 v2 v3 v4 : V} : List.lookup ("head" : Str) (F_Piece v0 v1 v2 v3 v4) = some v0 := lk_here
theorem F_Piece_put_head {v0 v1 v2 v3 v4 x : V} : putF "head" x (F_Piece v0 v1 v2 v3 v4) = F_Piece x v1 v2 v3 v4 := pf_here
theorem F_Piece_new_head {v0 : V} : putF "head" v0 ([] : List (Str × V)) = ([("head", v0)] : List (Str × V)) := rfl
theorem F_Piece_body {v0 v1 v2 v3 v4 : V} : List.lookup ("body" : Str) (F_Piece v0 v1 v2 v3 v4) = some v1 := (lk_past (by decide +kernel)).trans (lk_here)
theorem F_Piece_put_body {v0 v1 v2 v3 v4 x : V} : putF "body" x (F_Piece v0 v1 v2 v3 v4) = F_Piece v0 x v2 v3 v4 := (pf_past (by decide +kernel)).trans (congrArg _ (pf_here))
theorem F_Piece_new_body {v0 v1 : V} : putF "body" v1 ([("head", v0)] : List (Str × V)) = ([("head", v0), ("body", v1)] : List (Str × V)) := (pf_past (by decide +kernel)).trans (congrArg _ (rfl))
theorem F_Piece_start {v0 v1 v2 v3 v4 : V} : List.lookup ("start" : Str) (F_Piece v0 v1 v2 v3 v4) = some v2 := (lk_past (by decide +kernel)).trans ((lk_past (by decide +kernel)).trans (lk_here))
theorem F_Piece_put_start {v0 v1 v2 v3 v4 x : V} : putF "start" x (F_Piece v0 v1 v2 v3 v4) = F_Piece v0 v1 x v3 v4 := (pf_past (by decide +kernel)).trans (congrArg _ ((pf_past (by decide +kernel)).trans (congrArg _ (pf_here))))
theorem F_Piece_new_start {v0 v1 v2 : V} : putF "start" v2 ([("head", v0), ("body", v1)] : List (Str × V)) = ([("head", v0), ("body", v1), ("start", v2)] : List (Str × V)) := (pf_past (by decide +kernel)).trans (congrArg _ ((pf_past (by decide +kernel)).trans (congrArg _ (rfl))))
theorem F_Piece_end {v0 v1 v2 v3 v4 : V} : List.lookup ("end" : Str) (F_Piece v0 v1 v2 v3 v4) = some v3 := (lk_past (by decide +kernel)).trans ((lk_past (by decide +kernel)).trans ((lk_past (by decide +kernel)).trans (lk_here)))
theorem F_Piece_put_end {v0 v1 v2 v3 v4 x : V} : putF "end" x (F_Piece v0 v1 v2 v3 v4) = F_Piece v0 v1 v2 x v4 := (pf_past (by decide +kernel)).trans (congrArg _ ((pf_past (by decide +kernel)).trans (congrArg _ ((pf_past (by decide +kernel)).trans (congrArg _ (pf_here))))))
theorem F_Piece_new_end {v0 v1 v2 v3 : V} : putF "end" v3 ([("head", v0), ("body", v1), ("start", v2)] : List (Str × V)) = ([("head", v0), ("body", v1), ("start", v2), ("end", v3)] : List (Str × V)) := (pf_past (by decide +kernel)).trans (congrArg _ ((pf_past (by decide +kernel)).trans (congrArg _ ((pf_past (by decide +kernel)).trans (congrArg _ (rfl))))))
theorem F_Piece_is_last {v0 v1 v2 v3 v4 : V} : List.lookup ("is_last" : Str) (F_Piece v0 v1 v2 v3 v4) = some v4 := (lk_past (by decide +kernel)).trans ((lk_past (by decide +kernel)).trans ((lk_past (by decide +kernel)).trans ((lk_past (by decide +kernel)).trans (lk_here))))
theorem F_Piece_put_is_last {v0 v1 v2 v3 v4 x : V} : putF "is_last" x (F_Piece v0 v1 v2 v3 v4) = F_Piece v0 v1 v2 v3 x := (pf_past (by decide +kernel)).trans (congrArg _ ((pf_past (by decide +kernel)).trans (congrArg _ ((pf_past (by decide +kernel)).trans (congrArg _ ((pf_past (by decide +kernel)).trans (congrArg _ (pf_here))))))))
theorem F_Piece_new_is_last {v0 v1 v2 v3 v4 : V} : putF "is_last" v4 ([("head", v0), ("body", v1), ("start", v2), ("end", v3)] : List (Str × V)) = ([("head", v0), ("body", v1), ("start", v2), ("end", v3), ("is_last", v4)] : List (Str × V)) := (pf_past (by decide +kernel)).trans (congrArg _ ((pf_past (by decide +kernel)).trans (congrArg _ ((pf_past (by decide +kernel)).trans (congrArg _ ((pf_past (by decide +kernel)).trans (congrArg _ (rfl))))))))
def F_Gathering (v0 v1 v2 : V) : List (Str × V) := [("began", v0), ("spoiled", v1), ("pieces", v2)]
theorem F_Gathering_began {v0 v1 v2 : V} : List.lookup ("began" : Str) (F_Gathering v0 v1 v2) = some v0 := lk_here
theorem F_Gathering_put_began {v0 v1 v2 x : V} : putF "began" x (F_Gathering v0 v1 v2) = F_Gathering x v1 v2 := pf_here
theorem F_Gathering_new_began {v0 : V} : putF "began" v0 ([] : List (Str × V)) = ([("began", v0)] : List (Str × V)) := rfl
theorem F_Gathering_spoiled {v0 v1 v2 : V} : List.lookup ("spoiled" : Str) (F_Gathering v0 v1 v2) = some v1 := (lk_past (by decide +kernel)).trans (lk_here)
theorem F_Gathering_put_spoiled {v0 v1 v2 x : V} : putF "spoiled" x (F_Gathering v0 v1 v2) = F_Gathering v0 x v2 := (pf_past (by decide +kernel)).trans (congrArg _ (pf_here))
theorem F_Gathering_new_spoiled {v0 v1 : V} : putF "spoiled" v1 ([("began", v0)] : List (Str × V)) = ([("began", v0), ("spoiled", v1)] : List (Str × V)) := (pf_past (by decide +kernel)).trans (congrArg _ (rfl))
theorem F_Gathering_pieces {v0 v1 v2 : V} : List.lookup ("pieces" : Str) (F_Gathering v0 v1 v2) = some v2 := (lk_past (by decide +kernel)).trans ((lk_past (by decide +kernel)).trans (lk_here))
theorem F_Gathering_put_pieces {v0 v1 v2 x : V} : putF "pieces" x (F_Gathering v0 v1 v2) = F_Gathering v0 v1 x := (pf_past (by decide +kernel)).trans (congrArg _ ((pf_past (by decide +kernel)).trans (congrArg _ (pf_here))))
theorem F_Gathering_new_pieces {v0 v1 v2 : V} : putF "pieces" v2 ([("began", v0), ("spoiled", v1)] : List (Str × V)) = ([("began", v0), ("spoiled", v1), ("pieces", v2)] : List (Str × V)) := (pf_past (by decide +kernel)).trans (congrArg _ ((pf_past (by decide +kernel)).trans (congrArg _ (rfl))))
end Lp
set_option maxHeartbeats 400000000
namespace Lp
open PySem PySem.Spec PyProof.Rows L2 Evl
/-! ### bytes as values -/
def bv (b : Sv62.Bytes) : List V := b.map fun c => V.int (c.toNat : Int)
theorem bv_app (a b : Sv62.Bytes) : bv (a ++ b) = bv a ++ bv b := by
  unfold bv
  rw [List.map_append]
theorem bv_len (b : Sv62.Bytes) : (bv b).length = b.length := by
  unfold bv
  rw [List.length_map]
theorem bv_off (b : Sv62.Bytes) : bv b = (Sv62Neutral.ofOctets b).map V.int := by
  unfold bv Sv62Neutral.ofOctets
  rw [List.map_map]
  rfl
theorem bv_inj : ∀ {a b : Sv62.Bytes}, bv a = bv b → a = b
  | [], [], _ => rfl
  | [], _ :: _, h => nomatch h
  | _ :: _, [], h => nomatch h
  | x :: a, y :: b, h => by
    have h1 : V.int (x.toNat : Int) :: bv a = V.int (y.toNat : Int) :: bv b := h
    injection h1 with h2 h3
    injection h2 with h2
    rw [bv_inj h3, UInt8.toNat_inj.mp (Int.ofNat_inj.mp h2)]
theorem cut_from (xs : List V) (i : Nat) : cutV xs (some (i : Int)) none = xs.drop i := by
  unfold cutV
  rw [HT.sIx_nat, HT.sIx_none]
  by_cases h : i ≤ xs.length
  · rw [Nat.min_eq_left h, List.take_of_length_le (by rw [List.length_drop]; omega)]
  · rw [Nat.min_eq_right (by omega), List.drop_of_length_le (Nat.le_refl _), List.drop_of_length_le (by omega), List.take_nil]
theorem cut_to (xs : List V) (i : Nat) : cutV xs none (some (i : Int)) = xs.take i := by
  unfold cutV
  rw [HT.sIx_nat, HT.sIx_none, List.drop_zero, Nat.sub_zero]
  by_cases h : i ≤ xs.length
  · rw [Nat.min_eq_left h]
  · rw [Nat.min_eq_right (by omega), List.take_of_length_le (Nat.le_refl _), List.take_of_length_le (by omega)]
theorem cut_part (xs : List V) (i j : Nat) : cutV xs (some (i : Int)) (some (j : Int)) = (xs.drop i).take (j - i) := by
  unfold cutV
  rw [HT.sIx_nat, HT.sIx_nat]
  by_cases h : i ≤ xs.length
  · rw [Nat.min_eq_left h]
    by_cases h2 : j ≤ xs.length
    · rw [Nat.min_eq_left h2]
    · rw [Nat.min_eq_right (by omega), List.take_of_length_le (by rw [List.length_drop]; omega), List.take_of_length_le (by rw [List.length_drop]; omega)]
  · have e : min i xs.length = xs.length := Nat.min_eq_right (by omega)
    rw [e, List.drop_of_length_le (Nat.le_refl _), List.drop_of_length_le (by omega), List.take_nil, List.take_nil]
theorem bv_drop (b : Sv62.Bytes) (i : Nat) : (bv b).drop i = bv (b.drop i) := by
  unfold bv
  rw [List.map_drop]
theorem bv_take (b : Sv62.Bytes) (i : Nat) : (bv b).take i = bv (b.take i) := by
  unfold bv
  rw [List.map_take]
theorem bv_get {b : Sv62.Bytes} {i : Nat} (h : i < b.length) : (bv b)[i]? = some (V.int (Sv62.part b i 1 : Int)) := by
  unfold bv Sv62.part
  rw [List.getElem?_map, List.getElem?_eq_getElem h, List.drop_eq_getElem_cons h]
  show some (V.int _) = _
  rw [List.take_succ_cons, List.take_zero, num1]
/-! ### what kinds of things a call may leave as they were -/
def ntb : HO → Bool
  | .tbl _ => false
  | _ => true
def Keep (H H' : Hp) (S : List Addr) : Prop := ∀ b o, H b = some o → b ∉ S → ntb o = true → H' b = some o
theorem Keep.of_ex {H H' : Hp} {S : List Addr} (e : Ex H H') : Keep H H' S := fun b o h _ _ => e b o h
theorem Keep.trans {H H1 H2 : Hp} {S : List Addr} (a : Keep H H1 S) (b : Keep H1 H2 S) : Keep H H2 S := fun x o h n t => b x o (a x o h n t) n t
theorem Keep.upd {H : Hp} {p : Addr} {o : HO} {S : List Addr} (h : p ∈ S) : Keep H (upd H p o) S := fun b u hb hn _ => by
  rw [upd_ne (fun z => hn (by rw [z]; exact h))]
  exact hb
theorem Keep.sub {H H' : Hp} {S S' : List Addr} (k : Keep H H' S) (h : ∀ b ∈ S, b ∈ S') : Keep H H' S' := fun b o hb hn t => k b o hb (fun z => hn (h b z)) t
/-- new things may be written, too -/
theorem Keep.subN {H H' : Hp} {S S' : List Addr} (k : Keep H H' S) (h : ∀ b ∈ S, b ∈ S' ∨ H b = none) : Keep H H' S' := fun b o hb hn t => k b o hb (fun z => by
  rcases h b z with z | z
  · exact hn z
  · rw [hb] at z
    cases z) t
theorem extN_keep {H H' : Hp} {S : List Addr} (e : LamX.ExtN H H') : Keep H H' S := fun b o h _ t => e b o h fun ps z => by
  rw [z] at t
  cases t
/-! ### new instances whose __init__ stores its arguments -/
def spNew (C : Addr) (n : Nat) (F : List V → List (Str × V)) : Sp := fun vs H Q _ => ∃ (p dx : Addr) (ws : List V), vs = .ref p :: ws ∧ ws.length = n ∧ H p = some (.ins C dx []) ∧
  ∀ H' : Hp, H' p = some (.ins C dx (F ws)) → (∀ b o, H b = some o → b ≠ p → H' b = some o) → Q .non H'
theorem spNew_len {C : Addr} {n : Nat} {F : List V → List (Str × V)} {vs : List V} {H : Hp} {Q : VK} {E : XK} (h : spNew C n F vs H Q E) : vs.length = n + 1 := by
  obtain ⟨p, dx, ws, rfl, e, _⟩ := h
  rw [List.length_cons, e]
/-- a new instance comes out -/
def EvN (te : TE) (σ : L2.St) (H : Hp) (C : Addr) (fs : List (Str × V)) : Prop := ∀ H1, Ex H H1 → ∀ Q : VK, (∀ p dx H2, H1 p = none → Ex H1 H2 → H2 p = some (.ins C dx fs) → Q (.ref p) H2) → te σ H1 Q
theorem made_ex {H1 H2 H3 : Hp} {x dx : Addr} {o1 o2 : HO} (e2 : Ex H1 H2) (nx : H2 x = none) (nd : H2 dx = none) (keep : ∀ b o, upd (upd H2 dx o1) x o2 b = some o → b ≠ x → H3 b = some o) : Ex H1 H3 := fun b o hb => by
  have h2 := e2 b o hb
  have bx : b ≠ x := ne_of_none h2 nx
  have bd : b ≠ dx := ne_of_none h2 nd
  refine keep b o ?_ bx
  rw [upd_ne bx, upd_ne bd]
  exact h2
theorem en_make {C : Addr} {n : Nat} {F : List V → List (Str × V)} {ta : TA} {σ : L2.St} {H : Hp} {ws : List V} {E : XK} (h : EvA ta σ H ws) (hn : ws.length = n) : EvN (tMake C (spNew C n F) [] E ta) σ H C (F ws) := fun H1 e Q q =>
  h H1 e _ fun H2 e2 x dx nx nd ne => by
    refine ⟨x, dx, ws, by rw [List.append_nil], hn, upd_same, fun H3 h3 keep => ⟨rfl, ?_⟩⟩
    exact q x dx H3 (fresh_back e2 nx) (made_ex e2 nx nd keep) h3
theorem ret_en {te : TE} {D : Ends} {σ : L2.St} {H : Hp} {C : Addr} {fs : List (Str × V)} (h : EvN te σ H C fs) (q : ∀ p dx H', H p = none → Ex H H' → H' p = some (.ins C dx fs) → D.rt (.ref p) H') : tRet te D σ H := h H (Ex.refl H) _ q
/-- a field of an instance -/
theorem ev_fld {K : PySem.W.Frag} {ta : TE} {σ : L2.St} {H : Hp} {a C dx : Addr} {fs : List (Str × V)} {f : Str} {v : V} (h : Ev ta σ H (.ref a)) (ho : H a = some (.ins C dx fs)) (hc : Cls K C) (hn : NoAttr K C f) (hl : fs.lookup f = some v) : Ev (tFld K ta f) σ H v := fun H1 e Q q =>
  h H1 e _ fun H2 e2 => ⟨a, C, dx, fs, v, rfl, e2 a _ (e a _ ho), hc, hn, hl, q H2 e2⟩
theorem ev_isN {ta : TE} {σ : L2.St} {H : Hp} {x : V} (h : Ev ta σ H x) : Ev (tOp (fun x y H Q => y = .non ∧ Q (.bl (decide (x = .non))) H) ta (tC .non)) σ H (.bl (decide (x = .non))) := ev_op h ev_c fun H1 _ Q q => ⟨rfl, q H1 (Ex.refl H1)⟩
theorem ev_notN {ta : TE} {σ : L2.St} {H : Hp} {x : V} (h : Ev ta σ H x) : Ev (tOp (fun x y H Q => y = .non ∧ Q (.bl (!decide (x = .non))) H) ta (tC .non)) σ H (.bl (!decide (x = .non))) := ev_op h ev_c fun H1 _ Q q => ⟨rfl, q H1 (Ex.refl H1)⟩
/-- an if whose test evaluates -/
theorem if_ev {tc : TT} {t u : TS} {D : Ends} {σ : L2.St} {H : Hp} {b : Bool} (h : EvT tc σ H b) (h1 : b = true → ∀ H', Ex H H' → t D σ H') (h2 : b = false → ∀ H', Ex H H' → u D σ H') : tIfS tc t u D σ H := h H (Ex.refl H) _ fun H' e => by
  cases b with
  | true =>
    show (if true = true then t D σ H' else u D σ H')
    rw [if_pos rfl]
    exact h1 rfl H' e
  | false =>
    show (if false = true then t D σ H' else u D σ H')
    rw [if_neg Bool.false_ne_true]
    exact h2 rfl H' e
theorem sq_set {te : TE} {u : TS} {D : Ends} {σ : L2.St} {H : Hp} {i : Nat} {v : V} (h : Ev te σ H v) (q : ∀ H', Ex H H' → u D (σ.set i (some v)) H') : tSeq (tAsg te (gName i)) u D σ H := h H (Ex.refl H) _ q
/-- if ..: (left by return), the rest -/
theorem sq_if {tc : TT} {t u : TS} {D : Ends} {σ : L2.St} {H : Hp} {b : Bool} (h : EvT tc σ H b) (h1 : b = true → ∀ H', Ex H H' → t { D with nx := u D } σ H') (h2 : b = false → ∀ H', Ex H H' → u D σ H') : tSeq (tIfS tc t tNext) u D σ H := if_ev h h1 h2
/-- d.get((..)): a dict with tuples for keys -/
theorem ev_getT {td tk : TE} {σ : L2.St} {H : Hp} {d : Addr} {kvs : List (List L2.Key × V)} {k : List L2.Key} (h1 : Ev td σ H (.ref d)) (h2 : EvU tk σ H (k.map kV)) (hd : H d = some (.dT kvs)) : Ev (tDGet1 td tk) σ H ((valV kvs k).getD .non) := fun H1 e Q q =>
  h1 H1 e _ fun H2 e2 => ⟨d, rfl, .inr ⟨kvs, .inl (e2 _ _ (e _ _ hd))⟩, h2 H2 (e.trans e2) _ fun p H3 _ e3 hp => ⟨valV kvs k, DGet.t (e3 _ _ (e2 _ _ (e _ _ hd))) hp, q H3 (e2.trans e3)⟩⟩
/-- some value comes out, of which R holds -/
def EvR (te : TE) (σ : L2.St) (H : Hp) (R : V → Hp → Prop) : Prop := ∀ H1, Ex H H1 → ∀ Q : VK, (∀ z H2, Ex H1 H2 → R z H2 → Q z H2) → te σ H1 Q
theorem er_call {sp : Sp} {vs : List V} {ta : TA} {σ : L2.St} {H : Hp} {E : XK} {R : V → Hp → Prop} (h : EvA ta σ H vs) (hs : ∀ H1, Ex H H1 → ∀ (Q : VK) (E : XK), (∀ z H2, Ex H1 H2 → R z H2 → Q z H2) → sp vs H1 Q E) : EvR (tCall sp [] E ta) σ H R := fun H1 e Q q =>
  h H1 e _ fun H2 e2 => by
    rw [List.append_nil]
    exact hs H2 (e.trans e2) Q E fun z H3 e3 r => q z H3 (e2.trans e3) r
theorem sq_setR {te : TE} {u : TS} {D : Ends} {σ : L2.St} {H : Hp} {i : Nat} {R : V → Hp → Prop} (h : EvR te σ H R) (q : ∀ z H', Ex H H' → R z H' → u D (σ.set i (some z)) H') : tSeq (tAsg te (gName i)) u D σ H := h H (Ex.refl H) _ q
theorem ret_er {te : TE} {D : Ends} {σ : L2.St} {H : Hp} {R : V → Hp → Prop} (h : EvR te σ H R) (q : ∀ z H', Ex H H' → R z H' → D.rt z H') : tRet te D σ H := h H (Ex.refl H) _ q
/-- o.f = e, the rest -/
theorem sq_fld {K : PySem.W.Frag} {ta tv : TE} {u : TS} {D : Ends} {σ : L2.St} {H : Hp} {a C dx : Addr} {fs : List (Str × V)} {f : Str} {y : V} (hv : Ev tv σ H y) (ha : Ev ta σ H (.ref a)) (ho : H a = some (.ins C dx fs)) (hc : Cls K C) (hn : NoAttr K C f) (hl : fs.length < 1000)
    (q : ∀ H', Ex H H' → u D σ (upd H' a (.ins C dx (putF f y fs)))) : tSeq (sFld K ta tv f) u D σ H :=
  hv H (Ex.refl H) _ fun H1 e1 => ha H1 e1 _ fun H2 e2 => ⟨a, C, dx, fs, rfl, e2 _ _ (e1 _ _ ho), hc, hn, hl, q H2 (e1.trans e2)⟩
theorem s_fld {K : PySem.W.Frag} {ta tv : TE} {D : Ends} {σ : L2.St} {H : Hp} {a C dx : Addr} {fs : List (Str × V)} {f : Str} {y : V} (hv : Ev tv σ H y) (ha : Ev ta σ H (.ref a)) (ho : H a = some (.ins C dx fs)) (hc : Cls K C) (hn : NoAttr K C f) (hl : fs.length < 1000)
    (q : ∀ H', Ex H H' → D.nx σ (upd H' a (.ins C dx (putF f y fs)))) : sFld K ta tv f D σ H :=
  hv H (Ex.refl H) _ fun H1 e1 => ha H1 e1 _ fun H2 e2 => ⟨a, C, dx, fs, rfl, e2 _ _ (e1 _ _ ho), hc, hn, hl, q H2 (e1.trans e2)⟩
/-- xs[i] = e, e a value | a new instance -/
theorem sq_setL {te to ti : TE} {u : TS} {D : Ends} {σ : L2.St} {H : Hp} {l : Addr} {xs : List V} {j : Nat} {v : V} (hv : Ev te σ H v) (ho : Ev to σ H (.ref l)) (hi : Ev ti σ H (.int (j : Int))) (hl : H l = some (.lst xs)) (hj : j < xs.length)
    (q : ∀ H', Ex H H' → u D σ (upd H' l (.lst (xs.set j v)))) : tSeq (tAsg te (gSub to ti rSetL)) u D σ H :=
  hv H (Ex.refl H) _ fun H1 e1 => ho H1 e1 _ fun H2 e2 => hi H2 (e1.trans e2) _ fun H3 e3 => ⟨l, xs, j, j, rfl, rfl, e3 _ _ (e2 _ _ (e1 _ _ hl)), by
    unfold ixN
    rw [if_pos (Int.natCast_nonneg j), if_pos (by exact_mod_cast hj)]
    rfl, q H3 ((e1.trans e2).trans e3)⟩
theorem sq_setLN {te to ti : TE} {u : TS} {D : Ends} {σ : L2.St} {H : Hp} {l C : Addr} {fs : List (Str × V)} {xs : List V} {j : Nat} (hv : EvN te σ H C fs) (ho : Ev to σ H (.ref l)) (hi : Ev ti σ H (.int (j : Int))) (hl : H l = some (.lst xs)) (hj : j < xs.length)
    (q : ∀ p dx H', H p = none → Ex H H' → H' p = some (.ins C dx fs) → u D σ (upd H' l (.lst (xs.set j (.ref p))))) : tSeq (tAsg te (gSub to ti rSetL)) u D σ H :=
  hv H (Ex.refl H) _ fun p dx H1 np e1 h1 => ho H1 e1 _ fun H2 e2 => hi H2 (e1.trans e2) _ fun H3 e3 => ⟨l, xs, j, j, rfl, rfl, e3 _ _ (e2 _ _ (e1 _ _ hl)), by
    unfold ixN
    rw [if_pos (Int.natCast_nonneg j), if_pos (by exact_mod_cast hj)]
    rfl, q p dx H3 np ((e1.trans e2).trans e3) (e3 _ _ (e2 _ _ h1))⟩
/-- d[t] = C(..), t a tuple at a name -/
theorem sq_putTN {te td tk : TE} {u : TS} {D : Ends} {σ : L2.St} {H : Hp} {d b C : Addr} {fs : List (Str × V)} {kvs : List (List L2.Key × V)} {k : List L2.Key} (hv : EvN te σ H C fs) (hd : Ev td σ H (.ref d)) (hk : Ev tk σ H (.ref b)) (od : H d = some (.dT kvs)) (ob : H b = some (.tup (k.map kV))) (hl : kvs.length < sizeLine)
    (q : ∀ p dx H', H p = none → Ex H H' → H' p = some (.ins C dx fs) → u D σ (upd H' d (.dT (putK kvs k (.ref p))))) : tSeq (sDPut td tk te) u D σ H :=
  hv H (Ex.refl H) _ fun p dx H1 np e1 h1 => hd H1 e1 _ fun H2 e2 => hk H2 (e1.trans e2) _ fun H3 e3 => ⟨d, _, rfl, DPut.t (e3 _ _ (e2 _ _ (e1 _ _ od))) (e3 _ _ (e2 _ _ (e1 _ _ ob))) hl, q p dx H3 np ((e1.trans e2).trans e3) (e3 _ _ (e2 _ _ h1))⟩
/-- d.pop(t), the rest -/
theorem sq_popT {td tk : TE} {u : TS} {D : Ends} {σ : L2.St} {H : Hp} {d b : Addr} {kvs : List (List L2.Key × V)} {k : List L2.Key} {v : V} (hd : Ev td σ H (.ref d)) (hk : Ev tk σ H (.ref b)) (od : H d = some (.dT kvs)) (ob : H b = some (.tup (k.map kV))) (hv : valV kvs k = some v)
    (q : ∀ H', Ex H H' → u D σ (upd H' d (.dT (dropK kvs k)))) : tSeq (tDrop (tPopT td tk)) u D σ H :=
  hd H (Ex.refl H) _ fun H1 e1 => ⟨d, rfl, .inr ⟨kvs, .inl (e1 _ _ od)⟩, hk H1 e1 _ fun H2 e2 => ⟨kvs, k, b, v, rfl, e2 _ _ (e1 _ _ od), e2 _ _ (e1 _ _ ob), hv, q H2 (e1.trans e2)⟩⟩
/-- a new tuple comes out and is bound -/
theorem sq_setU {te : TE} {u : TS} {D : Ends} {σ : L2.St} {H : Hp} {i : Nat} {xs : List V} (h : EvU te σ H xs) (q : ∀ p H', H p = none → Ex H H' → H' p = some (.tup xs) → u D (σ.set i (some (.ref p))) H') : tSeq (tAsg te (gName i)) u D σ H := h H (Ex.refl H) _ q
/-- k in d, not in d: tuples for keys -/
theorem ev_inT {tk td : TE} {σ : L2.St} {H : Hp} {d b : Addr} {kvs : List (List L2.Key × V)} {k : List L2.Key} (hk : Ev tk σ H (.ref b)) (hd : Ev td σ H (.ref d)) (od : H d = some (.dT kvs)) (ob : H b = some (.tup (k.map kV))) : Ev (tDNotIn tk td) σ H (.bl (!(valV kvs k).isSome)) := fun H1 e Q q =>
  hk H1 e _ fun H2 e2 => hd H2 (e.trans e2) _ fun H3 e3 => ⟨d, _, rfl, DGet.t (e3 _ _ (e2 _ _ (e _ _ od))) (e3 _ _ (e2 _ _ (e _ _ ob))), q H3 (e2.trans e3)⟩
/-- len(d) -/
theorem ev_lenT {td : TE} {σ : L2.St} {H : Hp} {d : Addr} {kvs : List (List L2.Key × V)} (hd : Ev td σ H (.ref d)) (od : H d = some (.dT kvs)) : Ev (tCB rLenT (tCons td tNil)) σ H (.int (kvs.length : Int)) := fun H1 e Q q =>
  hd H1 e _ fun H2 e2 => ⟨d, kvs, rfl, e2 _ _ (e _ _ od), q H2 e2⟩
theorem nx_ev {D : Ends} {σ : L2.St} {H : Hp} (h : D.nx σ H) : tNext D σ H := h
theorem ret_el {te : TE} {D : Ends} {σ : L2.St} {H : Hp} {xs : List V} (h : EvL te σ H xs) (q : ∀ p H', H p = none → Ex H H' → H' p = some (.lst xs) → D.rt (.ref p) H') : tRet te D σ H := h H (Ex.refl H) _ q
theorem sq_setEL {te : TE} {u : TS} {D : Ends} {σ : L2.St} {H : Hp} {i : Nat} {xs : List V} (h : EvL te σ H xs) (q : ∀ p H', H p = none → Ex H H' → H' p = some (.lst xs) → u D (σ.set i (some (.ref p))) H') : tSeq (tAsg te (gName i)) u D σ H := h H (Ex.refl H) _ q
theorem sq_setEN {te : TE} {u : TS} {D : Ends} {σ : L2.St} {H : Hp} {i : Nat} {C : Addr} {fs : List (Str × V)} (h : EvN te σ H C fs) (q : ∀ p dx H', H p = none → Ex H H' → H' p = some (.ins C dx fs) → u D (σ.set i (some (.ref p))) H') : tSeq (tAsg te (gName i)) u D σ H := h H (Ex.refl H) _ q
/-! ### lists, new or not -/
def EvS (te : TE) (σ : L2.St) (H : Hp) (xs : List V) : Prop := ∀ H1, Ex H H1 → ∀ Q : VK, (∀ p H2, Ex H1 H2 → H2 p = some (.lst xs) → Q (.ref p) H2) → te σ H1 Q
theorem es_el {te : TE} {σ : L2.St} {H : Hp} {xs : List V} (h : EvL te σ H xs) : EvS te σ H xs := fun H1 e Q q => h H1 e Q fun p H2 _ e2 hp => q p H2 e2 hp
theorem es_at {te : TE} {σ : L2.St} {H : Hp} {xs : List V} {p : Addr} (h : Ev te σ H (.ref p)) (hp : H p = some (.lst xs)) : EvS te σ H xs := fun H1 e Q q => h H1 e Q fun H2 e2 => q p H2 e2 (e2 _ _ (e _ _ hp))
theorem el_cat {ta tb : TE} {σ : L2.St} {H : Hp} {xs ys : List V} (ha : EvS ta σ H xs) (hb : EvS tb σ H ys) (hl : xs.length + ys.length ≤ sizeLine) : EvL (tOp rCat ta tb) σ H (xs ++ ys) := fun H1 e Q q =>
  ha H1 e _ fun p H2 e2 hp => hb H2 (e.trans e2) _ fun r H3 e3 hr => ⟨p, r, xs, ys, rfl, rfl, e3 _ _ hp, hr, hl, fun z nz => q z _ (fresh_back (e2.trans e3) nz) ((e2.trans e3).trans (Ex.new nz)) upd_same⟩
theorem el_slS {K : PySem.W.Frag} {te : TE} {tl th : TO} {σ : L2.St} {H : Hp} {xs : List V} {lo hi : Option Int} (h : EvS te σ H xs) (h1 : EvO tl σ H lo) (h2 : EvO th σ H hi) : EvL (tSl (rSlL K) te tl th) σ H (cutV xs lo hi) := fun H1 e Q q =>
  h H1 e _ fun p H2 e2 hp => h1 H2 (e.trans e2) _ fun H3 e3 => h2 H3 ((e.trans e2).trans e3) _ fun H4 e4 => ⟨p, xs, rfl, sq_of (e4 _ _ (e3 _ _ hp)), fun z nz => q z _ (fresh_back ((e2.trans e3).trans e4) nz) (((e2.trans e3).trans e4).trans (Ex.new nz)) upd_same⟩
theorem el_every {K : PySem.W.Frag} {te : TE} {i : Nat} {σ : L2.St} {H : Hp} {xs : List V} (h : EvS te σ H xs) : EvL (tEvery K i te) σ H (evens (xs.drop i)) := fun H1 e Q q =>
  h H1 e _ fun p H2 e2 hp => ⟨p, xs, rfl, sq_of hp, fun z nz => q z _ (fresh_back e2 nz) (e2.trans (Ex.new nz)) upd_same⟩
theorem ev_lenS {K : PySem.W.Frag} {te : TE} {σ : L2.St} {H : Hp} {xs : List V} (h : EvS te σ H xs) : Ev (tCB (rLenS K) (tCons te tNil)) σ H (.int (xs.length : Int)) := fun H1 e Q q =>
  h H1 e _ fun p H2 e2 hp => ⟨p, xs, rfl, .inl (sq_of hp), q H2 e2⟩
theorem ev_sumS {K : PySem.W.Frag} {te : TE} {σ : L2.St} {H : Hp} {ns : List Int} (h : EvS te σ H (ns.map V.int)) : Ev (tCB (rSum K) (tCons te tNil)) σ H (.int ns.sum) := fun H1 e Q q =>
  h H1 e _ fun p H2 e2 hp => ⟨p, ns, rfl, sq_of hp, q H2 e2⟩
theorem ev_anyS {K : PySem.W.Frag} {te : TE} {σ : L2.St} {H : Hp} {bs : List Bool} (h : EvS te σ H (bs.map V.bl)) : Ev (tCB (rAny K) (tCons te tNil)) σ H (.bl (bs.any id)) := fun H1 e Q q =>
  h H1 e _ fun p H2 e2 hp => ⟨p, bs, rfl, sq_of hp, q H2 e2⟩
/-- arguments of which R holds, some of them new lists -/
def EvAR (ta : TA) (σ : L2.St) (H : Hp) (R : List V → Hp → Prop) : Prop := ∀ H1, Ex H H1 → ∀ Q : List V → Hp → Prop, (∀ vs H2, Ex H1 H2 → R vs H2 → Q vs H2) → ta σ H1 Q
theorem ar_nil {σ : L2.St} {H : Hp} : EvAR tNil σ H fun vs _ => vs = [] := fun H1 _ _ q => q [] H1 (Ex.refl H1) rfl
theorem ar_ev {te : TE} {tr : TA} {σ : L2.St} {H : Hp} {v : V} {R : List V → Hp → Prop} (h : Ev te σ H v) (hr : EvAR tr σ H R) : EvAR (tCons te tr) σ H fun vs H' => ∃ r, vs = v :: r ∧ R r H' := fun H1 e Q q =>
  h H1 e _ fun H2 e2 => hr H2 (e.trans e2) _ fun vs H3 e3 r => q _ H3 (e2.trans e3) ⟨vs, rfl, r⟩
theorem ar_es {te : TE} {tr : TA} {σ : L2.St} {H : Hp} {xs : List V} {R : List V → Hp → Prop} (h : EvS te σ H xs) (hr : EvAR tr σ H R) : EvAR (tCons te tr) σ H fun vs H' => ∃ p r, vs = .ref p :: r ∧ H' p = some (.lst xs) ∧ R r H' := fun H1 e Q q =>
  h H1 e _ fun p H2 e2 hp => hr H2 (e.trans e2) _ fun vs H3 e3 r => q _ H3 (e2.trans e3) ⟨p, vs, rfl, e3 _ _ hp, r⟩
theorem ar_en {te : TE} {tr : TA} {σ : L2.St} {H : Hp} {C : Addr} {fs : List (Str × V)} {R : List V → Hp → Prop} (h : EvN te σ H C fs) (hr : EvAR tr σ H R) : EvAR (tCons te tr) σ H fun vs H' => ∃ p dx r, vs = .ref p :: r ∧ H p = none ∧ H' p = some (.ins C dx fs) ∧ R r H' := fun H1 e Q q =>
  h H1 e _ fun p dx H2 np e2 hp => hr H2 (e.trans e2) _ fun vs H3 e3 r => q _ H3 (e2.trans e3) ⟨p, dx, vs, rfl, fresh_back e np, e3 _ _ hp, r⟩
theorem ev_callR {sp : Sp} {ta : TA} {σ : L2.St} {H : Hp} {E : XK} {z : V} {R : List V → Hp → Prop} (h : EvAR ta σ H R) (hs : ∀ vs H1, Ex H H1 → R vs H1 → SpV sp vs H1 z) : Ev (tCall sp [] E ta) σ H z := fun H1 e Q q =>
  h H1 e _ fun vs H2 e2 r => by
    rw [List.append_nil]
    exact hs vs H2 (e.trans e2) r H2 (Ex.refl H2) Q (fun H3 e3 => q H3 (e2.trans e3)) E
theorem el_callR {sp : Sp} {ta : TA} {σ : L2.St} {H : Hp} {E : XK} {xs : List V} {R : List V → Hp → Prop} (h : EvAR ta σ H R) (hs : ∀ vs H1, Ex H H1 → R vs H1 → SpL sp vs H1 xs) : EvL (tCall sp [] E ta) σ H xs := fun H1 e Q q =>
  h H1 e _ fun vs H2 e2 r => by
    rw [List.append_nil]
    exact hs vs H2 (e.trans e2) r H2 (Ex.refl H2) Q (fun p H3 np e3 hp => q p H3 (fresh_back e2 np) (e2.trans e3) hp) E
/-! ### things that change what was there -/
def EvX (te : TE) (σ : L2.St) (H : Hp) (R : V → Hp → Prop) : Prop := ∀ Q : VK, (∀ z H', R z H' → Q z H') → te σ H Q
theorem ret_x {te : TE} {D : Ends} {σ : L2.St} {H : Hp} {R : V → Hp → Prop} (h : EvX te σ H R) (q : ∀ z H', R z H' → D.rt z H') : tRet te D σ H := h _ q
theorem sq_setX {te : TE} {u : TS} {D : Ends} {σ : L2.St} {H : Hp} {i : Nat} {R : V → Hp → Prop} (h : EvX te σ H R) (q : ∀ z H', R z H' → u D (σ.set i (some z)) H') : tSeq (tAsg te (gName i)) u D σ H := h _ q
theorem sq_dropX {te : TE} {u : TS} {D : Ends} {σ : L2.St} {H : Hp} {R : V → Hp → Prop} (h : EvX te σ H R) (q : ∀ z H', R z H' → u D σ H') : tSeq (tDrop te) u D σ H := h _ q
theorem x_ev {te : TE} {σ : L2.St} {H : Hp} {v : V} (h : Ev te σ H v) : EvX te σ H fun z H' => z = v ∧ Ex H H' := fun Q q => h H (Ex.refl H) Q fun H' e => q v H' ⟨rfl, e⟩
theorem x_el {te : TE} {σ : L2.St} {H : Hp} {xs : List V} (h : EvL te σ H xs) : EvX te σ H fun z H' => ∃ p, z = .ref p ∧ H p = none ∧ Ex H H' ∧ H' p = some (.lst xs) := fun Q q => h H (Ex.refl H) Q fun p H' np e hp => q _ H' ⟨p, rfl, np, e, hp⟩
theorem x_en {te : TE} {σ : L2.St} {H : Hp} {C : Addr} {fs : List (Str × V)} (h : EvN te σ H C fs) : EvX te σ H fun z H' => ∃ p dx, z = .ref p ∧ H p = none ∧ Ex H H' ∧ H' p = some (.ins C dx fs) := fun Q q => h H (Ex.refl H) Q fun p dx H' np e hp => q _ H' ⟨p, dx, rfl, np, e, hp⟩
theorem x_call {sp : Sp} {vs : List V} {ta : TA} {σ : L2.St} {H : Hp} {E : XK} {R : V → Hp → Prop} (h : EvA ta σ H vs) (hs : ∀ H1, Ex H H1 → ∀ (Q : VK) (E : XK), (∀ z H', R z H' → Q z H') → sp vs H1 Q E) : EvX (tCall sp [] E ta) σ H R := fun Q q =>
  h H (Ex.refl H) _ fun H2 e2 => by
    rw [List.append_nil]
    exact hs H2 e2 Q E q
theorem x_callR {sp : Sp} {ta : TA} {σ : L2.St} {H : Hp} {E : XK} {R : V → Hp → Prop} {A : List V → Hp → Prop} (h : EvAR ta σ H A) (hs : ∀ vs H1, Ex H H1 → A vs H1 → ∀ (Q : VK) (E : XK), (∀ z H', R z H' → Q z H') → sp vs H1 Q E) : EvX (tCall sp [] E ta) σ H R := fun Q q =>
  h H (Ex.refl H) _ fun vs H2 e2 r => by
    rw [List.append_nil]
    exact hs vs H2 e2 r Q E q
theorem x_meth {K : PySem.W.Frag} {C a dx : Addr} {m : Str} {sp : Sp} {to : TE} {fs : List (Str × V)} {σ : L2.St} {H : Hp} {E : XK} {R : V → Hp → Prop} (h : Ev to σ H (.ref a)) (ho : H a = some (.ins C dx fs)) (hn : fs.lookup m = none) (hs : ∀ H1, Ex H H1 → ∀ (Q : VK) (E : XK), (∀ z H', R z H' → Q z H') → sp [.ref a] H1 Q E) : EvX (tMeth C m sp [] E to tNil) σ H R := fun Q q =>
  h H (Ex.refl H) _ fun H2 e2 => ⟨a, dx, fs, rfl, e2 _ _ ho, hn, by
    show sp ([.ref a] ++ []) H2 Q E
    exact hs H2 e2 Q E q⟩
/-- xs + (what changes things and gives a list) -/
theorem x_cat {ta tb : TE} {σ : L2.St} {H : Hp} {xs : List V} {R : Addr → V → Hp → Prop} {R2 : V → Hp → Prop} (ha : EvL ta σ H xs) (hb : ∀ p H1, H p = none → Ex H H1 → H1 p = some (.lst xs) → EvX tb σ H1 (R p))
    (hr : ∀ p z H', R p z H' → ∃ r ys, z = .ref r ∧ H' p = some (.lst xs) ∧ H' r = some (.lst ys) ∧ xs.length + ys.length ≤ sizeLine ∧ ∀ t, H' t = none → R2 (.ref t) (upd H' t (.lst (xs ++ ys)))) : EvX (tOp rCat ta tb) σ H R2 := fun Q q =>
  ha H (Ex.refl H) _ fun p H1 np e1 h1 => hb p H1 np e1 h1 _ fun z H2 r => by
    obtain ⟨s, ys, rfl, a1, a2, a3, a4⟩ := hr p z H2 r
    exact ⟨p, s, xs, ys, rfl, rfl, a1, a2, a3, fun t nt => q _ _ (a4 t nt)⟩
end Lp
set_option maxHeartbeats 400000000
namespace Lp
open PySem PySem.Spec PyProof.Rows L2 Evl
/-! numbers -/
theorem pow_le32 {j : Nat} (h : j ≤ 32) : 2 ^ j ≤ 2 ^ 32 := Nat.pow_le_pow_right (by decide) h
theorem fb_cast (a j : Nat) : ((a : Int) / 2 ^ j * 2 ^ j : Int) = ((a / 2 ^ j * 2 ^ j : Nat) : Int) := by
  rw [Int.natCast_mul, Int.natCast_ediv, Int.natCast_pow]
  rfl
theorem fb_le (a j : Nat) : a / 2 ^ j * 2 ^ j ≤ a := Nat.div_mul_le_self a _
section
variable {P : Program} {w : World} {K : PySem.W.Frag} {mg : Str → Option Value} {base : Heap}
def sp_is_link_number : Sp := spZ fun vs z => ∃ k : Int, vs = [.int k] ∧ z = .bl (Sv62.within k 0 3)
theorem len_is_link_number {vs : List V} {H : Hp} {Q : VK} {E : XK} (h : sp_is_link_number vs H Q E) : vs.length = (["k"] : List Str).length := by
  obtain ⟨_, ⟨k, rfl, _⟩, _⟩ := h
  rfl
theorem sc_is_link_number : FnScope ["k"] ["k"] (defScope s_is_link_number) := ⟨rfl, rfl, rfl, by decide +kernel, rfl, by decide +kernel, by decide +kernel⟩
theorem okF_is_link_number (T : Txt K mg base) {fd : FuncData} (F : FunD K d_is_link_number.name d_is_link_number.qual d_is_link_number.params d_is_link_number.body d_is_link_number.scope [] [] (He.fAd K d_is_link_number.at_) fd) : FnOk P w K mg base CX0 1 (He.ga K "is_link_number") fd ["k"] sp_is_link_number := by
  refine F.ok sc_is_link_number (fun vs H Q E h => len_is_link_number h) (fun cdv Ar outer s H vs Q E hr h => ?_)
  refine ⟨_, PSs.nox (pss_one (ps_ret (pe_chain op_le op_lt pe_int (pv 0) (pe_gi rfl T.c_LINK_COUNT)))), ?_⟩
  obtain ⟨_, ⟨k, rfl, rfl⟩, q⟩ := h
  have e : Sv62.within k 0 3 = (decide (0 ≤ k) && decide (k < 4)) := by
    unfold Sv62.within
    rw [show decide (k ≤ 3) = decide (k < 4) by apply decide_eq_decide.mpr; omega]
  rw [e] at q
  exact ret_ev (rv_ch ev_c (ev_var rfl) (fun _ => ev_c) rv_I0 (fun _ => rv_I0)) q
theorem ok_is_link_number (T : Txt K mg base) : DefOk P w K mg base 1 (He.ga K "is_link_number") ["k"] sp_is_link_number := by
  obtain ⟨fd, F⟩ := T.fd_is_link_number
  exact ⟨fd, okF_is_link_number T F, F.bindsN fun _ _ _ _ _ _ us hl => match us, hl with | [_], _ => rfl, F.kp⟩
def sp_is_one_machine : Sp := spZ fun vs z => ∃ k : Int, vs = [.int k] ∧ z = .bl (Sv62.within k 1 4294967294)
theorem len_is_one_machine {vs : List V} {H : Hp} {Q : VK} {E : XK} (h : sp_is_one_machine vs H Q E) : vs.length = (["k"] : List Str).length := by
  obtain ⟨_, ⟨k, rfl, _⟩, _⟩ := h
  rfl
theorem sc_is_one_machine : FnScope ["address"] ["address"] (defScope s_is_one_machine) := ⟨rfl, rfl, rfl, by decide +kernel, rfl, by decide +kernel, by decide +kernel⟩
theorem okF_is_one_machine (T : Txt K mg base) {fd : FuncData} (F : FunD K d_is_one_machine.name d_is_one_machine.qual d_is_one_machine.params d_is_one_machine.body d_is_one_machine.scope [] [] (He.fAd K d_is_one_machine.at_) fd) : FnOk P w K mg base CX0 1 (He.ga K "is_one_machine") fd ["address"] sp_is_one_machine := by
  refine F.ok sc_is_one_machine (fun vs H Q E h => len_is_one_machine h) (fun cdv Ar outer s H vs Q E hr h => ?_)
  refine ⟨_, PSs.nox (pss_one (ps_ret (pe_chain op_lt op_lt (pe_gi rfl T.c_NOBODY) (pv 0) (pe_gi rfl T.c_EVERYBODY)))), ?_⟩
  obtain ⟨_, ⟨k, rfl, rfl⟩, q⟩ := h
  have e : Sv62.within k 1 4294967294 = (decide (0 < k) && decide (k < 4294967295)) := by
    unfold Sv62.within
    rw [show decide (k ≤ 4294967294) = decide (k < 4294967295) by apply decide_eq_decide.mpr; omega, show decide (1 ≤ k) = decide (0 < k) by apply decide_eq_decide.mpr; omega]
  rw [e] at q
  exact ret_ev (rv_ch ev_c (ev_var rfl) (fun _ => ev_c) rv_I0 (fun _ => rv_I0)) q
theorem ok_is_one_machine (T : Txt K mg base) : DefOk P w K mg base 1 (He.ga K "is_one_machine") ["address"] sp_is_one_machine := by
  obtain ⟨fd, F⟩ := T.fd_is_one_machine
  exact ⟨fd, okF_is_one_machine T F, F.bindsN fun _ _ _ _ _ _ us hl => match us, hl with | [_], _ => rfl, F.kp⟩
def sp_is_bit_count : Sp := spZ fun vs z => ∃ k : Int, vs = [.int k] ∧ z = .bl (Sv62.within k 0 32)
theorem len_is_bit_count {vs : List V} {H : Hp} {Q : VK} {E : XK} (h : sp_is_bit_count vs H Q E) : vs.length = (["k"] : List Str).length := by
  obtain ⟨_, ⟨k, rfl, _⟩, _⟩ := h
  rfl
theorem sc_is_bit_count : FnScope ["bits"] ["bits"] (defScope s_is_bit_count) := ⟨rfl, rfl, rfl, by decide +kernel, rfl, by decide +kernel, by decide +kernel⟩
theorem okF_is_bit_count (T : Txt K mg base) {fd : FuncData} (F : FunD K d_is_bit_count.name d_is_bit_count.qual d_is_bit_count.params d_is_bit_count.body d_is_bit_count.scope [] [] (He.fAd K d_is_bit_count.at_) fd) : FnOk P w K mg base CX0 1 (He.ga K "is_bit_count") fd ["bits"] sp_is_bit_count := by
  refine F.ok sc_is_bit_count (fun vs H Q E h => len_is_bit_count h) (fun cdv Ar outer s H vs Q E hr h => ?_)
  refine ⟨_, PSs.nox (pss_one (ps_ret (pe_chain op_le op_le pe_int (pv 0) (pe_gi rfl T.c_ADDRESS_BITS)))), ?_⟩
  obtain ⟨_, ⟨k, rfl, rfl⟩, q⟩ := h
  exact ret_ev (rv_ch ev_c (ev_var rfl) (fun _ => ev_c) rv_I0 (fun _ => rv_I0)) q
theorem ok_is_bit_count (T : Txt K mg base) : DefOk P w K mg base 1 (He.ga K "is_bit_count") ["bits"] sp_is_bit_count := by
  obtain ⟨fd, F⟩ := T.fd_is_bit_count
  exact ⟨fd, okF_is_bit_count T F, F.bindsN fun _ _ _ _ _ _ us hl => match us, hl with | [_], _ => rfl, F.kp⟩
def sp_first_bits : Sp := spZ fun vs z => ∃ a b : Nat, vs = [.int (a : Int), .int (b : Int)] ∧ a < 2 ^ 32 ∧ b ≤ 32 ∧ z = .int (fb a b : Int)
theorem len_first_bits {vs : List V} {H : Hp} {Q : VK} {E : XK} (h : sp_first_bits vs H Q E) : vs.length = (["address", "bits"] : List Str).length := by
  obtain ⟨_, ⟨a, b, rfl, _⟩, _⟩ := h
  rfl
theorem sc_first_bits : FnScope ["address", "bits", "others"] ["address", "bits"] (defScope s_first_bits) := ⟨rfl, rfl, rfl, by decide +kernel, rfl, by decide +kernel, by decide +kernel⟩
theorem okF_first_bits (T : Txt K mg base) {fd : FuncData} (F : FunD K d_first_bits.name d_first_bits.qual d_first_bits.params d_first_bits.body d_first_bits.scope [] [] (He.fAd K d_first_bits.at_) fd) : FnOk P w K mg base CX0 1 (He.ga K "first_bits") fd ["address", "bits"] sp_first_bits := by
  refine F.ok sc_first_bits (fun vs H Q E h => len_first_bits h) (fun cdv Ar outer s H vs Q E hr h => ?_)
  refine ⟨_, PSs.nox (pss_cons (ps_set (i := 2) sc_first_bits.nd rfl (Or.inl rfl) (pe_op op_sub (pe_gi rfl T.c_ADDRESS_BITS) (pv 1)))
      (pss_one (ps_ret (pe_op op_shl (pe_op op_shr (pv 0) (pv 2)) (pv 2))))), ?_⟩
  obtain ⟨_, ⟨a, b, rfl, h1, h3, rfl⟩, q⟩ := h
  refine ⟨_, rfl, _, _, rfl, rfl, ?_⟩
  have e : (((32 : Int) - (b : Int)).toNat) = 32 - b := by omega
  refine ret_ev (ev_is (ev_op (ev_op (ev_var rfl) (ev_var rfl) (rv_I (by show (0 : Int) ≤ 32 - (b : Int); omega))) (ev_var rfl) (rv_I ?_)) ?_) q
  · refine ⟨by show (0 : Int) ≤ 32 - (b : Int); omega, by show (32 - (b : Int)) ≤ 1000000; omega, ?_⟩
    rw [e]
    have h5 : ((a : Int) / 2 ^ (32 - b)) = ((a / 2 ^ (32 - b) : Nat) : Int) := by
      rw [Int.natCast_ediv, Int.natCast_pow]
      rfl
    rw [h5, Int.natAbs_natCast]
    exact Nat.lt_of_le_of_lt (Nat.div_le_self _ _) (Nat.lt_of_lt_of_le h1 (by decide))
  · rw [e]
    exact congrArg V.int (fb_cast a _)
theorem ok_first_bits (T : Txt K mg base) : DefOk P w K mg base 1 (He.ga K "first_bits") ["address", "bits"] sp_first_bits := by
  obtain ⟨fd, F⟩ := T.fd_first_bits
  exact ⟨fd, okF_first_bits T F, F.bindsN fun _ _ _ _ _ _ us hl => match us, hl with | [_, _], _ => rfl, F.kp⟩
def sp_is_way_start : Sp := spZ fun vs z => ∃ (a : Nat) (b : Int), vs = [.int (a : Int), .int b] ∧ a < 2 ^ 32 ∧ z = .bl (Sv62.wayFine a b)
theorem len_is_way_start {vs : List V} {H : Hp} {Q : VK} {E : XK} (h : sp_is_way_start vs H Q E) : vs.length = (["address", "bits"] : List Str).length := by
  obtain ⟨_, ⟨a, b, rfl, _⟩, _⟩ := h
  rfl
theorem wayFine_eq {a : Nat} {b : Int} (h : a < 2 ^ 32) : Sv62.wayFine a b = (Sv62.within b 0 32 && decide (V.int (fb a b.toNat : Int) = V.int (a : Int))) := by
  unfold Sv62.wayFine
  have e1 : Sv62.within (a : Int) 0 4294967295 = true := by
    unfold Sv62.within
    rw [Bool.and_eq_true, decide_eq_true_iff, decide_eq_true_iff]
    omega
  rw [e1, Bool.true_and]
  congr 1
  rw [Int.toNat_natCast, Bool.eq_iff_iff, beq_iff_eq, decide_eq_true_iff, V.int.injEq, Int.ofNat_inj]
  exact (fb_eq_iff _ _).symm
theorem sc_is_way_start : FnScope ["address", "bits"] ["address", "bits"] (defScope s_is_way_start) := ⟨rfl, rfl, rfl, by decide +kernel, rfl, by decide +kernel, by decide +kernel⟩
theorem okF_is_way_start (T : Txt K mg base) {fd : FuncData} (F : FunD K d_is_way_start.name d_is_way_start.qual d_is_way_start.params d_is_way_start.body d_is_way_start.scope [] [] (He.fAd K d_is_way_start.at_) fd) : FnOk P w K mg base CX0 2 (He.ga K "is_way_start") fd ["address", "bits"] sp_is_way_start := by
  obtain ⟨fd_first_bits, G_first_bits, b_first_bits, k_first_bits⟩ := ok_first_bits (P := P) (w := w) (base := base) T
  obtain ⟨fd_is_bit_count, G_is_bit_count, b_is_bit_count, k_is_bit_count⟩ := ok_is_bit_count (P := P) (w := w) (base := base) T
  refine F.ok sc_is_way_start (fun vs H Q E h => len_is_way_start h) (fun cdv Ar outer s H vs Q E hr h => ?_)
  refine ⟨_, PSs.nox (pss_one (ps_ret (pe_and (pe_call G_is_bit_count (hr.mono (by decide)) rfl T.g_is_bit_count k_is_bit_count b_is_bit_count .nil pass0 (pa_cons (pv 1) pa_nil)) (pe_one (pe_cmpR op_eq (pe_call G_first_bits (hr.mono (by decide)) rfl T.g_first_bits k_first_bits b_first_bits .nil pass0 (pa_cons (pv 0) (pa_cons (pv 1) pa_nil))) (pv 0) (nomark _)))))), ?_⟩
  obtain ⟨_, ⟨a, b, rfl, h1, rfl⟩, q⟩ := h
  rw [wayFine_eq h1] at q
  refine ret_ev (ev_andV (ev_call (ea_cons (ev_var rfl) ea_nil) (spZ_v ⟨b, rfl, rfl⟩)) fun hb => ?_) q
  have hb2 : 0 ≤ b ∧ b ≤ 32 := by
    unfold Sv62.within at hb
    rw [Bool.and_eq_true, decide_eq_true_iff, decide_eq_true_iff] at hb
    exact hb
  refine ev_op (ev_call (ea_cons (ev_var rfl) (ea_cons (ev_var rfl) ea_nil)) (spZ_v ⟨a, b.toNat, ?_, h1, by omega, rfl⟩)) (ev_var rfl) (rv_eq rfl)
  rw [Int.toNat_of_nonneg hb2.1]
  rfl
theorem ok_is_way_start (T : Txt K mg base) : DefOk P w K mg base 2 (He.ga K "is_way_start") ["address", "bits"] sp_is_way_start := by
  obtain ⟨fd, F⟩ := T.fd_is_way_start
  exact ⟨fd, okF_is_way_start T F, F.bindsN fun _ _ _ _ _ _ us hl => match us, hl with | [_, _], _ => rfl, F.kp⟩
def sp_is_way_end : Sp := spZ fun vs z => ∃ (k x : Int), vs = [.int k, .int x] ∧ z = .bl (Sv62.within k 0 3 && Sv62.within x 0 4294967294)
theorem len_is_way_end {vs : List V} {H : Hp} {Q : VK} {E : XK} (h : sp_is_way_end vs H Q E) : vs.length = (["address", "bits"] : List Str).length := by
  obtain ⟨_, ⟨a, b, rfl, _⟩, _⟩ := h
  rfl
theorem sc_is_way_end : FnScope ["link", "next_machine"] ["link", "next_machine"] (defScope s_is_way_end) := ⟨rfl, rfl, rfl, by decide +kernel, rfl, by decide +kernel, by decide +kernel⟩
theorem okF_is_way_end (T : Txt K mg base) {fd : FuncData} (F : FunD K d_is_way_end.name d_is_way_end.qual d_is_way_end.params d_is_way_end.body d_is_way_end.scope [] [] (He.fAd K d_is_way_end.at_) fd) : FnOk P w K mg base CX0 2 (He.ga K "is_way_end") fd ["link", "next_machine"] sp_is_way_end := by
  obtain ⟨fd_is_link_number, G_is_link_number, b_is_link_number, k_is_link_number⟩ := ok_is_link_number (P := P) (w := w) (base := base) T
  refine F.ok sc_is_way_end (fun vs H Q E h => len_is_way_end h) (fun cdv Ar outer s H vs Q E hr h => ?_)
  refine ⟨_, PSs.nox (pss_one (ps_ret (pe_and (pe_call G_is_link_number (hr.mono (by decide)) rfl T.g_is_link_number k_is_link_number b_is_link_number .nil pass0 (pa_cons (pv 0) pa_nil)) (pe_one (pe_chain op_le op_lt (pe_gi rfl T.c_NOBODY) (pv 1) (pe_gi rfl T.c_EVERYBODY)))))), ?_⟩
  obtain ⟨_, ⟨k, x, rfl, rfl⟩, q⟩ := h
  have e : Sv62.within x 0 4294967294 = (decide (0 ≤ x) && decide (x < 4294967295)) := by
    unfold Sv62.within
    rw [show decide (x ≤ 4294967294) = decide (x < 4294967295) by apply decide_eq_decide.mpr; omega]
  rw [e] at q
  exact ret_ev (ev_andV (ev_call (ea_cons (ev_var rfl) ea_nil) (spZ_v ⟨k, rfl, rfl⟩)) fun _ => rv_ch ev_c (ev_var rfl) (fun _ => ev_c) rv_I0 (fun _ => rv_I0)) q
theorem ok_is_way_end (T : Txt K mg base) : DefOk P w K mg base 2 (He.ga K "is_way_end") ["link", "next_machine"] sp_is_way_end := by
  obtain ⟨fd, F⟩ := T.fd_is_way_end
  exact ⟨fd, okF_is_way_end T F, F.bindsN fun _ _ _ _ _ _ us hl => match us, hl with | [_, _], _ => rfl, F.kp⟩
def sp_is_link_setting : Sp := spZ fun vs z => ∃ (a b f : Int), vs = [.int a, .int b, .int f] ∧ z = .bl (Sv62.within a 1 4294967294 && (Sv62.within b 0 32 && Sv62.within f 68 1500))
theorem len_is_link_setting {vs : List V} {H : Hp} {Q : VK} {E : XK} (h : sp_is_link_setting vs H Q E) : vs.length = (["a", "b", "f"] : List Str).length := by
  obtain ⟨_, ⟨a, b, f, rfl, _⟩, _⟩ := h
  rfl
theorem sc_is_link_setting : FnScope ["address", "bits", "fits"] ["address", "bits", "fits"] (defScope s_is_link_setting) := ⟨rfl, rfl, rfl, by decide +kernel, rfl, by decide +kernel, by decide +kernel⟩
theorem okF_is_link_setting (T : Txt K mg base) {fd : FuncData} (F : FunD K d_is_link_setting.name d_is_link_setting.qual d_is_link_setting.params d_is_link_setting.body d_is_link_setting.scope [] [] (He.fAd K d_is_link_setting.at_) fd) : FnOk P w K mg base CX0 2 (He.ga K "is_link_setting") fd ["address", "bits", "fits"] sp_is_link_setting := by
  obtain ⟨fd_is_bit_count, G_is_bit_count, b_is_bit_count, k_is_bit_count⟩ := ok_is_bit_count (P := P) (w := w) (base := base) T
  obtain ⟨fd_is_one_machine, G_is_one_machine, b_is_one_machine, k_is_one_machine⟩ := ok_is_one_machine (P := P) (w := w) (base := base) T
  refine F.ok sc_is_link_setting (fun vs H Q E h => len_is_link_setting h) (fun cdv Ar outer s H vs Q E hr h => ?_)
  refine ⟨_, PSs.nox (pss_one (ps_ret (pe_and (pe_call G_is_one_machine (hr.mono (by decide)) rfl T.g_is_one_machine k_is_one_machine b_is_one_machine .nil pass0 (pa_cons (pv 0) pa_nil)) (pe_and (pe_call G_is_bit_count (hr.mono (by decide)) rfl T.g_is_bit_count k_is_bit_count b_is_bit_count .nil pass0 (pa_cons (pv 1) pa_nil)) (pe_one (pe_chain op_le op_le (pe_gi rfl T.c_LEAST_FITS) (pv 2) (pe_gi rfl T.c_MOST_FITS))))))), ?_⟩
  obtain ⟨_, ⟨a, b, f, rfl, rfl⟩, q⟩ := h
  exact ret_ev (ev_andV (ev_call (ea_cons (ev_var rfl) ea_nil) (spZ_v ⟨a, rfl, rfl⟩)) fun _ => ev_andV (ev_call (ea_cons (ev_var rfl) ea_nil) (spZ_v ⟨b, rfl, rfl⟩)) fun _ => rv_ch ev_c (ev_var rfl) (fun _ => ev_c) rv_I0 (fun _ => rv_I0)) q
theorem ok_is_link_setting (T : Txt K mg base) : DefOk P w K mg base 2 (He.ga K "is_link_setting") ["address", "bits", "fits"] sp_is_link_setting := by
  obtain ⟨fd, F⟩ := T.fd_is_link_setting
  exact ⟨fd, okF_is_link_setting T F, F.bindsN fun _ _ _ _ _ _ us hl => match us, hl with | [_, _, _], _ => rfl, F.kp⟩
def sp_is_hops : Sp := spZ fun vs z => ∃ k : Int, vs = [.int k] ∧ z = .bl (Sv62.within k 1 255)
theorem len_is_hops {vs : List V} {H : Hp} {Q : VK} {E : XK} (h : sp_is_hops vs H Q E) : vs.length = (["k"] : List Str).length := by
  obtain ⟨_, ⟨k, rfl, _⟩, _⟩ := h
  rfl
theorem sc_is_hops : FnScope ["hops"] ["hops"] (defScope s_is_hops) := ⟨rfl, rfl, rfl, by decide +kernel, rfl, by decide +kernel, by decide +kernel⟩
theorem okF_is_hops (T : Txt K mg base) {fd : FuncData} (F : FunD K d_is_hops.name d_is_hops.qual d_is_hops.params d_is_hops.body d_is_hops.scope [] [] (He.fAd K d_is_hops.at_) fd) : FnOk P w K mg base CX0 1 (He.ga K "is_hops") fd ["hops"] sp_is_hops := by
  refine F.ok sc_is_hops (fun vs H Q E h => len_is_hops h) (fun cdv Ar outer s H vs Q E hr h => ?_)
  refine ⟨_, PSs.nox (pss_one (ps_ret (pe_chain op_le op_le pe_int (pv 0) (pe_gi rfl T.c_MOST_HOPS)))), ?_⟩
  obtain ⟨_, ⟨k, rfl, rfl⟩, q⟩ := h
  exact ret_ev (rv_ch ev_c (ev_var rfl) (fun _ => ev_c) rv_I0 (fun _ => rv_I0)) q
theorem ok_is_hops (T : Txt K mg base) : DefOk P w K mg base 1 (He.ga K "is_hops") ["hops"] sp_is_hops := by
  obtain ⟨fd, F⟩ := T.fd_is_hops
  exact ⟨fd, okF_is_hops T F, F.bindsN fun _ _ _ _ _ _ us hl => match us, hl with | [_], _ => rfl, F.kp⟩
def sp_is_what : Sp := spZ fun vs z => ∃ k : Int, vs = [.int k] ∧ z = .bl (Sv62.within k 1 4)
theorem len_is_what {vs : List V} {H : Hp} {Q : VK} {E : XK} (h : sp_is_what vs H Q E) : vs.length = (["k"] : List Str).length := by
  obtain ⟨_, ⟨k, rfl, _⟩, _⟩ := h
  rfl
theorem sc_is_what : FnScope ["what"] ["what"] (defScope s_is_what) := ⟨rfl, rfl, rfl, by decide +kernel, rfl, by decide +kernel, by decide +kernel⟩
theorem okF_is_what (T : Txt K mg base) {fd : FuncData} (F : FunD K d_is_what.name d_is_what.qual d_is_what.params d_is_what.body d_is_what.scope [] [] (He.fAd K d_is_what.at_) fd) : FnOk P w K mg base CX0 1 (He.ga K "is_what") fd ["what"] sp_is_what := by
  refine F.ok sc_is_what (fun vs H Q E h => len_is_what h) (fun cdv Ar outer s H vs Q E hr h => ?_)
  refine ⟨_, PSs.nox (pss_one (ps_ret (pe_chain op_le op_le (pe_gi rfl T.c_ERROR_heads) (pv 0) (pe_gi rfl T.c_MOST_WHAT)))), ?_⟩
  obtain ⟨_, ⟨k, rfl, rfl⟩, q⟩ := h
  exact ret_ev (rv_ch ev_c (ev_var rfl) (fun _ => ev_c) rv_I0 (fun _ => rv_I0)) q
theorem ok_is_what (T : Txt K mg base) : DefOk P w K mg base 1 (He.ga K "is_what") ["what"] sp_is_what := by
  obtain ⟨fd, F⟩ := T.fd_is_what
  exact ⟨fd, okF_is_what T F, F.bindsN fun _ _ _ _ _ _ us hl => match us, hl with | [_], _ => rfl, F.kp⟩
def sp_is_to : Sp := spZ fun vs z => ∃ k : Int, vs = [.int k] ∧ z = .bl (Sv62.within k 1 4294967295)
theorem len_is_to {vs : List V} {H : Hp} {Q : VK} {E : XK} (h : sp_is_to vs H Q E) : vs.length = (["k"] : List Str).length := by
  obtain ⟨_, ⟨k, rfl, _⟩, _⟩ := h
  rfl
theorem sc_is_to : FnScope ["to"] ["to"] (defScope s_is_to) := ⟨rfl, rfl, rfl, by decide +kernel, rfl, by decide +kernel, by decide +kernel⟩
theorem okF_is_to (T : Txt K mg base) {fd : FuncData} (F : FunD K d_is_to.name d_is_to.qual d_is_to.params d_is_to.body d_is_to.scope [] [] (He.fAd K d_is_to.at_) fd) : FnOk P w K mg base CX0 1 (He.ga K "is_to") fd ["to"] sp_is_to := by
  refine F.ok sc_is_to (fun vs H Q E h => len_is_to h) (fun cdv Ar outer s H vs Q E hr h => ?_)
  refine ⟨_, PSs.nox (pss_one (ps_ret (pe_chain op_lt op_le (pe_gi rfl T.c_NOBODY) (pv 0) (pe_gi rfl T.c_EVERYBODY)))), ?_⟩
  obtain ⟨_, ⟨k, rfl, rfl⟩, q⟩ := h
  have e : Sv62.within k 1 4294967295 = (decide (0 < k) && decide (k ≤ 4294967295)) := by
    unfold Sv62.within
    rw [show decide (1 ≤ k) = decide (0 < k) by apply decide_eq_decide.mpr; omega]
  rw [e] at q
  exact ret_ev (rv_ch ev_c (ev_var rfl) (fun _ => ev_c) rv_I0 (fun _ => rv_I0)) q
theorem ok_is_to (T : Txt K mg base) : DefOk P w K mg base 1 (He.ga K "is_to") ["to"] sp_is_to := by
  obtain ⟨fd, F⟩ := T.fd_is_to
  exact ⟨fd, okF_is_to T F, F.bindsN fun _ _ _ _ _ _ us hl => match us, hl with | [_], _ => rfl, F.kp⟩
def sp_is_kind : Sp := spZ fun vs z => ∃ k : Int, vs = [.int k] ∧ z = .bl (Sv62.within k 1 5)
theorem len_is_kind {vs : List V} {H : Hp} {Q : VK} {E : XK} (h : sp_is_kind vs H Q E) : vs.length = (["k"] : List Str).length := by
  obtain ⟨_, ⟨k, rfl, _⟩, _⟩ := h
  rfl
theorem sc_is_kind : FnScope ["kind"] ["kind"] (defScope s_is_kind) := ⟨rfl, rfl, rfl, by decide +kernel, rfl, by decide +kernel, by decide +kernel⟩
theorem okF_is_kind (T : Txt K mg base) {fd : FuncData} (F : FunD K d_is_kind.name d_is_kind.qual d_is_kind.params d_is_kind.body d_is_kind.scope [] [] (He.fAd K d_is_kind.at_) fd) : FnOk P w K mg base CX0 1 (He.ga K "is_kind") fd ["kind"] sp_is_kind := by
  refine F.ok sc_is_kind (fun vs H Q E h => len_is_kind h) (fun cdv Ar outer s H vs Q E hr h => ?_)
  refine ⟨_, PSs.nox (pss_one (ps_ret (pe_chain op_le op_le (pe_gi rfl T.c_NO_WAY) (pv 0) (pe_gi rfl T.c_PIECES_MISSING)))), ?_⟩
  obtain ⟨_, ⟨k, rfl, rfl⟩, q⟩ := h
  exact ret_ev (rv_ch ev_c (ev_var rfl) (fun _ => ev_c) rv_I0 (fun _ => rv_I0)) q
theorem ok_is_kind (T : Txt K mg base) : DefOk P w K mg base 1 (He.ga K "is_kind") ["kind"] sp_is_kind := by
  obtain ⟨fd, F⟩ := T.fd_is_kind
  exact ⟨fd, okF_is_kind T F, F.bindsN fun _ _ _ _ _ _ us hl => match us, hl with | [_], _ => rfl, F.kp⟩
def sp_is_number : Sp := spZ fun vs z => ∃ k : Int, vs = [.int k] ∧ z = .bl (Sv62.within k 0 4294967295)
theorem len_is_number {vs : List V} {H : Hp} {Q : VK} {E : XK} (h : sp_is_number vs H Q E) : vs.length = (["k"] : List Str).length := by
  obtain ⟨_, ⟨k, rfl, _⟩, _⟩ := h
  rfl
theorem sc_is_number : FnScope ["number"] ["number"] (defScope s_is_number) := ⟨rfl, rfl, rfl, by decide +kernel, rfl, by decide +kernel, by decide +kernel⟩
theorem okF_is_number (T : Txt K mg base) {fd : FuncData} (F : FunD K d_is_number.name d_is_number.qual d_is_number.params d_is_number.body d_is_number.scope [] [] (He.fAd K d_is_number.at_) fd) : FnOk P w K mg base CX0 1 (He.ga K "is_number") fd ["number"] sp_is_number := by
  refine F.ok sc_is_number (fun vs H Q E h => len_is_number h) (fun cdv Ar outer s H vs Q E hr h => ?_)
  refine ⟨_, PSs.nox (pss_one (ps_ret (pe_chain op_le op_le pe_int (pv 0) (pe_gi rfl T.c_MOST_NUMBER)))), ?_⟩
  obtain ⟨_, ⟨k, rfl, rfl⟩, q⟩ := h
  exact ret_ev (rv_ch ev_c (ev_var rfl) (fun _ => ev_c) rv_I0 (fun _ => rv_I0)) q
theorem ok_is_number (T : Txt K mg base) : DefOk P w K mg base 1 (He.ga K "is_number") ["number"] sp_is_number := by
  obtain ⟨fd, F⟩ := T.fd_is_number
  exact ⟨fd, okF_is_number T F, F.bindsN fun _ _ _ _ _ _ us hl => match us, hl with | [_], _ => rfl, F.kp⟩
def sp_is_link_or_none : Sp := spZ fun vs z => ∃ k : Int, vs = [.int k] ∧ z = .bl (Sv62.within k (-1) 3)
theorem len_is_link_or_none {vs : List V} {H : Hp} {Q : VK} {E : XK} (h : sp_is_link_or_none vs H Q E) : vs.length = (["k"] : List Str).length := by
  obtain ⟨_, ⟨k, rfl, _⟩, _⟩ := h
  rfl
theorem sc_is_link_or_none : FnScope ["link"] ["link"] (defScope s_is_link_or_none) := ⟨rfl, rfl, rfl, by decide +kernel, rfl, by decide +kernel, by decide +kernel⟩
theorem okF_is_link_or_none (T : Txt K mg base) {fd : FuncData} (F : FunD K d_is_link_or_none.name d_is_link_or_none.qual d_is_link_or_none.params d_is_link_or_none.body d_is_link_or_none.scope [] [] (He.fAd K d_is_link_or_none.at_) fd) : FnOk P w K mg base CX0 2 (He.ga K "is_link_or_none") fd ["link"] sp_is_link_or_none := by
  obtain ⟨fd_is_link_number, G_is_link_number, b_is_link_number, k_is_link_number⟩ := ok_is_link_number (P := P) (w := w) (base := base) T
  refine F.ok sc_is_link_or_none (fun vs H Q E h => len_is_link_or_none h) (fun cdv Ar outer s H vs Q E hr h => ?_)
  refine ⟨_, PSs.nox (pss_one (ps_ret (pe_or (pe_cmpR op_eq (pv 0) (pe_gi rfl T.c_BY_WAY) (nomark _)) (pe_one (pe_call G_is_link_number (hr.mono (by decide)) rfl T.g_is_link_number k_is_link_number b_is_link_number .nil pass0 (pa_cons (pv 0) pa_nil)))))), ?_⟩
  obtain ⟨_, ⟨k, rfl, rfl⟩, q⟩ := h
  have e : Sv62.within k (-1) 3 = (decide (V.int k = V.int (-1)) || Sv62.within k 0 3) := by
    rw [Bool.eq_iff_iff, Bool.or_eq_true]
    unfold Sv62.within
    simp only [Bool.and_eq_true, decide_eq_true_eq, V.int.injEq]
    omega
  rw [e] at q
  exact ret_ev (ev_orV (ev_op (ev_var rfl) ev_c (rv_eq rfl)) fun _ => ev_call (ea_cons (ev_var rfl) ea_nil) (spZ_v ⟨k, rfl, rfl⟩)) q
theorem ok_is_link_or_none (T : Txt K mg base) : DefOk P w K mg base 2 (He.ga K "is_link_or_none") ["link"] sp_is_link_or_none := by
  obtain ⟨fd, F⟩ := T.fd_is_link_or_none
  exact ⟨fd, okF_is_link_or_none T F, F.bindsN fun _ _ _ _ _ _ us hl => match us, hl with | [_], _ => rfl, F.kp⟩
end
end Lp
set_option maxHeartbeats 400000000
namespace Lp
open PySem PySem.Spec PyProof.Rows L2 Evl
/-! ### numbers in bytes, sums -/
theorem bv_high (n x : Nat) : given n (fun _ => true) (fun i => V.int ((x / 256 ^ (n - 1 - i) % 256 : Nat) : Int)) = bv (Sv62.high n x) := by
  unfold given bv Sv62.high
  rw [List.filter_eq_self.mpr (fun _ _ => rfl), List.map_map]
  apply List.map_congr_left
  intro i _
  show V.int _ = V.int _
  rw [UInt8.toNat_ofNat', Nat.mod_mod]
theorem number_snoc (b : Sv62.Bytes) (c : UInt8) : Sv62.number (b ++ [c]) = 256 * Sv62.number b + c.toNat := by
  unfold Sv62.number
  rw [List.foldl_append]
  rfl
theorem ints_sum (b : Sv62.Bytes) : (Sv62Neutral.ofOctets b).sum = (((b.map UInt8.toNat).sum : Nat) : Int) := by
  unfold Sv62Neutral.ofOctets
  induction b with
  | nil => rfl
  | cons c r ih =>
    rw [List.map_cons, List.sum_cons, List.map_cons, List.sum_cons, ih]
    omega
theorem bv_evens (b : Sv62.Bytes) (i : Nat) : evens ((bv b).drop i) = (Sv62Neutral.ofOctets (evens (b.drop i))).map V.int := by
  rw [bv_drop, ← bv_off]
  unfold bv
  rw [evens_map]
section
variable {P : Program} {w : World} {K : PySem.W.Frag} {mg : Str → Option Value} {base : Heap}
def sp_as_bytes : Sp := fun vs H Q _ => ∃ x n : Nat, vs = [.int (x : Int), .int (n : Int)] ∧ n ≤ 8 ∧ RetL (bv (Sv62.high n x)) H Q
theorem len_as_bytes {vs : List V} {H : Hp} {Q : VK} {E : XK} (h : sp_as_bytes vs H Q E) : vs.length = 2 := by
  obtain ⟨x, n, rfl, _⟩ := h
  rfl
theorem sc_as_bytes : FnScope ["number", "size", "k"] ["number", "size"] (defScope s_as_bytes) := ⟨rfl, rfl, rfl, by decide +kernel, rfl, by decide +kernel, by decide +kernel⟩
theorem okF_as_bytes (T : Txt K mg base) {fd : FuncData} (F : FunD K d_as_bytes.name d_as_bytes.qual d_as_bytes.params d_as_bytes.body d_as_bytes.scope [] [] (He.fAd K d_as_bytes.at_) fd) : FnOk P w K mg base CX0 1 (He.ga K "as_bytes") fd ["number", "size"] sp_as_bytes := by
  refine F.ok sc_as_bytes (fun vs H Q E h => len_as_bytes h) (fun cdv Ar outer s H vs Q E hr h => ?_)
  refine ⟨_, PSs.nox (pss_one (ps_ret (pe_lc (own := [("k", 2)]) (g := gName 2) (tt := tYes) rfl sc_as_bytes.nd (pi_range1 (by rfl) T.f_range (pa_cons (pv 1) pa_nil)) (blkOk_by (N := ["number", "size", "k"]) (sc := defScope s_as_bytes) (own := [("k", 2)]) (by decide +kernel)) (fun _ _ _ _ _ => pg_name (i := 2) sc_as_bytes.nd rfl (Or.inl rfl)) (fun _ _ _ _ _ => pts_nil) (fun _ _ _ _ _ => (pe_op op_and (pe_op op_shr (pv 0) (pe_op op_mul pe_int (pe_op op_sub (pe_op op_sub (pv 1) pe_int) (pv 2)))) pe_int))))), ?_⟩
  obtain ⟨x, n, rfl, hn, q⟩ := h
  have key := el_lcR1 (t := tYes) (te := tOp (rI0 fun i j => .int (Builtin.bitAnd i j)) (tOp (rI (fun _ j => 0 ≤ j) fun i j => .int (i / 2 ^ j.toNat)) (tVar 0) (tOp (rI CMul fun i j => .int (i * j)) (tC (.int 8)) (tOp (rI0 fun i j => .int (i - j)) (tOp (rI0 fun i j => .int (i - j)) (tVar 1) (tC (.int 1))) (tVar 2)))) (tC (.int 255)))
    (ta := tCons (tVar 1) tNil) (σ := [some (.int (x : Int)), some (.int (n : Int)), none]) (H := H) (j := 2) (vs := [2]) (n := (n : Int)) (fun _ => true) (fun i => V.int ((x / 256 ^ (n - 1 - i) % 256 : Nat) : Int)) (ea_cons (ev_var rfl) ea_nil) ⟨by omega, by omega⟩ (fun _ => rfl) (fun i H1 _ _ H2 _ Q q => q H2 (Ex.refl H2)) (fun i H1 e hi _ => ?_)
  · rw [Int.toNat_natCast, bv_high] at key
    exact ret_el key q
  · refine ev_is (ev_op (ev_op (ev_var rfl) (ev_op ev_c (ev_op (ev_op (ev_var rfl) ev_c rv_I0) (ev_var rfl) rv_I0) (rv_I (.inl ⟨by decide, by decide⟩))) (rv_I (by show (0 : Int) ≤ 8 * ((n : Int) - 1 - (i : Int)); omega))) ev_c rv_I0) ?_
    have e1 : (8 * ((n : Int) - 1 - (i : Int))).toNat = 8 * (n - 1 - i) := by omega
    have e2 : ((x : Int) / 2 ^ (8 * (n - 1 - i))) = ((x / 256 ^ (n - 1 - i) : Nat) : Int) := by
      rw [Int.natCast_ediv, Int.natCast_pow, Int.pow_mul]
      rfl
    show V.int (Builtin.bitAnd ((x : Int) / 2 ^ (8 * ((n : Int) - 1 - (i : Int))).toNat) 255) = _
    rw [e1, e2, bitAnd_m8]
    rfl
theorem ok_as_bytes (T : Txt K mg base) : DefOk P w K mg base 1 (He.ga K "as_bytes") ["number", "size"] sp_as_bytes := by
  obtain ⟨fd, F⟩ := T.fd_as_bytes
  exact ⟨fd, okF_as_bytes T F, F.bindsN fun _ _ _ _ _ _ us hl => match us, hl with | [_, _], _ => rfl, F.kp⟩
def sp_number_at : Sp := fun vs H Q _ => ∃ (d : Addr) (b : Sv62.Bytes) (i n : Nat), vs = [.ref d, .int (i : Int), .int (n : Int)] ∧ H d = some (.lst (bv b)) ∧ ∀ H', Ex H H' → Q (.int (Sv62.part b i n : Int)) H'
theorem len_number_at {vs : List V} {H : Hp} {Q : VK} {E : XK} (h : sp_number_at vs H Q E) : vs.length = 3 := by
  obtain ⟨d, b, i, n, rfl, _⟩ := h
  rfl
theorem sc_number_at : FnScope ["data", "at", "size", "number", "byte"] ["data", "at", "size"] (defScope s_number_at) := ⟨rfl, rfl, rfl, by decide +kernel, rfl, by decide +kernel, by decide +kernel⟩
theorem okF_number_at (T : Txt K mg base) {fd : FuncData} (F : FunD K d_number_at.name d_number_at.qual d_number_at.params d_number_at.body d_number_at.scope [] [] (He.fAd K d_number_at.at_) fd) : FnOk P w K mg base CX0 1 (He.ga K "number_at") fd ["data", "at", "size"] sp_number_at := by
  refine F.ok sc_number_at (fun vs H Q E h => len_number_at h) (fun cdv Ar outer s H vs Q E hr h => ?_)
  refine ⟨_, PSs.nox (pss_cons (ps_set (i := 3) sc_number_at.nd rfl (Or.inl rfl) pe_int)
      (pss_cons (ps_for PassesOwn.never rfl (pi_list (pe_slice sl_list (pv 0) (po_some (pv 1)) (po_some (pe_op op_add (pv 1) (pv 2))))) (pg_name (i := 4) sc_number_at.nd rfl (Or.inl rfl)) (pss_one (ps_set (i := 3) sc_number_at.nd rfl (Or.inl rfl) (pe_op op_add (pe_op op_mul (pv 3) pe_int) (pv 4)))))
      (pss_one (ps_ret (pv 3))))), ?_⟩
  obtain ⟨d, b, i, n, rfl, hd, q⟩ := h
  refine sq_set ev_c fun H1 e1 => ?_
  have sl : EvL (tSl (rSlL K) (tVar 0) (tPart (tVar 1)) (tPart (tOp (rI0 fun i j => .int (i + j)) (tVar 1) (tVar 2)))) [some (.ref d), some (.int (i : Int)), some (.int (n : Int)), some (.int 0), none] H1 (bv ((b.drop i).take n)) := by
    have := el_sl (K := K) (te := tVar 0) (tl := tPart (tVar 1)) (th := tPart (tOp (rI0 fun i j => .int (i + j)) (tVar 1) (tVar 2))) (σ := [some (.ref d), some (.int (i : Int)), some (.int (n : Int)), some (.int 0), none]) (H := H1) (lo := some (i : Int)) (hi := some ((i + n : Nat) : Int)) (ev_var rfl) (eo_some (ev_var rfl)) (eo_some (ev_op (ev_var rfl) (ev_var rfl) rv_I0)) (sq_of (e1 _ _ hd))
    rw [cut_part, bv_drop, bv_take, show i + n - i = n by omega] at this
    exact this
  refine q_forNL (K := K) sl (fun p j σ H' => ∃ v4 : Option V, σ = [some (.ref d), some (.int (i : Int)), some (.int (n : Int)), some (.int (Sv62.number (((b.drop i).take n).take j) : Int)), v4] ∧ Ex H H' ∧ H' p = some (.lst (bv ((b.drop i).take n)))) (fun p H2 np e2 h2 => ⟨none, rfl, e1.trans e2, h2⟩) (fun p j σ H' _ z => ?_) (fun p j x σ H' hx z => ?_) (fun p σ H' z => ?_)
  · obtain ⟨_, _, _, h2⟩ := z
    exact sq_of h2
  · obtain ⟨v4, rfl, e2, h2⟩ := z
    have hj : j < ((b.drop i).take n).length := by
      have := (List.getElem?_eq_some_iff.mp hx).1
      rw [bv_len] at this
      exact this
    have hx2 : x = V.int ((((b.drop i).take n)[j]).toNat : Int) := by
      unfold bv at hx
      rw [List.getElem?_map, List.getElem?_eq_getElem hj] at hx
      exact (Option.some.inj hx).symm
    subst hx2
    refine s_asg (v := V.int (Sv62.number (((b.drop i).take n).take (j + 1)) : Int)) (ev_is (ev_op (ev_op (ev_var rfl) ev_c (rv_I (.inr ⟨by decide, by decide⟩))) (ev_var rfl) rv_I0) ?_) fun H3 e3 => ⟨_, rfl, e2.trans e3, e3 _ _ h2⟩
    rw [List.take_succ_eq_append_getElem hj, number_snoc]
    show V.int (_ * 256 + _) = _
    congr 1
    omega
  · obtain ⟨v4, rfl, e2, h2⟩ := z
    refine ret_ev (ev_var rfl) fun H3 e3 => ?_
    have := q H3 (e2.trans e3)
    unfold Sv62.part at this
    rw [bv_len, List.take_of_length_le (Nat.le_refl _)]
    exact this
theorem ok_number_at (T : Txt K mg base) : DefOk P w K mg base 1 (He.ga K "number_at") ["data", "at", "size"] sp_number_at := by
  obtain ⟨fd, F⟩ := T.fd_number_at
  exact ⟨fd, okF_number_at T F, F.bindsN fun _ _ _ _ _ _ us hl => match us, hl with | [_, _, _], _ => rfl, F.kp⟩
def sp_sum_of : Sp := fun vs H Q _ => ∃ (d : Addr) (b : Sv62.Bytes), vs = [.ref d] ∧ H d = some (.lst (bv b)) ∧ b.length < 65536 ∧ ∀ H', Ex H H' → Q (.int (Sv62.sum b : Int)) H'
theorem len_sum_of {vs : List V} {H : Hp} {Q : VK} {E : XK} (h : sp_sum_of vs H Q E) : vs.length = 1 := by
  obtain ⟨d, b, rfl, _⟩ := h
  rfl
theorem sc_sum_of : FnScope ["data", "total"] ["data"] (defScope s_sum_of) := ⟨rfl, rfl, rfl, by decide +kernel, rfl, by decide +kernel, by decide +kernel⟩
theorem okF_sum_of (T : Txt K mg base) {fd : FuncData} (F : FunD K d_sum_of.name d_sum_of.qual d_sum_of.params d_sum_of.body d_sum_of.scope [] [] (He.fAd K d_sum_of.at_) fd) : FnOk P w K mg base CX0 1 (He.ga K "sum_of") fd ["data"] sp_sum_of := by
  refine F.ok sc_sum_of (fun vs H Q E h => len_sum_of h) (fun cdv Ar outer s H vs Q E hr h => ?_)
  refine ⟨_, PSs.nox (pss_cons (ps_set (i := 1) sc_sum_of.nd rfl (Or.inl rfl) (pe_op op_add (pe_op op_mul (pe_callB (cr_sum rfl) (by rfl) T.f_sum (by decide +kernel) (pa_cons (pe_every (i := 0) (pv 0)) pa_nil)) pe_int) (pe_callB (cr_sum rfl) (by rfl) T.f_sum (by decide +kernel) (pa_cons (pe_every (i := 1) (pv 0)) pa_nil))))
      (pss_cons (ps_while PassesOwn.never (pt_cmpR op_gt (pv 1) (pe_gi rfl T.c_MOST_OF_TWO) (nomark _)) (pss_one (ps_set (i := 1) sc_sum_of.nd rfl (Or.inl rfl) (pe_op op_add (pe_op op_shr (pv 1) pe_int) (pe_op op_and (pv 1) (pe_gi rfl T.c_MOST_OF_TWO))))))
      (pss_one (ps_ret (pe_op op_sub (pe_gi rfl T.c_MOST_OF_TWO) (pv 1)))))), ?_⟩
  obtain ⟨d, b, rfl, hd, hb, q⟩ := h
  have s0 : Ev (tCB (rSum K) (tCons (tEvery K 0 (tVar 0)) tNil)) [some (.ref d), none] H (.int (((evens b).map UInt8.toNat).sum : Nat)) := by
    have := el_every (K := K) (i := 0) (es_at (te := tVar 0) (σ := [some (.ref d), none]) (ev_var rfl) hd)
    rw [bv_evens] at this
    have := ev_sumS (K := K) (es_el this)
    rw [ints_sum] at this
    exact this
  have s1 : Ev (tCB (rSum K) (tCons (tEvery K 1 (tVar 0)) tNil)) [some (.ref d), none] H (.int (((evens (b.drop 1)).map UInt8.toNat).sum : Nat)) := by
    have := el_every (K := K) (i := 1) (es_at (te := tVar 0) (σ := [some (.ref d), none]) (ev_var rfl) hd)
    rw [bv_evens] at this
    have := ev_sumS (K := K) (es_el this)
    rw [ints_sum] at this
    exact this
  have s2 : Ev (tOp (rI0 fun i j => .int (i + j)) (tOp (rI CMul fun i j => .int (i * j)) (tCB (rSum K) (tCons (tEvery K 0 (tVar 0)) tNil)) (tC (.int 256))) (tCB (rSum K) (tCons (tEvery K 1 (tVar 0)) tNil))) [some (.ref d), none] H (.int (Sv62.pairs b : Int)) := by
    refine ev_is (ev_op (ev_op s0 ev_c (rv_I (.inr ⟨by decide, by decide⟩))) s1 rv_I0) ?_
    rw [← sum_evens b]
    congr 1
  refine sq_set s2 fun H1 e1 => ?_
  have hp : Sv62.pairs b < 65536 * 65536 := by
    have := pairs_le b
    omega
  refine q_while (fun m σ H' => ∃ t : Nat, σ = [some (.ref d), some (.int (t : Int))] ∧ Ex H H' ∧ t < 65536 * 65536 ∧ Sv62.fold (Sv62.fold (Sv62.fold t)) = Sv62.fold (Sv62.fold (Sv62.fold (Sv62.pairs b))) ∧ m = t) (Sv62.pairs b) ⟨_, rfl, e1, hp, rfl, rfl⟩ ?_
  rintro t σ H2 ⟨_, rfl, e2, ht, hf, rfl⟩
  refine ⟨decide (65535 < (t : Int)), et_test (ev_op (ev_var rfl) ev_c rv_I0), fun hb2 H3 e3 => ?_, fun hb2 H3 e3 => ?_⟩
  · have ht2 : 65535 < t := by
      have := of_decide_eq_true hb2
      omega
    refine ⟨fun σ' H' => σ' = [some (.ref d), some (.int (Sv62.fold t : Int))] ∧ Ex H H', ?_, ?_⟩
    · rintro σ2 H4 ⟨rfl, e4⟩
      exact ⟨Sv62.fold t, fold_lt ht2, _, rfl, e4, fold_small ht, (fold3_fold ht).trans hf, rfl⟩
    · refine s_asg (ev_is (ev_op (ev_op (ev_var rfl) ev_c (rv_I (by decide))) (ev_op (ev_var rfl) ev_c rv_I0) rv_I0) ?_) fun H4 e4 => ⟨rfl, (e2.trans e3).trans e4⟩
      show V.int ((t : Int) / 2 ^ (16 : Int).toNat + Builtin.bitAnd (t : Int) 65535) = _
      rw [bitAnd_m16]
      unfold Sv62.fold
      congr 1
      show (t : Int) / 65536 + (t : Int) % 65536 = _
      omega
  · have ht2 : t ≤ 65535 := by
      have := of_decide_eq_false hb2
      omega
    refine ret_ev (ev_is (ev_op ev_c (ev_var rfl) rv_I0) ?_) fun H4 e4 => q H4 ((e2.trans e3).trans e4)
    unfold Sv62.sum
    rw [← hf, fold3_id ht2]
    show V.int ((65535 : Int) - (t : Int)) = _
    congr 1
    omega
theorem ok_sum_of (T : Txt K mg base) : DefOk P w K mg base 1 (He.ga K "sum_of") ["data"] sp_sum_of := by
  obtain ⟨fd, F⟩ := T.fd_sum_of
  exact ⟨fd, okF_sum_of T F, F.bindsN fun _ _ _ _ _ _ us hl => match us, hl with | [_], _ => rfl, F.kp⟩
end
end Lp
set_option maxHeartbeats 400000000
namespace Lp
open PySem PySem.Spec PyProof.Rows L2 Evl
/-! ### == of lists of numbers -/
theorem dp_ints {K : PySem.W.Frag} {H : Hp} : ∀ ns : List Int, DpAll K H (ns.map V.int) (ns.map PyData.int)
  | [] => .nil
  | n :: r => .cons (.int n) (dp_ints r)
theorem eqv_ints : ∀ ns ms : List Int, PyData.eqvAll (ns.map PyData.int) (ms.map PyData.int) = decide (ns = ms)
  | [], [] => by simp [PyData.eqvAll]
  | [], _ :: _ => by simp [PyData.eqvAll]
  | _ :: _, [] => by simp [PyData.eqvAll]
  | n :: r, m :: s => by
    rw [List.map_cons, List.map_cons, PyData.eqvAll, PyData.eqv, eqv_ints r s, Bool.eq_iff_iff]
    simp
theorem ev_eqL {K : PySem.W.Frag} {ta tb : TE} {σ : L2.St} {H : Hp} {ns ms : List Int} (ha : EvS ta σ H (ns.map V.int)) (hb : EvS tb σ H (ms.map V.int)) : Ev (tOp (rEqD K) ta tb) σ H (.bl (decide (ns = ms))) := fun H1 e Q q =>
  ha H1 e _ fun p H2 e2 hp => hb H2 (e.trans e2) _ fun r H3 e3 hr => by
    refine ⟨.list (ns.map PyData.int), .list (ms.map PyData.int), .lst (sq_of (e3 _ _ hp)) (dp_ints ns), .lst (sq_of hr) (dp_ints ms), PySem.W.ke_shaped_ints _, PySem.W.ke_shaped_ints _, ?_⟩
    rw [PyData.eqv, eqv_ints]
    exact q H3 (e2.trans e3)
theorem ev_neL {K : PySem.W.Frag} {ta tb : TE} {σ : L2.St} {H : Hp} {ns ms : List Int} (ha : EvS ta σ H (ns.map V.int)) (hb : EvS tb σ H (ms.map V.int)) : Ev (tOp (rNeD K) ta tb) σ H (.bl (!decide (ns = ms))) := fun H1 e Q q =>
  ha H1 e _ fun p H2 e2 hp => hb H2 (e.trans e2) _ fun r H3 e3 hr => by
    refine ⟨.list (ns.map PyData.int), .list (ms.map PyData.int), .lst (sq_of (e3 _ _ hp)) (dp_ints ns), .lst (sq_of hr) (dp_ints ms), PySem.W.ke_shaped_ints _, PySem.W.ke_shaped_ints _, ?_⟩
    rw [PyData.eqv, eqv_ints]
    exact q H3 (e2.trans e3)
theorem off_inj {a b : Sv62.Bytes} : Sv62Neutral.ofOctets a = Sv62Neutral.ofOctets b ↔ a = b :=
  ⟨fun h => bv_inj (by rw [bv_off, bv_off, h]), fun h => by rw [h]⟩
/-! ### heads in the heap -/
def hdF (h : Hd) : List (Str × V) := F_Head (.int h.hops) (.int h.what) (.int h.flags) (.int h.length) (.int h.name) (.int h.place) (.int h.sender) (.int h.to)
def HeadAt (K : PySem.W.Frag) (H : Hp) (p : Addr) (h : Hd) : Prop := ∃ dx, H p = some (.ins (He.ga K "Head") dx (hdF h))
theorem HeadAt.ex {K : PySem.W.Frag} {H H' : Hp} {p : Addr} {h : Hd} (x : HeadAt K H p h) (e : Ex H H') : HeadAt K H' p h := by
  obtain ⟨dx, hp⟩ := x
  exact ⟨dx, e _ _ hp⟩
theorem HeadAt.keep {K : PySem.W.Frag} {H H' : Hp} {p : Addr} {h : Hd} {S : List Addr} (x : HeadAt K H p h) (k : Keep H H' S) (hn : p ∉ S) : HeadAt K H' p h := by
  obtain ⟨dx, hp⟩ := x
  exact ⟨dx, k _ _ hp hn rfl⟩
def fHd (vs : List V) : List (Str × V) := match vs with
  | [a, b, c, d, e, f, g, h] => F_Head a b c d e f g h
  | _ => []
theorem eight_of {l : List V} (h : l.length = 8) : ∃ a b c d e f g k, l = [a, b, c, d, e, f, g, k] := by
  match l, h with
  | [a, b, c, d, e, f, g, k], _ => exact ⟨a, b, c, d, e, f, g, k, rfl⟩
section
variable {P : Program} {w : World} {K : PySem.W.Frag} {mg : Str → Option Value} {base : Heap}
abbrev sp_Head__init (K : PySem.W.Frag) : Sp := spNew (He.ga K "Head") 8 fHd
theorem len_Head__init {K : PySem.W.Frag} {vs : List V} {H : Hp} {Q : VK} {E : XK} (h : sp_Head__init K vs H Q E) : vs.length = 9 := spNew_len h
theorem sc_Head__init : FnScope ["self", "hops", "what", "flags", "length", "name", "place", "sender", "to"] ["self", "hops", "what", "flags", "length", "name", "place", "sender", "to"] (defScope s_Head__init) := ⟨rfl, rfl, rfl, by decide +kernel, rfl, by decide +kernel, by decide +kernel⟩
theorem okF_Head__init (T : Txt K mg base) {fd : FuncData} (F : FunD K d_Head__init.name d_Head__init.qual d_Head__init.params d_Head__init.body d_Head__init.scope [] [] (He.fAd K d_Head__init.at_) fd) : FnOk P w K mg base CX0 1 (He.ma K (He.ga K "Head") "__init__") fd ["self", "hops", "what", "flags", "length", "name", "place", "sender", "to"] (sp_Head__init K) := by
  refine F.ok sc_Head__init (fun vs H Q E h => len_Head__init h) (fun cdv Ar outer s H vs Q E hr h => ?_)
  refine ⟨_, PSs.nox (pss_cons (ps_fld (pv 0) (pv 1) rfl)
      (pss_cons (ps_fld (pv 0) (pv 2) rfl)
      (pss_cons (ps_fld (pv 0) (pv 3) rfl)
      (pss_cons (ps_fld (pv 0) (pv 4) rfl)
      (pss_cons (ps_fld (pv 0) (pv 5) rfl)
      (pss_cons (ps_fld (pv 0) (pv 6) rfl)
      (pss_cons (ps_fld (pv 0) (pv 7) rfl)
      (pss_one (ps_fld (pv 0) (pv 8) rfl))))))))), ?_⟩
  obtain ⟨p, dx, ws, rfl, hl, hp, k⟩ := h
  obtain ⟨a, b, c, d, e, f, g, m, rfl⟩ := eight_of hl
  refine ⟨_, rfl, _, rfl, p, _, dx, [], rfl, hp, T.cl_Head, T.n_Head_hops, (by show 0 < 1000; decide), ?_⟩
  rw [F_Head_new_hops]
  refine ⟨_, rfl, _, rfl, p, _, dx, _, rfl, upd_same, T.cl_Head, T.n_Head_what, (by show 1 < 1000; decide), ?_⟩
  rw [F_Head_new_what]
  refine ⟨_, rfl, _, rfl, p, _, dx, _, rfl, upd_same, T.cl_Head, T.n_Head_flags, (by show 2 < 1000; decide), ?_⟩
  rw [F_Head_new_flags]
  refine ⟨_, rfl, _, rfl, p, _, dx, _, rfl, upd_same, T.cl_Head, T.n_Head_length, (by show 3 < 1000; decide), ?_⟩
  rw [F_Head_new_length]
  refine ⟨_, rfl, _, rfl, p, _, dx, _, rfl, upd_same, T.cl_Head, T.n_Head_name, (by show 4 < 1000; decide), ?_⟩
  rw [F_Head_new_name]
  refine ⟨_, rfl, _, rfl, p, _, dx, _, rfl, upd_same, T.cl_Head, T.n_Head_place, (by show 5 < 1000; decide), ?_⟩
  rw [F_Head_new_place]
  refine ⟨_, rfl, _, rfl, p, _, dx, _, rfl, upd_same, T.cl_Head, T.n_Head_sender, (by show 6 < 1000; decide), ?_⟩
  rw [F_Head_new_sender]
  refine ⟨_, rfl, _, rfl, p, _, dx, _, rfl, upd_same, T.cl_Head, T.n_Head_to, (by show 7 < 1000; decide), ?_⟩
  rw [F_Head_new_to]
  exact k _ upd_same fun b o e hb => by rw [upd_ne hb, upd_ne hb, upd_ne hb, upd_ne hb, upd_ne hb, upd_ne hb, upd_ne hb, upd_ne hb]; exact e
theorem ok_Head__init (T : Txt K mg base) : DefOk P w K mg base 1 (He.ma K (He.ga K "Head") "__init__") ["self", "hops", "what", "flags", "length", "name", "place", "sender", "to"] (sp_Head__init K) := by
  obtain ⟨fd, F⟩ := T.fd_Head__init
  exact ⟨fd, okF_Head__init T F, F.bindsN fun _ _ _ _ _ _ us hl => match us, hl with | [_, _, _, _, _, _, _, _, _], _ => rfl, F.kp⟩
/-! ### fields of a head -/
section
variable {σ : L2.St} {H : Hp} {p : Addr} {h : Hd} {i : Nat}
theorem fl_hops (T : Txt K mg base) (hs : σ[i]? = some (some (.ref p))) (x : HeadAt K H p h) : Ev (tFld K (tVar i) "hops") σ H (.int h.hops) := let ⟨_, hp⟩ := x; ev_fld (ev_var hs) hp T.cl_Head T.n_Head_hops F_Head_hops
theorem fl_what (T : Txt K mg base) (hs : σ[i]? = some (some (.ref p))) (x : HeadAt K H p h) : Ev (tFld K (tVar i) "what") σ H (.int h.what) := let ⟨_, hp⟩ := x; ev_fld (ev_var hs) hp T.cl_Head T.n_Head_what F_Head_what
theorem fl_flags (T : Txt K mg base) (hs : σ[i]? = some (some (.ref p))) (x : HeadAt K H p h) : Ev (tFld K (tVar i) "flags") σ H (.int h.flags) := let ⟨_, hp⟩ := x; ev_fld (ev_var hs) hp T.cl_Head T.n_Head_flags F_Head_flags
theorem fl_length (T : Txt K mg base) (hs : σ[i]? = some (some (.ref p))) (x : HeadAt K H p h) : Ev (tFld K (tVar i) "length") σ H (.int h.length) := let ⟨_, hp⟩ := x; ev_fld (ev_var hs) hp T.cl_Head T.n_Head_length F_Head_length
theorem fl_name (T : Txt K mg base) (hs : σ[i]? = some (some (.ref p))) (x : HeadAt K H p h) : Ev (tFld K (tVar i) "name") σ H (.int h.name) := let ⟨_, hp⟩ := x; ev_fld (ev_var hs) hp T.cl_Head T.n_Head_name F_Head_name
theorem fl_place (T : Txt K mg base) (hs : σ[i]? = some (some (.ref p))) (x : HeadAt K H p h) : Ev (tFld K (tVar i) "place") σ H (.int h.place) := let ⟨_, hp⟩ := x; ev_fld (ev_var hs) hp T.cl_Head T.n_Head_place F_Head_place
theorem fl_sender (T : Txt K mg base) (hs : σ[i]? = some (some (.ref p))) (x : HeadAt K H p h) : Ev (tFld K (tVar i) "sender") σ H (.int h.sender) := let ⟨_, hp⟩ := x; ev_fld (ev_var hs) hp T.cl_Head T.n_Head_sender F_Head_sender
theorem fl_to (T : Txt K mg base) (hs : σ[i]? = some (some (.ref p))) (x : HeadAt K H p h) : Ev (tFld K (tVar i) "to") σ H (.int h.to) := let ⟨_, hp⟩ := x; ev_fld (ev_var hs) hp T.cl_Head T.n_Head_to F_Head_to
end
theorem ab_L {H : Hp} {x n : Nat} (hn : n ≤ 8) : SpL sp_as_bytes [.int (x : Int), .int (n : Int)] H (bv (Sv62.high n x)) := fun H1 _ Q q _ => ⟨x, n, rfl, hn, q⟩
def sp_head_bytes (K : PySem.W.Frag) : Sp := fun vs H Q _ => ∃ (p : Addr) (h : Hd), vs = [.ref p] ∧ HeadAt K H p h ∧ h.hops < 256 ∧ h.what < 256 ∧ h.flags < 256 ∧ RetL (bv h.bytes) H Q
theorem len_head_bytes {vs : List V} {H : Hp} {Q : VK} {E : XK} (h : sp_head_bytes K vs H Q E) : vs.length = 1 := by
  obtain ⟨p, h, rfl, _⟩ := h
  rfl
theorem u8_val {x : Nat} (h : x < 256) : V.int ((UInt8.ofNat x).toNat : Int) = V.int (x : Int) := by
  rw [UInt8.toNat_ofNat', Nat.mod_eq_of_lt (by omega)]
theorem front0 {h : Hd} (h1 : h.hops < 256) (h2 : h.what < 256) (h3 : h.flags < 256) : [V.int 81, .int (h.hops : Int), .int (h.what : Int), .int (h.flags : Int)] = bv [0x51, UInt8.ofNat h.hops, UInt8.ofNat h.what, UInt8.ofNat h.flags] := by
  show _ = [V.int ((0x51 : UInt8).toNat : Int), V.int ((UInt8.ofNat h.hops).toNat : Int), V.int ((UInt8.ofNat h.what).toNat : Int), V.int ((UInt8.ofNat h.flags).toNat : Int)]
  rw [u8_val h1, u8_val h2, u8_val h3]
  rfl
theorem sc_head_bytes : FnScope ["head", "front", "back"] ["head"] (defScope s_head_bytes) := ⟨rfl, rfl, rfl, by decide +kernel, rfl, by decide +kernel, by decide +kernel⟩
theorem okF_head_bytes (T : Txt K mg base) {fd : FuncData} (F : FunD K d_head_bytes.name d_head_bytes.qual d_head_bytes.params d_head_bytes.body d_head_bytes.scope [] [] (He.fAd K d_head_bytes.at_) fd) : FnOk P w K mg base CX0 2 (He.ga K "head_bytes") fd ["head"] (sp_head_bytes K) := by
  obtain ⟨fd_as_bytes, G_as_bytes, b_as_bytes, k_as_bytes⟩ := ok_as_bytes (P := P) (w := w) (base := base) T
  obtain ⟨fd_sum_of, G_sum_of, b_sum_of, k_sum_of⟩ := ok_sum_of (P := P) (w := w) (base := base) T
  refine F.ok sc_head_bytes (fun vs H Q E h => len_head_bytes h) (fun cdv Ar outer s H vs Q E hr h => ?_)
  refine ⟨_, PSs.nox (pss_cons (ps_set (i := 1) sc_head_bytes.nd rfl (Or.inl rfl) (pe_lst (pa_cons (pe_gi rfl T.c_FIRST_BYTE) (pa_cons (pe_fld (pv 0) rfl) (pa_cons (pe_fld (pv 0) rfl) (pa_cons (pe_fld (pv 0) rfl) pa_nil))))))
      (pss_cons (ps_set (i := 1) sc_head_bytes.nd rfl (Or.inl rfl) (pe_op op_cat (pe_op op_cat (pe_op op_cat (pv 1) (pe_call G_as_bytes (hr.mono (by decide)) rfl T.g_as_bytes k_as_bytes b_as_bytes .nil pass0 (pa_cons (pe_fld (pv 0) rfl) (pa_cons pe_int pa_nil)))) (pe_call G_as_bytes (hr.mono (by decide)) rfl T.g_as_bytes k_as_bytes b_as_bytes .nil pass0 (pa_cons (pe_fld (pv 0) rfl) (pa_cons pe_int pa_nil)))) (pe_call G_as_bytes (hr.mono (by decide)) rfl T.g_as_bytes k_as_bytes b_as_bytes .nil pass0 (pa_cons (pe_fld (pv 0) rfl) (pa_cons pe_int pa_nil)))))
      (pss_cons (ps_set (i := 2) sc_head_bytes.nd rfl (Or.inl rfl) (pe_op op_cat (pe_call G_as_bytes (hr.mono (by decide)) rfl T.g_as_bytes k_as_bytes b_as_bytes .nil pass0 (pa_cons (pe_fld (pv 0) rfl) (pa_cons pe_int pa_nil))) (pe_call G_as_bytes (hr.mono (by decide)) rfl T.g_as_bytes k_as_bytes b_as_bytes .nil pass0 (pa_cons (pe_fld (pv 0) rfl) (pa_cons pe_int pa_nil)))))
      (pss_one (ps_ret (pe_op op_cat (pe_op op_cat (pv 1) (pe_call G_as_bytes (hr.mono (by decide)) rfl T.g_as_bytes k_as_bytes b_as_bytes .nil pass0 (pa_cons (pe_call G_sum_of (hr.mono (by decide)) rfl T.g_sum_of k_sum_of b_sum_of .nil pass0 (pa_cons (pe_op op_cat (pv 1) (pv 2)) pa_nil)) (pa_cons pe_int pa_nil)))) (pv 2))))))), ?_⟩
  obtain ⟨p, hd, rfl, ha, h1, h2, h3, q⟩ := h
  refine sq_setEL (xs := bv [0x51, UInt8.ofNat hd.hops, UInt8.ofNat hd.what, UInt8.ofNat hd.flags]) ?_ fun f0 H1 _ e1 k1 => ?_
  · rw [← front0 h1 h2 h3]
    exact el_lst (ea_cons ev_c (ea_cons (fl_hops T rfl ha) (ea_cons (fl_what T rfl ha) (ea_cons (fl_flags T rfl ha) ea_nil)))) (by show 4 ≤ 100000; decide)
  have ha1 := ha.ex e1
  refine sq_setEL (xs := bv hd.front) ?_ fun f1 H2 _ e2 k2 => ?_
  · have z := el_cat (es_el (el_cat (es_el (el_cat (es_at (ev_var (σ := [some (.ref p), some (.ref f0), none]) (i := 1) rfl) k1) (es_el (el_call (E := E0) (ea_cons (fl_length T (i := 0) rfl ha1) (ea_cons ev_c ea_nil)) (ab_L (n := 2) (by decide)))) (by rw [bv_len, bv_len, high_len]; show 4 + 2 ≤ sizeLine; decide))) (es_el (el_call (E := E0) (ea_cons (fl_name T (i := 0) rfl ha1) (ea_cons ev_c ea_nil)) (ab_L (n := 2) (by decide))))
        (by rw [List.length_append, bv_len, bv_len, bv_len, high_len, high_len]; show 4 + 2 + 2 ≤ sizeLine; decide))) (es_el (el_call (E := E0) (ea_cons (fl_place T (i := 0) rfl ha1) (ea_cons ev_c ea_nil)) (ab_L (n := 2) (by decide)))) (by rw [List.length_append, List.length_append, bv_len, bv_len, bv_len, bv_len, high_len, high_len, high_len]; show 4 + 2 + 2 + 2 ≤ sizeLine; decide)
    rw [← bv_app, ← bv_app, ← bv_app] at z
    unfold Hd.front
    rw [← List.append_assoc, ← List.append_assoc]
    exact z
  have ha2 := ha1.ex e2
  refine sq_setEL (xs := bv hd.back) ?_ fun bk H3 _ e3 k3 => ?_
  · have z := el_cat (es_el (el_call (E := E0) (ea_cons (fl_sender T (σ := [some (.ref p), some (.ref f1), none]) (i := 0) rfl ha2) (ea_cons ev_c ea_nil)) (ab_L (n := 4) (by decide)))) (es_el (el_call (E := E0) (ea_cons (fl_to T (i := 0) rfl ha2) (ea_cons ev_c ea_nil)) (ab_L (n := 4) (by decide)))) (by rw [bv_len, bv_len, high_len, high_len]; decide)
    rw [← bv_app] at z
    exact z
  have k2' := e3 _ _ k2
  have sm : Ev (tCall sp_sum_of [] E0 (tCons (tOp rCat (tVar 1) (tVar 2)) tNil)) [some (.ref p), some (.ref f1), some (.ref bk)] H3 (.int (Sv62.sum (hd.front ++ hd.back) : Int)) := by
    refine ev_callR (ar_es (es_el (el_cat (es_at (ev_var rfl) k2') (es_at (ev_var rfl) k3) (by rw [bv_len, bv_len, front_len, back_len]; decide))) ar_nil) fun vs H4 e4 ⟨c, r, e5, hc, e6⟩ => ?_
    subst e5 e6
    rw [← bv_app] at hc
    exact fun H5 e5 Q q E => ⟨c, hd.front ++ hd.back, rfl, e5 _ _ hc, by rw [List.length_append, front_len, back_len]; decide, q⟩
  have z := el_cat (es_el (el_cat (es_at (ev_var (i := 1) rfl) k2') (es_el (el_call (E := E0) (ea_cons sm (ea_cons ev_c ea_nil)) (ab_L (n := 2) (by decide)))) (by rw [bv_len, bv_len, front_len, high_len]; decide))) (es_at (ev_var (i := 2) rfl) k3) (by rw [List.length_append, bv_len, bv_len, bv_len, front_len, high_len, back_len]; decide)
  rw [← bv_app, ← bv_app, List.append_assoc] at z
  refine ret_el z fun p2 H4 np e4 k4 => q.go ((e1.trans e2).trans e3) np e4 k4
theorem ok_head_bytes (T : Txt K mg base) : DefOk P w K mg base 2 (He.ga K "head_bytes") ["head"] (sp_head_bytes K) := by
  obtain ⟨fd, F⟩ := T.fd_head_bytes
  exact ⟨fd, okF_head_bytes T F, F.bindsN fun _ _ _ _ _ _ us hl => match us, hl with | [_], _ => rfl, F.kp⟩
def sp_has_more (K : PySem.W.Frag) : Sp := fun vs H Q _ => ∃ (p : Addr) (h : Hd), vs = [.ref p] ∧ HeadAt K H p h ∧ RetV (.bl (moreOf h.flags)) H Q
theorem len_has_more {vs : List V} {H : Hp} {Q : VK} {E : XK} (h : sp_has_more K vs H Q E) : vs.length = 1 := by
  obtain ⟨p, h, rfl, _⟩ := h
  rfl
theorem hm_V {H : Hp} {p : Addr} {h : Hd} (x : HeadAt K H p h) : SpV (sp_has_more K) [.ref p] H (.bl (moreOf h.flags)) := fun H1 e Q q _ => ⟨p, h, rfl, x.ex e, q⟩
theorem more_val (f : Nat) : V.bl (!decide (V.int (Builtin.bitAnd (f : Int) 1) = V.int 0)) = V.bl (moreOf f) := by
  rw [bitAnd_m1]
  unfold moreOf
  congr 1
  rw [Bool.eq_iff_iff, beq_iff_eq, Bool.not_eq_true', decide_eq_false_iff_not, V.int.injEq]
  omega
theorem sc_has_more : FnScope ["head"] ["head"] (defScope s_has_more) := ⟨rfl, rfl, rfl, by decide +kernel, rfl, by decide +kernel, by decide +kernel⟩
theorem okF_has_more (T : Txt K mg base) {fd : FuncData} (F : FunD K d_has_more.name d_has_more.qual d_has_more.params d_has_more.body d_has_more.scope [] [] (He.fAd K d_has_more.at_) fd) : FnOk P w K mg base CX0 1 (He.ga K "has_more") fd ["head"] (sp_has_more K) := by
  refine F.ok sc_has_more (fun vs H Q E h => len_has_more h) (fun cdv Ar outer s H vs Q E hr h => ?_)
  refine ⟨_, PSs.nox (pss_one (ps_ret (pe_cmpR op_ne (pe_op op_and (pe_fld (pv 0) rfl) (pe_gi rfl T.c_MORE_FOLLOW)) pe_int (nomark _)))), ?_⟩
  obtain ⟨p, hd, rfl, ha, q⟩ := h
  exact ret_ev (ev_is (ev_op (ev_op (fl_flags T rfl ha) ev_c rv_I0) ev_c (rv_ne rfl)) (more_val _)) q
theorem ok_has_more (T : Txt K mg base) : DefOk P w K mg base 1 (He.ga K "has_more") ["head"] (sp_has_more K) := by
  obtain ⟨fd, F⟩ := T.fd_has_more
  exact ⟨fd, okF_has_more T F, F.bindsN fun _ _ _ _ _ _ us hl => match us, hl with | [_], _ => rfl, F.kp⟩
def sp_is_uncut (K : PySem.W.Frag) : Sp := fun vs H Q _ => ∃ (p : Addr) (h : Hd) (a b : Bool), vs = [.ref p] ∧ HeadAt K H p h ∧ h.flags = a.toNat + 2 * b.toNat ∧ RetV (.bl b) H Q
theorem len_is_uncut {vs : List V} {H : Hp} {Q : VK} {E : XK} (h : sp_is_uncut K vs H Q E) : vs.length = 1 := by
  obtain ⟨p, h, a, b, rfl, _⟩ := h
  rfl
theorem sc_is_uncut : FnScope ["head"] ["head"] (defScope s_is_uncut) := ⟨rfl, rfl, rfl, by decide +kernel, rfl, by decide +kernel, by decide +kernel⟩
theorem okF_is_uncut (T : Txt K mg base) {fd : FuncData} (F : FunD K d_is_uncut.name d_is_uncut.qual d_is_uncut.params d_is_uncut.body d_is_uncut.scope [] [] (He.fAd K d_is_uncut.at_) fd) : FnOk P w K mg base CX0 1 (He.ga K "is_uncut") fd ["head"] (sp_is_uncut K) := by
  refine F.ok sc_is_uncut (fun vs H Q E h => len_is_uncut h) (fun cdv Ar outer s H vs Q E hr h => ?_)
  refine ⟨_, PSs.nox (pss_one (ps_ret (pe_cmpR op_ne (pe_op op_and (pe_fld (pv 0) rfl) (pe_gi rfl T.c_UNCUT)) pe_int (nomark _)))), ?_⟩
  obtain ⟨p, hd, a, b, rfl, ha, hf, q⟩ := h
  refine ret_ev (ev_is (ev_op (ev_op (fl_flags T rfl ha) ev_c rv_I0) ev_c (rv_ne rfl)) ?_) q
  rw [hf]
  cases a <;> cases b <;> decide
theorem ok_is_uncut (T : Txt K mg base) : DefOk P w K mg base 1 (He.ga K "is_uncut") ["head"] (sp_is_uncut K) := by
  obtain ⟨fd, F⟩ := T.fd_is_uncut
  exact ⟨fd, okF_is_uncut T F, F.bindsN fun _ _ _ _ _ _ us hl => match us, hl with | [_], _ => rfl, F.kp⟩
def sp_is_piece (K : PySem.W.Frag) : Sp := fun vs H Q _ => ∃ (p : Addr) (h : Hd), vs = [.ref p] ∧ HeadAt K H p h ∧ RetV (.bl (moreOf h.flags || h.place != 0)) H Q
theorem len_is_piece {vs : List V} {H : Hp} {Q : VK} {E : XK} (h : sp_is_piece K vs H Q E) : vs.length = 1 := by
  obtain ⟨p, h, rfl, _⟩ := h
  rfl
theorem sc_is_piece : FnScope ["head"] ["head"] (defScope s_is_piece) := ⟨rfl, rfl, rfl, by decide +kernel, rfl, by decide +kernel, by decide +kernel⟩
theorem okF_is_piece (T : Txt K mg base) {fd : FuncData} (F : FunD K d_is_piece.name d_is_piece.qual d_is_piece.params d_is_piece.body d_is_piece.scope [] [] (He.fAd K d_is_piece.at_) fd) : FnOk P w K mg base CX0 2 (He.ga K "is_piece") fd ["head"] (sp_is_piece K) := by
  obtain ⟨fd_has_more, G_has_more, b_has_more, k_has_more⟩ := ok_has_more (P := P) (w := w) (base := base) T
  refine F.ok sc_is_piece (fun vs H Q E h => len_is_piece h) (fun cdv Ar outer s H vs Q E hr h => ?_)
  refine ⟨_, PSs.nox (pss_one (ps_ret (pe_or (pe_call G_has_more (hr.mono (by decide)) rfl T.g_has_more k_has_more b_has_more .nil pass0 (pa_cons (pv 0) pa_nil)) (pe_one (pe_cmpR op_ne (pe_fld (pv 0) rfl) pe_int (nomark _)))))), ?_⟩
  obtain ⟨p, hd, rfl, ha, q⟩ := h
  refine ret_ev (ev_is (ev_orV (b := !decide (V.int (hd.place : Int) = V.int 0)) (ev_call (ea_cons (ev_var rfl) ea_nil) (hm_V ha)) fun _ => ev_op (fl_place T rfl ha) ev_c (rv_ne rfl)) ?_) q
  congr 2
  rw [Bool.eq_iff_iff, bne_iff_ne, Bool.not_eq_true', decide_eq_false_iff_not, V.int.injEq]
  omega
theorem ok_is_piece (T : Txt K mg base) : DefOk P w K mg base 2 (He.ga K "is_piece") ["head"] (sp_is_piece K) := by
  obtain ⟨fd, F⟩ := T.fd_is_piece
  exact ⟨fd, okF_is_piece T F, F.bindsN fun _ _ _ _ _ _ us hl => match us, hl with | [_], _ => rfl, F.kp⟩
def sp_is_right_length (K : PySem.W.Frag) : Sp := fun vs H Q _ => ∃ (p : Addr) (h : Hd), vs = [.ref p] ∧ HeadAt K H p h ∧ RetV (.bl (rightLen h)) H Q
theorem len_is_right_length {vs : List V} {H : Hp} {Q : VK} {E : XK} (h : sp_is_right_length K vs H Q E) : vs.length = 1 := by
  obtain ⟨p, h, rfl, _⟩ := h
  rfl
theorem sc_is_right_length : FnScope ["head", "body"] ["head"] (defScope s_is_right_length) := ⟨rfl, rfl, rfl, by decide +kernel, rfl, by decide +kernel, by decide +kernel⟩
theorem okF_is_right_length (T : Txt K mg base) {fd : FuncData} (F : FunD K d_is_right_length.name d_is_right_length.qual d_is_right_length.params d_is_right_length.body d_is_right_length.scope [] [] (He.fAd K d_is_right_length.at_) fd) : FnOk P w K mg base CX0 2 (He.ga K "is_right_length") fd ["head"] (sp_is_right_length K) := by
  obtain ⟨fd_has_more, G_has_more, b_has_more, k_has_more⟩ := ok_has_more (P := P) (w := w) (base := base) T
  refine F.ok sc_is_right_length (fun vs H Q E h => len_is_right_length h) (fun cdv Ar outer s H vs Q E hr h => ?_)
  refine ⟨_, PSs.nox (pss_cons (ps_set (i := 1) sc_is_right_length.nd rfl (Or.inl rfl) (pe_op op_sub (pe_fld (pv 0) rfl) (pe_gi rfl T.c_HEAD_LENGTH)))
      (pss_cons (ps_if (PW.pt (pw_or (pt_cmpR op_lt (pv 1) pe_int (nomark _)) (pw_or1 (pt_cmpR op_gt (pe_op op_add (pe_op op_mul (pe_fld (pv 0) rfl) pe_int) (pv 1)) (pe_gi rfl T.c_MOST_BODY) (nomark _))))) (pss_one (ps_ret pe_bl)) pss_nil)
      (pss_one (ps_ret (pe_or (pe_not (pe_call G_has_more (hr.mono (by decide)) rfl T.g_has_more k_has_more b_has_more .nil pass0 (pa_cons (pv 0) pa_nil))) (pe_one (pe_and (pe_cmpR op_gt (pv 1) pe_int (nomark _)) (pe_one (pe_cmpR op_eq (pe_op op_mod (pv 1) pe_int) pe_int (nomark _)))))))))), ?_⟩
  obtain ⟨p, hd, rfl, ha, q⟩ := h
  refine sq_set (ev_op (fl_length T rfl ha) ev_c rv_I0) fun H1 e1 => ?_
  have ha1 := ha.ex e1
  refine sq_if (b := decide (hd.length < 20) || decide (65515 < hd.place * 8 + (hd.length - 20))) ?_ (fun hb H2 e2 => ?_) (fun hb H2 e2 => ?_)
  · refine et_or (et_is (et_test (ev_op (ev_var rfl) ev_c rv_I0)) ?_) fun hn => et_is (et_test (ev_op (ev_op (ev_op (fl_place T (i := 0) rfl ha1) ev_c (rv_I (.inr ⟨by decide, by decide⟩))) (ev_var rfl) rv_I0) ev_c rv_I0)) ?_
    · apply decide_eq_decide.mpr
      omega
    · have := of_decide_eq_false hn
      apply decide_eq_decide.mpr
      omega
  · refine ret_ev ev_c fun H3 e3 => ?_
    have := q H3 ((e1.trans e2).trans e3)
    unfold rightLen at this
    rw [hb] at this
    exact this
  · have ha2 := ha1.ex e2
    have hl : 20 ≤ hd.length := by
      rw [Bool.or_eq_false_iff, decide_eq_false_iff_not] at hb
      omega
    refine ret_ev (z := .bl (rightLen hd)) (ev_is (ev_orV (b := decide (20 < hd.length) && (hd.length - 20) % 8 == 0) (ev_notV (ev_call (ea_cons (ev_var rfl) ea_nil) (hm_V ha2))) fun _ => ev_is (ev_andV (ev_op (ev_var rfl) ev_c rv_I0) fun _ => ev_op (ev_op (ev_var rfl) ev_c (rv_I (by decide))) ev_c (rv_eq rfl)) ?_) ?_) fun H3 e3 => ?_
    · congr 2
      · apply decide_eq_decide.mpr
        omega
      · rw [Bool.eq_iff_iff, beq_iff_eq, decide_eq_true_eq, V.int.injEq]
        omega
    · unfold rightLen
      rw [hb]
      rfl
    · exact q H3 ((e1.trans e2).trans e3)
theorem ok_is_right_length (T : Txt K mg base) : DefOk P w K mg base 2 (He.ga K "is_right_length") ["head"] (sp_is_right_length K) := by
  obtain ⟨fd, F⟩ := T.fd_is_right_length
  exact ⟨fd, okF_is_right_length T F, F.bindsN fun _ _ _ _ _ _ us hl => match us, hl with | [_], _ => rfl, F.kp⟩
def sp_is_right_head (K : PySem.W.Frag) : Sp := fun vs H Q _ => ∃ (p : Addr) (h : Hd), vs = [.ref p] ∧ HeadAt K H p h ∧ RetV (.bl (rightHd h)) H Q
theorem len_is_right_head {vs : List V} {H : Hp} {Q : VK} {E : XK} (h : sp_is_right_head K vs H Q E) : vs.length = 1 := by
  obtain ⟨p, h, rfl, _⟩ := h
  rfl
theorem wi (x lo hi : Nat) : Sv62.within (x : Int) (lo : Int) (hi : Int) = (decide (lo ≤ x) && decide (x ≤ hi)) := by
  unfold Sv62.within
  congr 1 <;> apply decide_eq_decide.mpr <;> omega
theorem sc_is_right_head : FnScope ["head"] ["head"] (defScope s_is_right_head) := ⟨rfl, rfl, rfl, by decide +kernel, rfl, by decide +kernel, by decide +kernel⟩
theorem okF_is_right_head (T : Txt K mg base) {fd : FuncData} (F : FunD K d_is_right_head.name d_is_right_head.qual d_is_right_head.params d_is_right_head.body d_is_right_head.scope [] [] (He.fAd K d_is_right_head.at_) fd) : FnOk P w K mg base CX0 3 (He.ga K "is_right_head") fd ["head"] (sp_is_right_head K) := by
  obtain ⟨fd_is_right_length, G_is_right_length, b_is_right_length, k_is_right_length⟩ := ok_is_right_length (P := P) (w := w) (base := base) T
  obtain ⟨fd_is_to, G_is_to, b_is_to, k_is_to⟩ := ok_is_to (P := P) (w := w) (base := base) T
  obtain ⟨fd_is_one_machine, G_is_one_machine, b_is_one_machine, k_is_one_machine⟩ := ok_is_one_machine (P := P) (w := w) (base := base) T
  obtain ⟨fd_is_what, G_is_what, b_is_what, k_is_what⟩ := ok_is_what (P := P) (w := w) (base := base) T
  obtain ⟨fd_is_hops, G_is_hops, b_is_hops, k_is_hops⟩ := ok_is_hops (P := P) (w := w) (base := base) T
  refine F.ok sc_is_right_head (fun vs H Q E h => len_is_right_head h) (fun cdv Ar outer s H vs Q E hr h => ?_)
  refine ⟨_, PSs.nox (pss_cons (ps_if (PW.pt (pw_or (pt_not (pt_val (pe_call G_is_hops (hr.mono (by decide)) rfl T.g_is_hops k_is_hops b_is_hops .nil pass0 (pa_cons (pe_fld (pv 0) rfl) pa_nil)))) (pw_or (pt_not (pt_val (pe_call G_is_what (hr.mono (by decide)) rfl T.g_is_what k_is_what b_is_what .nil pass0 (pa_cons (pe_fld (pv 0) rfl) pa_nil)))) (pw_or1 (pt_cmpR op_gt (pe_fld (pv 0) rfl) (pe_op op_add (pe_gi rfl T.c_MORE_FOLLOW) (pe_gi rfl T.c_UNCUT)) (nomark _)))))) (pss_one (ps_ret pe_bl)) pss_nil)
      (pss_one (ps_ret (pe_and (pe_call G_is_one_machine (hr.mono (by decide)) rfl T.g_is_one_machine k_is_one_machine b_is_one_machine .nil pass0 (pa_cons (pe_fld (pv 0) rfl) pa_nil)) (pe_and (pe_call G_is_to (hr.mono (by decide)) rfl T.g_is_to k_is_to b_is_to .nil pass0 (pa_cons (pe_fld (pv 0) rfl) pa_nil)) (pe_one (pe_call G_is_right_length (hr.mono (by decide)) rfl T.g_is_right_length k_is_right_length b_is_right_length .nil pass0 (pa_cons (pv 0) pa_nil)))))))), ?_⟩
  obtain ⟨p, hd, rfl, ha, q⟩ := h
  refine sq_if (b := !(decide (1 ≤ hd.hops) && decide (hd.hops ≤ 255)) || (!(decide (1 ≤ hd.what) && decide (hd.what ≤ 4)) || decide (3 < hd.flags))) ?_ (fun hb H2 e2 => ?_) (fun hb H2 e2 => ?_)
  · refine et_or (et_is (et_not (et_B (ev_call (ea_cons (fl_hops T rfl ha) ea_nil) (spZ_v ⟨_, rfl, rfl⟩)))) ?_) fun _ => et_or (et_is (et_not (et_B (ev_call (ea_cons (fl_what T rfl ha) ea_nil) (spZ_v ⟨_, rfl, rfl⟩)))) ?_) fun _ => et_is (et_test (ev_op (fl_flags T rfl ha) (ev_op ev_c ev_c rv_I0) rv_I0)) ?_
    · exact congrArg _ (wi hd.hops 1 255)
    · exact congrArg _ (wi hd.what 1 4)
    · apply decide_eq_decide.mpr
      omega
  · refine ret_ev ev_c fun H3 e3 => ?_
    have := q H3 (e2.trans e3)
    unfold rightHd at this
    rw [Bool.or_assoc, hb] at this
    exact this
  · have ha2 := ha.ex e2
    refine ret_ev (ev_is (ev_andV (ev_call (ea_cons (fl_sender T rfl ha2) ea_nil) (spZ_v ⟨_, rfl, rfl⟩)) fun _ => ev_andV (ev_call (ea_cons (fl_to T rfl ha2) ea_nil) (spZ_v ⟨_, rfl, rfl⟩)) fun _ => ev_call (ea_cons (ev_var rfl) ea_nil) (fun H1 e Q q _ => ⟨p, hd, rfl, ha2.ex e, q⟩)) ?_) fun H3 e3 => q H3 (e2.trans e3)
    unfold rightHd
    rw [Bool.or_assoc, hb]
    show V.bl (Sv62.within (hd.sender : Int) ((1 : Nat) : Int) ((4294967294 : Nat) : Int) && (Sv62.within (hd.to : Int) ((1 : Nat) : Int) ((4294967295 : Nat) : Int) && rightLen hd)) = _
    rw [wi, wi]
    congr 1
    rw [Bool.not_false, Bool.true_and]
    congr 1
    · congr 1 <;> apply decide_eq_decide.mpr <;> omega
theorem ok_is_right_head (T : Txt K mg base) : DefOk P w K mg base 3 (He.ga K "is_right_head") ["head"] (sp_is_right_head K) := by
  obtain ⟨fd, F⟩ := T.fd_is_right_head
  exact ⟨fd, okF_is_right_head T F, F.bindsN fun _ _ _ _ _ _ us hl => match us, hl with | [_], _ => rfl, F.kp⟩
/-- what read_head gives back -/
def sp_read_head (K : PySem.W.Frag) : Sp := fun vs H Q _ => ∃ (d : Addr) (b : Sv62.Bytes), vs = [.ref d] ∧ H d = some (.lst (bv b)) ∧ (Sv62.firstOf b = none → RetV .non H Q) ∧
  ∀ p n, Sv62.firstOf b = some (p, n) → ∀ a H', H a = none → Ex H H' → HeadAt K H' a (hdOf p n) → Q (.ref a) H'
theorem len_read_head {vs : List V} {H : Hp} {Q : VK} {E : XK} (h : sp_read_head K vs H Q E) : vs.length = 1 := by
  obtain ⟨d, b, rfl, _⟩ := h
  rfl
theorem sc_read_head : FnScope ["data", "head"] ["data"] (defScope s_read_head) := ⟨rfl, rfl, rfl, by decide +kernel, rfl, by decide +kernel, by decide +kernel⟩
theorem okF_read_head (T : Txt K mg base) {fd : FuncData} (F : FunD K d_read_head.name d_read_head.qual d_read_head.params d_read_head.body d_read_head.scope [] [] (He.fAd K d_read_head.at_) fd) : FnOk P w K mg base CX0 4 (He.ga K "read_head") fd ["data"] (sp_read_head K) := by
  obtain ⟨fd_head_bytes, G_head_bytes, b_head_bytes, k_head_bytes⟩ := ok_head_bytes (P := P) (w := w) (base := base) T
  obtain ⟨fd_is_right_head, G_is_right_head, b_is_right_head, k_is_right_head⟩ := ok_is_right_head (P := P) (w := w) (base := base) T
  obtain ⟨fd_Head__init, G_Head__init, b_Head__init, k_Head__init⟩ := ok_Head__init (P := P) (w := w) (base := base) T
  obtain ⟨fd_number_at, G_number_at, b_number_at, k_number_at⟩ := ok_number_at (P := P) (w := w) (base := base) T
  refine F.ok sc_read_head (fun vs H Q E h => len_read_head h) (fun cdv Ar outer s H vs Q E hr h => ?_)
  refine ⟨_, PSs.nox (pss_cons (ps_if (pt_cmpR op_lt (pe_callB call_len_seq (by rfl) T.f_len PySem.boot_len (pa_cons (pv 0) pa_nil)) (pe_gi rfl T.c_HEAD_LENGTH) (nomark _)) (pss_one (ps_ret pe_non)) pss_nil)
      (pss_cons (ps_set (i := 1) sc_read_head.nd rfl (Or.inl rfl) (pe_make T.mk_Head G_Head__init (hr.mono (by decide)) rfl T.g_Head b_Head__init .nil pass0 (pa_cons (pe_ix ix_list (pv 0) pe_int (fun _ _ => rfl)) (pa_cons (pe_ix ix_list (pv 0) pe_int (fun _ _ => rfl)) (pa_cons (pe_ix ix_list (pv 0) pe_int (fun _ _ => rfl)) (pa_cons (pe_call G_number_at (hr.mono (by decide)) rfl T.g_number_at k_number_at b_number_at .nil pass0 (pa_cons (pv 0) (pa_cons pe_int (pa_cons pe_int pa_nil)))) (pa_cons (pe_call G_number_at (hr.mono (by decide)) rfl T.g_number_at k_number_at b_number_at .nil pass0 (pa_cons (pv 0) (pa_cons pe_int (pa_cons pe_int pa_nil)))) (pa_cons (pe_call G_number_at (hr.mono (by decide)) rfl T.g_number_at k_number_at b_number_at .nil pass0 (pa_cons (pv 0) (pa_cons pe_int (pa_cons pe_int pa_nil)))) (pa_cons (pe_call G_number_at (hr.mono (by decide)) rfl T.g_number_at k_number_at b_number_at .nil pass0 (pa_cons (pv 0) (pa_cons pe_int (pa_cons pe_int pa_nil)))) (pa_cons (pe_call G_number_at (hr.mono (by decide)) rfl T.g_number_at k_number_at b_number_at .nil pass0 (pa_cons (pv 0) (pa_cons pe_int (pa_cons pe_int pa_nil)))) pa_nil))))))))))
      (pss_cons (ps_if (PW.pt (pw_or (pt_not (pt_val (pe_call G_is_right_head (hr.mono (by decide)) rfl T.g_is_right_head k_is_right_head b_is_right_head .nil pass0 (pa_cons (pv 1) pa_nil)))) (pw_or1 (pt_cmpR (op_neD hr.units) (pe_call G_head_bytes (hr.mono (by decide)) rfl T.g_head_bytes k_head_bytes b_head_bytes .nil pass0 (pa_cons (pv 1) pa_nil)) (pe_slice sl_list (pv 0) po_none (po_some (pe_gi rfl T.c_HEAD_LENGTH))) (nomark _))))) (pss_one (ps_ret pe_non)) pss_nil)
      (pss_one (ps_ret (pv 1)))))), ?_⟩
  obtain ⟨d, b, rfl, hd, qn, qs⟩ := h
  refine sq_if (b := decide (b.length < 20)) (et_is (et_test (ev_op (ev_len (K := K) (ev_var rfl) (sq_of hd)) ev_c rv_I0)) ?_) (fun hb H1 e1 => ?_) (fun hb H1 e1 => ?_)
  · rw [bv_len]
    apply decide_eq_decide.mpr
    omega
  · have hs := of_decide_eq_true hb
    exact ret_ev ev_c fun H2 e2 => (qn (firstOf_short hs)) H2 (e1.trans e2)
  · have hs : 20 ≤ b.length := by
      have := of_decide_eq_false hb
      omega
    have hd1 := e1 _ _ hd
    have na : ∀ {σ : L2.St} {i n : Nat}, SpV sp_number_at [.ref d, .int (i : Int), .int (n : Int)] H1 (.int (Sv62.part b i n : Int)) := fun {σ i n} H2 e2 Q q _ => ⟨d, b, i, n, rfl, e2 _ _ hd1, q⟩
    have ix : ∀ {σ : L2.St} {i : Nat}, σ[0]? = some (some (V.ref d)) → i < 20 → Ev (tOp (rIxL K) (tVar 0) (tC (.int (i : Int)))) σ H1 (.int (Sv62.part b i 1 : Int)) := fun {σ i} h0 hi => ev_op (ev_var h0) ev_c (rv_ixL (sq_of hd1) (atI_nat (bv_get (by omega))))
    have nc : ∀ {σ : L2.St} {i n : Nat}, σ[0]? = some (some (V.ref d)) → Ev (tCall sp_number_at [] E0 (tCons (tVar 0) (tCons (tC (.int (i : Int))) (tCons (tC (.int (n : Int))) tNil)))) σ H1 (.int (Sv62.part b i n : Int)) := fun {σ i n} h0 => ev_call (ea_cons (ev_var h0) (ea_cons ev_c (ea_cons ev_c ea_nil))) (na (σ := σ))
    refine sq_setEN (en_make (ea_cons (ix (i := 1) rfl (by decide)) (ea_cons (ix (i := 2) rfl (by decide)) (ea_cons (ix (i := 3) rfl (by decide)) (ea_cons (nc (i := 4) (n := 2) rfl) (ea_cons (nc (i := 6) (n := 2) rfl) (ea_cons (nc (i := 8) (n := 2) rfl) (ea_cons (nc (i := 12) (n := 4) rfl) (ea_cons (nc (i := 16) (n := 4) rfl) ea_nil)))))))) rfl) fun a dx H2 na2 e2 k2 => ?_
    have hA : HeadAt K H2 a (hdRead b) := ⟨dx, k2⟩
    have hd2 := e2 _ _ hd1
    have l1 := part_lt b 1 1
    have l2 := part_lt b 2 1
    have l3 := part_lt b 3 1
    have fst := firstOf_read hs
    refine sq_if (b := !rightHd (hdRead b) || !decide (Sv62Neutral.ofOctets (hdRead b).bytes = Sv62Neutral.ofOctets (b.take 20))) ?_ (fun hc H3 e3 => ?_) (fun hc H3 e3 => ?_)
    · refine et_or (et_not (et_B (ev_call (ea_cons (ev_var rfl) ea_nil) (fun H4 e4 Q q _ => ⟨a, _, rfl, hA.ex e4, q⟩)))) fun _ => et_test (ev_neL ?_ ?_)
      · rw [← bv_off]
        exact es_el (el_call (ea_cons (ev_var rfl) ea_nil) fun H4 e4 Q q _ => ⟨a, _, rfl, hA.ex e4, show Sv62.part b 1 1 < 256 by simpa using l1, show Sv62.part b 2 1 < 256 by simpa using l2, show Sv62.part b 3 1 < 256 by simpa using l3, q⟩)
      · rw [← bv_off, ← bv_take, ← cut_to]
        exact es_el (el_sl (ev_var rfl) eo_none (eo_some ev_c) (sq_of hd2))
    · refine ret_ev ev_c fun H4 e4 => qn ?_ H4 (((e1.trans e2).trans e3).trans e4)
      rw [fst, if_neg]
      rintro ⟨z1, z2⟩
      rw [z1, z2] at hc
      simp at hc
    · rw [Bool.or_eq_false_iff, Bool.not_eq_false', Bool.not_eq_false', decide_eq_true_eq, off_inj] at hc
      rw [if_pos hc] at fst
      refine ret_ev (ev_var rfl) fun H4 e4 => qs _ _ fst a H4 (fresh_back e1 na2) (((e1.trans e2).trans e3).trans e4) ?_
      have hf : Sv62.part b 3 1 ≤ 3 := by
        have := hc.1
        unfold rightHd at this
        simp only [Bool.and_eq_true, Bool.not_eq_true', Bool.or_eq_false_iff, decide_eq_false_iff_not] at this
        have := this.1.2
        show (hdRead b).flags ≤ 3
        omega
      rw [hdOf_read hf]
      exact hA.ex (e3.trans e4)
theorem ok_read_head (T : Txt K mg base) : DefOk P w K mg base 4 (He.ga K "read_head") ["data"] (sp_read_head K) := by
  obtain ⟨fd, F⟩ := T.fd_read_head
  exact ⟨fd, okF_read_head T F, F.bindsN fun _ _ _ _ _ _ us hl => match us, hl with | [_], _ => rfl, F.kp⟩
end
end Lp
set_option maxHeartbeats 400000000
namespace Lp
open PySem PySem.Spec PyProof.Rows L2 Evl
/-! ### the machine in the heap -/
def qW : Str := d_whole_body.qual ++ ".<locals>." ++ "<lambda>"
def LinkV (K : PySem.W.Frag) (H : Hp) (S : List Addr) (v : V) (o : Option Sv62.Link) : Prop := match o with
  | none => v = .non
  | some l => ∃ p dx, v = .ref p ∧ p ∉ S ∧ H p = some (.ins (He.ga K "Link") dx (F_Link (.int l.address) (.int l.bits) (.int l.fits)))
def WayV (K : PySem.W.Frag) (H : Hp) (S : List Addr) (v : V) (w : Way3) : Prop := ∃ p dx, v = .ref p ∧ p ∉ S ∧ H p = some (.ins (He.ga K "Way") dx (F_Way (.int w.1) (.int w.2.1) (.int w.2.2)))
def wkey (w : Sv62.Way) : List L2.Key := [.inl w.address, .inl w.bits]
abbrev WEnt (K : PySem.W.Frag) (H : Hp) (S : List Addr) (kv : List L2.Key × V) (w : Sv62.Way) : Prop := kv.1 = wkey w ∧ WayV K H S kv.2 (three w)
def PieceV (K : PySem.W.Frag) (H : Hp) (S : List Addr) (v : V) (p : Sv62.Packet) : Prop := ∃ a dx h b, v = .ref a ∧ a ∉ S ∧ h ∉ S ∧ b ∉ S ∧
  H a = some (.ins (He.ga K "Piece") dx (F_Piece (.ref h) (.ref b) (.int ((8 * p.place : Nat) : Int)) (.int (endOf p : Int)) (.bl (!p.more)))) ∧ HeadAt K H h (hdOf p (20 + p.body.length)) ∧ H b = some (.lst (bv p.body))
def GathAt (K : PySem.W.Frag) (H : Hp) (S : List Addr) (g : Addr × Addr) (x : Sv62.Part) : Prop := ∃ dx vs ps, H g.1 = some (.ins (He.ga K "Gathering") dx (F_Gathering (.int x.since) (.bl x.spoiled) (.ref g.2))) ∧ H g.2 = some (.lst vs) ∧ Paired (PieceV K H S) vs ps ∧ PartIs x ps
def pkey (x : Sv62.Part) : List L2.Key := [.inl x.from_, .inl x.to, .inl x.what, .inl x.name]
def dOf (gs : List (Addr × Addr)) (xs : List Sv62.Part) : List (List L2.Key × V) := List.zipWith (fun g x => (pkey x, V.ref g.1)) gs xs
def tkv (a b c d e : Nat) : List (L2.Key × V) := [(.inl 1, .int (a : Int)), (.inl 2, .int (b : Int)), (.inl 3, .int (c : Int)), (.inl 4, .int (d : Int)), (.inl 5, .int (e : Int))]
structure Foot where
  lk : Addr
  wy : Addr
  ga : Addr
  tk : Addr
  tb : Addr
  gs : List (Addr × Addr)
  av : List Addr
def Foot.all (f : Foot) (m : Addr) : List Addr := m :: f.lk :: f.wy :: f.ga :: f.tk :: f.tb :: (f.gs.map (·.1) ++ (f.gs.map (·.2) ++ f.av))
structure GoodP (n : Sv62.Net) : Prop where
  few : n.parts.length ≤ 64
  nd : (n.parts.map pkey).Nodup
  name : n.name < 65536
structure MachAt (K : PySem.W.Frag) (H : Hp) (m : Addr) (n : Sv62.Net) (f : Foot) : Prop where
  nd : (f.all m).Nodup
  obj : ∃ dx, H m = some (.ins (He.ga K "Machine") dx (F_Machine (.ref f.lk) (.ref f.wy) (.bl n.passes) (.ref f.ga) (.int n.now) (.int n.name) (.ref f.tk)))
  lks : ∃ vs, H f.lk = some (.lst vs) ∧ Paired (LinkV K H (f.all m)) vs n.links
  wys : ∃ kvs, H f.wy = some (.dT kvs) ∧ Paired (WEnt K H (f.all m)) kvs n.ways
  gas : H f.ga = some (.dT (dOf f.gs n.parts))
  gat : Paired (GathAt K H (f.all m)) f.gs n.parts
  tks : ∃ a b c : Nat, H f.tk = some (.dK (tkv n.told n.passed a b c)) ∧ b + c = n.dropped
  tbe : f.tb = lamP K
  tab : LamX.TabS H f.tb qW
  good : Good n
  gp : GoodP n
  avs : ∀ b ∈ f.av, ∃ o, H b = some o ∧ ntb o = true
theorem avs_go {H H' : Hp} {l : List Addr} (h : ∀ b ∈ l, ∃ o, H b = some o ∧ ntb o = true) (k : ∀ b ∈ l, ∀ o, H b = some o → ntb o = true → H' b = some o) : ∀ b ∈ l, ∃ o, H' b = some o ∧ ntb o = true := fun b hb => by
  obtain ⟨o, h1, h2⟩ := h b hb
  exact ⟨o, k b hb o h1 h2, h2⟩
/-- nothing stands there (but tables, of which nothing is said) -/
def New (H : Hp) (b : Addr) : Prop := ∀ o, H b = some o → ntb o = false
theorem New.of {H : Hp} {b : Addr} (h : H b = none) : New H b := fun o ho => by
  rw [h] at ho
  cases ho
section
variable {K : PySem.W.Frag} {H H' : Hp} {S S' : List Addr} {m : Addr} {n : Sv62.Net} {f : Foot}
theorem LinkV.keep {v : V} {o : Option Sv62.Link} (h : LinkV K H S v o) (k : Keep H H' S) (hs : ∀ b, b ∈ S' → b ∈ S ∨ New H b) : LinkV K H' S' v o := by
  cases o with
  | none => exact h
  | some l =>
    obtain ⟨p, dx, e1, e2, e3⟩ := h
    refine ⟨p, dx, e1, fun z => ?_, k _ _ e3 e2 rfl⟩
    rcases hs p z with z | z
    · exact e2 z
    · exact absurd (z _ e3) (by simp [ntb])
theorem WayV.keep {v : V} {w : Way3} (h : WayV K H S v w) (k : Keep H H' S) (hs : ∀ b, b ∈ S' → b ∈ S ∨ New H b) : WayV K H' S' v w := by
  obtain ⟨p, dx, e1, e2, e3⟩ := h
  refine ⟨p, dx, e1, fun z => ?_, k _ _ e3 e2 rfl⟩
  rcases hs p z with z | z
  · exact e2 z
  · exact absurd (z _ e3) (by simp [ntb])
theorem PieceV.keep {v : V} {p : Sv62.Packet} (h : PieceV K H S v p) (k : Keep H H' S) (hs : ∀ b, b ∈ S' → b ∈ S ∨ New H b) : PieceV K H' S' v p := by
  obtain ⟨a, dx, hh, b, e1, a1, a2, a3, o1, ⟨dh, o2⟩, o3⟩ := h
  have no : ∀ {c : Addr} {o : HO}, H c = some o → ntb o = true → c ∉ S → c ∉ S' := fun {c o} hc ht hn z => by
    rcases hs c z with z | z
    · exact hn z
    · rw [z _ hc] at ht
      cases ht
  exact ⟨a, dx, hh, b, e1, no o1 rfl a1, no o2 rfl a2, no o3 rfl a3, k _ _ o1 a1 rfl, ⟨dh, k _ _ o2 a2 rfl⟩, k _ _ o3 a3 rfl⟩
theorem pr_map {A B : Type} {F G : A → B → Prop} (h : ∀ a b, F a b → G a b) : ∀ {xs : List A} {ys : List B}, Paired F xs ys → Paired G xs ys
  | _, _, .nil => .nil
  | _, _, .cons h1 h2 => .cons (h _ _ h1) (pr_map h h2)
/-- a gathering none of whose own two things is written -/
theorem GathAt.keep {g : Addr × Addr} {x : Sv62.Part} (h : GathAt K H S g x) (k : Keep H H' S) (hs : ∀ b, b ∈ S' → b ∈ S ∨ New H b) (k1 : ∀ o, H g.1 = some o → ntb o = true → H' g.1 = some o) (k2 : ∀ o, H g.2 = some o → ntb o = true → H' g.2 = some o) : GathAt K H' S' g x := by
  obtain ⟨dx, vs, ps, o1, o2, o3, o4⟩ := h
  exact ⟨dx, vs, ps, k1 _ o1 rfl, k2 _ o2 rfl, pr_map (fun _ _ z => z.keep k hs) o3, o4⟩
theorem same_sub {S : List Addr} {H : Hp} : ∀ b, b ∈ S → b ∈ S ∨ New H b := fun _ h => .inl h
theorem MachAt.ex (e : Ex H H') (h : MachAt K H m n f) : MachAt K H' m n f := by
  obtain ⟨h1, ⟨dx, h2⟩, ⟨vs, h3, h4⟩, ⟨kvs, h5, h6⟩, h7, h8, ⟨a, b, c, h9, h10⟩, h11, h12, h13, h14, h15⟩ := h
  have k : Keep H H' (f.all m) := .of_ex e
  exact ⟨h1, ⟨dx, e _ _ h2⟩, ⟨vs, e _ _ h3, pr_map (fun _ _ z => z.keep k same_sub) h4⟩, ⟨kvs, e _ _ h5, pr_map (fun _ _ z => ⟨z.1, z.2.keep k same_sub⟩) h6⟩, e _ _ h7, pr_map (fun _ _ z => z.keep k same_sub (fun o q _ => e _ _ q) (fun o q _ => e _ _ q)) h8, ⟨a, b, c, e _ _ h9, h10⟩, h11, h12.ext e, h13, h14, avs_go h15 fun b _ o q _ => e _ _ q⟩
theorem paired_in {A B : Type} {F : A → B → Prop} : ∀ {xs : List A} {ys : List B}, Paired F xs ys → ∀ a ∈ xs, ∃ b ∈ ys, F a b
  | _, _, .nil, a, h => nomatch h
  | _, _, .cons h1 h2, a, h => by
    rcases List.mem_cons.mp h with rfl | h
    · exact ⟨_, List.mem_cons_self, h1⟩
    · obtain ⟨b, hb, hf⟩ := paired_in h2 a h
      exact ⟨b, List.mem_cons_of_mem _ hb, hf⟩
/-- all of the footprint is there -/
theorem MachAt.there (h : MachAt K H m n f) : ∀ b ∈ f.all m, ∃ o, H b = some o := by
  intro b hb
  obtain ⟨dx, h2⟩ := h.obj
  obtain ⟨vs, h3, _⟩ := h.lks
  obtain ⟨kvs, h5, _⟩ := h.wys
  obtain ⟨a, b', c, h9, _⟩ := h.tks
  obtain ⟨ps, h12, _⟩ := h.tab
  simp only [Foot.all, List.mem_cons, List.mem_append, List.mem_map] at hb
  rcases hb with rfl | rfl | rfl | rfl | rfl | rfl | ⟨g, hg, rfl⟩ | ⟨g, hg, rfl⟩ | hav
  · exact ⟨_, h2⟩
  · exact ⟨_, h3⟩
  · exact ⟨_, h5⟩
  · exact ⟨_, h.gas⟩
  · exact ⟨_, h9⟩
  · exact ⟨_, h12⟩
  · obtain ⟨x, _, dx, vs, ps, o1, _⟩ := paired_in h.gat g hg
    exact ⟨_, o1⟩
  · obtain ⟨x, _, dx, vs, ps, _, o2, _⟩ := paired_in h.gat g hg
    exact ⟨_, o2⟩
  · obtain ⟨o, ho, _⟩ := h.avs b hav
    exact ⟨o, ho⟩
theorem MachAt.fresh (h : MachAt K H m n f) {p : Addr} (hp : H p = none) : p ∉ f.all m := fun z => by
  obtain ⟨o, ho⟩ := h.there p z
  rw [hp] at ho
  cases ho
theorem MachAt.out (h : MachAt K H m n f) {p : Addr} {o : HO} (hp : p ∉ f.all m) (b : Addr) (hb : b ∈ f.all m) : b ≠ p := fun z => hp (by rw [← z]; exact hb)
/-- the machine has moved on, from H to H' -/
structure Moved (K : PySem.W.Frag) (H : Hp) (m : Addr) (f : Foot) (n' : Sv62.Net) (H' : Hp) (f' : Foot) : Prop where
  at_ : MachAt K H' m n' f'
  sub : ∀ b ∈ f'.all m, b ∈ f.all m ∨ New H b
  keep : Keep H H' (f.all m)
  av : f'.av = f.av ∧ ∀ b ∈ f.av, ∀ o, H b = some o → ntb o = true → H' b = some o
theorem Moved.out {n' : Sv62.Net} {f' : Foot} (h : Moved K H m f n' H' f') {p : Addr} {o : HO} (hp : H p = some o) (hn : p ∉ f.all m) (ht : ntb o = true) : p ∉ f'.all m := fun z => by
  rcases h.sub p z with z | z
  · exact hn z
  · rw [z _ hp] at ht
    cases ht
theorem Moved.same (M : MachAt K H m n f) (e : Ex H H') : Moved K H m f n H' f := ⟨M.ex e, same_sub, .of_ex e, rfl, fun b _ o h _ => e _ _ h⟩
theorem Moved.after {H1 : Hp} {n' : Sv62.Net} {f' : Foot} (e : Ex H H1) (d : Moved K H1 m f n' H' f') : Moved K H m f n' H' f' := by
  refine ⟨d.at_, fun b hb => ?_, fun b o hb hn t => d.keep b o (e b o hb) hn t, d.av.1, fun b hb o h t => d.av.2 b hb o (e _ _ h) t⟩
  rcases d.sub b hb with h | h
  · exact .inl h
  · exact .inr fun o ho => h o (e _ _ ho)
theorem Moved.then {H1 : Hp} {n' : Sv62.Net} {f' : Foot} (d : Moved K H m f n' H1 f') (e : Ex H1 H') : Moved K H m f n' H' f' := ⟨d.at_.ex e, d.sub, fun b o hb hn t => e b o (d.keep b o hb hn t), d.av.1, fun b hb o h t => e _ _ (d.av.2 b hb o h t)⟩
theorem Moved.trans {H1 : Hp} {n1 n2 : Sv62.Net} {f1 f2 : Foot} (a : Moved K H m f n1 H1 f1) (b : Moved K H1 m f1 n2 H' f2) : Moved K H m f n2 H' f2 := by
  refine ⟨b.at_, fun x hx => ?_, fun x o hx hn t => ?_, b.av.1.trans a.av.1, fun x hx o h t => b.av.2 x (by rw [a.av.1]; exact hx) o (a.av.2 x hx o h t) t⟩
  · rcases b.sub x hx with h | h
    · exact a.sub x h
    · by_cases c : x ∈ f.all m
      · exact .inl c
      · refine .inr fun o ho => ?_
        cases t : ntb o with
        | false => rfl
        | true =>
          have := h o (a.keep x o ho c t)
          rw [t] at this
          exact this
  · exact b.keep x o (a.keep x o hx hn t) (a.out hx hn t) t
end
end Lp
set_option maxHeartbeats 400000000
namespace Lp
open PySem PySem.Spec PyProof.Rows L2 Evl
/-! ### comprehensions over a list that stands for another -/
theorem given_list {α : Type} (l : List α) (p : α → Bool) (g : α → V) : given l.length (fun i => match l[i]? with | some x => p x | none => false) (fun i => match l[i]? with | some x => g x | none => .non) = (l.filter p).map g := by
  have e : (List.range l.length).map (fun i => l[i]?) = l.map some := by
    apply List.ext_getElem?
    intro i
    rw [List.getElem?_map, List.getElem?_map]
    by_cases h : i < l.length
    · rw [List.getElem?_range h, List.getElem?_eq_getElem h]
      simp [h]
    · rw [List.getElem?_eq_none (by rw [List.length_range]; omega), List.getElem?_eq_none (by omega)]
      rfl
  have e2 : given l.length (fun i => match l[i]? with | some x => p x | none => false) (fun i => match l[i]? with | some x => g x | none => .non) = ((((List.range l.length).map (fun i => l[i]?)).filter (fun o => match o with | some x => p x | none => false)).map fun o => match o with | some x => g x | none => .non) := by
    unfold given
    rw [List.filter_map, List.map_map]
    rfl
  rw [e2, e, List.filter_map, List.map_map]
  rfl
theorem pr_get2 {A B : Type} {F : A → B → Prop} : ∀ {xs : List A} {ys : List B}, Paired F xs ys → ∀ {i : Nat} {x : A}, xs[i]? = some x → ∃ y, ys[i]? = some y ∧ F x y
  | _, _, .nil, i, y, h => by simp at h
  | _, _, .cons h1 h2, 0, y, h => by
    have e := Option.some.inj h
    subst e
    exact ⟨_, rfl, h1⟩
  | _, _, .cons h1 h2, i + 1, y, h => pr_get2 h2 (i := i) h
theorem el_lcM {K : PySem.W.Frag} {tl te : TE} {t : TT} {σ : L2.St} {H : Hp} {a : Addr} {xs : List V} {α : Type} {ys : List α} {R : V → α → Prop} {j : Nat} {vs : List Nat} (p : α → Bool) (g : α → V) (h : Ev tl σ H (.ref a)) (hx : H a = some (.lst xs)) (hp : Paired R xs ys) (hz : xs.length ≤ 40000) (hw : ∀ x, wipe ((wipe σ vs).set j (some x)) vs = wipe σ vs)
    (ht : ∀ x y H1, Ex H H1 → R x y → EvT t ((wipe σ vs).set j (some x)) H1 (p y)) (he : ∀ x y H1, Ex H H1 → R x y → p y = true → Ev te ((wipe σ vs).set j (some x)) H1 (g y)) : EvL (tLc (iList K tl) (gName j) t te vs) σ H ((ys.filter p).map g) := by
  have z := el_lcL (K := K) (te := te) (t := t) (j := j) (vs := vs) (fun i => match ys[i]? with | some x => p x | none => false) (fun i => match ys[i]? with | some x => g x | none => .non) h (sq_of hx) hz hw (fun i x H1 e hi => by
    obtain ⟨y, hy, r⟩ := pr_get2 hp hi
    simp only [hy]
    exact ht x y H1 e r) (fun i x H1 e hi hf => by
    obtain ⟨y, hy, r⟩ := pr_get2 hp hi
    simp only [hy] at hf ⊢
    exact he x y H1 e r hf)
  rw [hp.length, given_list] at z
  exact z
theorem et_yes {σ : L2.St} {H : Hp} : EvT tYes σ H true := fun H1 _ Q q => q H1 (Ex.refl H1)
theorem pr_get {A B : Type} {F : A → B → Prop} : ∀ {xs : List A} {ys : List B}, Paired F xs ys → ∀ {i : Nat} {y : B}, ys[i]? = some y → ∃ x, xs[i]? = some x ∧ F x y
  | _, _, .nil, i, y, h => by simp at h
  | _, _, .cons h1 h2, 0, y, h => by
    have e := Option.some.inj h
    subst e
    exact ⟨_, rfl, h1⟩
  | _, _, .cons h1 h2, i + 1, y, h => pr_get h2 (i := i) h
/-- what the ways' dict holds at a key is what the list of ways has -/
theorem pr_find {K : PySem.W.Frag} {H : Hp} {S : List Addr} {x b : Nat} : ∀ {kvs : List (List L2.Key × V)} {ws : List Sv62.Way}, Paired (WEnt K H S) kvs ws →
    match ws.find? (fun w => decide (w.address = x) && decide (w.bits = b)) with
    | none => valV kvs ([.inl (x : Int), .inl (b : Int)] : List L2.Key) = none
    | some w => ∃ v, valV kvs ([.inl (x : Int), .inl (b : Int)] : List L2.Key) = some v ∧ WayV K H S v (three w)
  | _, _, .nil => rfl
  | _, _, .cons (a := kv) (b := w) h1 h2 => by
    have ih := pr_find (x := x) (b := b) h2
    by_cases c : w.address = x ∧ w.bits = b
    · rw [List.find?_cons_of_pos (by rw [decide_eq_true c.1, decide_eq_true c.2]; rfl)]
      refine ⟨kv.2, valV_pos ?_, h1.2⟩
      rw [h1.1]
      unfold wkey
      rw [c.1, c.2]
    · rw [List.find?_cons_of_neg (by
        rw [Bool.and_eq_true, decide_eq_true_iff, decide_eq_true_iff]
        exact c)]
      have ne : ¬ kv.1 = ([.inl (x : Int), .inl (b : Int)] : List L2.Key) := by
        rw [h1.1]
        unfold wkey
        intro e
        injection e with e1 e2
        injection e2 with e2 _
        injection e1 with e1
        injection e2 with e2
        exact c ⟨by omega, by omega⟩
      rw [valV_neg ne]
      exact ih
def WayO (K : PySem.W.Frag) (H : Hp) (S : List Addr) (z : V) (o : Option Way3) : Prop := match o with
  | none => z = .non
  | some w => WayV K H S z w
theorem WayO.keep {K : PySem.W.Frag} {H H' : Hp} {S S' : List Addr} {v : V} {w : Option Way3} (h : WayO K H S v w) (k : Keep H H' S) (hs : ∀ b, b ∈ S' → b ∈ S ∨ New H b) : WayO K H' S' v w := by
  cases w with
  | none => exact h
  | some w => exact WayV.keep h k hs
def fL (vs : List V) : List (Str × V) := match vs with
  | [a, b, c] => F_Link a b c
  | _ => []
def fW (vs : List V) : List (Str × V) := match vs with
  | [a, b, c] => F_Way a b c
  | _ => []
theorem three_of {l : List V} (h : l.length = 3) : ∃ a b c, l = [a, b, c] := by
  match l, h with
  | [a, b, c], _ => exact ⟨a, b, c, rfl⟩
theorem link_at {n : Sv62.Net} (G : Good n) {i : Nat} (h : i < 4) : n.links[i]? = some (n.link i) := by
  have hl : i < n.links.length := by
    rw [G.len]
    exact h
  unfold Sv62.Net.link
  rw [List.getD_eq_getElem?_getD, List.getElem?_eq_getElem hl]
  rfl
theorem find_first {p : Nat → Bool} {n i : Nat} (h : p i = true) (hi : i < n) (hn : ∀ k, k < i → p k = false) : (List.range n).find? p = some i := by
  rw [List.find?_range_eq_some]
  refine ⟨h, List.mem_range.mpr hi, fun k hk => ?_⟩
  rw [hn k hk]
  rfl
theorem own_in (a : Nat) : ∀ l : List (Option Sv62.Link), inV (.int (a : Int)) ((l.filter (fun o => !decide (o = none))).map fun o => match o with | some l => V.int (l.address : Int) | none => V.non) = l.any fun l => match l with | some x => x.address == a | none => false
  | [] => rfl
  | none :: r => by
    rw [List.filter_cons_of_neg (by simp), own_in a r]
    rfl
  | some x :: r => by
    rw [List.filter_cons_of_pos (by simp), List.map_cons, List.any_cons, ← own_in a r]
    show (((x.address : Int) == (a : Int)) || _) = ((x.address == a) || _)
    congr 1
    rw [Bool.eq_iff_iff, beq_iff_eq, beq_iff_eq]
    omega
section
variable {P : Program} {w : World} {K : PySem.W.Frag} {mg : Str → Option Value} {base : Heap}
abbrev sp_Link__init (K : PySem.W.Frag) : Sp := spNew (He.ga K "Link") 3 fL
theorem len_Link__init {K : PySem.W.Frag} {vs : List V} {H : Hp} {Q : VK} {E : XK} (h : sp_Link__init K vs H Q E) : vs.length = 4 := spNew_len h
abbrev sp_Way__init (K : PySem.W.Frag) : Sp := spNew (He.ga K "Way") 3 fW
theorem len_Way__init {K : PySem.W.Frag} {vs : List V} {H : Hp} {Q : VK} {E : XK} (h : sp_Way__init K vs H Q E) : vs.length = 4 := spNew_len h
theorem sc_Link__init : FnScope ["self", "address", "bits", "fits"] ["self", "address", "bits", "fits"] (defScope s_Link__init) := ⟨rfl, rfl, rfl, by decide +kernel, rfl, by decide +kernel, by decide +kernel⟩
theorem okF_Link__init (T : Txt K mg base) {fd : FuncData} (F : FunD K d_Link__init.name d_Link__init.qual d_Link__init.params d_Link__init.body d_Link__init.scope [] [] (He.fAd K d_Link__init.at_) fd) : FnOk P w K mg base CX0 1 (He.ma K (He.ga K "Link") "__init__") fd ["self", "address", "bits", "fits"] (sp_Link__init K) := by
  refine F.ok sc_Link__init (fun vs H Q E h => len_Link__init h) (fun cdv Ar outer s H vs Q E hr h => ?_)
  refine ⟨_, PSs.nox (pss_cons (ps_fld (pv 0) (pv 1) rfl)
      (pss_cons (ps_fld (pv 0) (pv 2) rfl)
      (pss_one (ps_fld (pv 0) (pv 3) rfl)))), ?_⟩
  obtain ⟨p, dx, ws, rfl, hl, hp, k⟩ := h
  obtain ⟨a, b, c, rfl⟩ := three_of hl
  refine ⟨_, rfl, _, rfl, p, _, dx, [], rfl, hp, T.cl_Link, T.n_Link_address, (by show 0 < 1000; decide), ?_⟩
  rw [F_Link_new_address]
  refine ⟨_, rfl, _, rfl, p, _, dx, _, rfl, upd_same, T.cl_Link, T.n_Link_bits, (by show 1 < 1000; decide), ?_⟩
  rw [F_Link_new_bits]
  refine ⟨_, rfl, _, rfl, p, _, dx, _, rfl, upd_same, T.cl_Link, T.n_Link_fits, (by show 2 < 1000; decide), ?_⟩
  rw [F_Link_new_fits]
  exact k _ upd_same fun b o e hb => by rw [upd_ne hb, upd_ne hb, upd_ne hb]; exact e
theorem ok_Link__init (T : Txt K mg base) : DefOk P w K mg base 1 (He.ma K (He.ga K "Link") "__init__") ["self", "address", "bits", "fits"] (sp_Link__init K) := by
  obtain ⟨fd, F⟩ := T.fd_Link__init
  exact ⟨fd, okF_Link__init T F, F.bindsN fun _ _ _ _ _ _ us hl => match us, hl with | [_, _, _, _], _ => rfl, F.kp⟩
theorem sc_Way__init : FnScope ["self", "bits", "link", "next_machine"] ["self", "bits", "link", "next_machine"] (defScope s_Way__init) := ⟨rfl, rfl, rfl, by decide +kernel, rfl, by decide +kernel, by decide +kernel⟩
theorem okF_Way__init (T : Txt K mg base) {fd : FuncData} (F : FunD K d_Way__init.name d_Way__init.qual d_Way__init.params d_Way__init.body d_Way__init.scope [] [] (He.fAd K d_Way__init.at_) fd) : FnOk P w K mg base CX0 1 (He.ma K (He.ga K "Way") "__init__") fd ["self", "bits", "link", "next_machine"] (sp_Way__init K) := by
  refine F.ok sc_Way__init (fun vs H Q E h => len_Way__init h) (fun cdv Ar outer s H vs Q E hr h => ?_)
  refine ⟨_, PSs.nox (pss_cons (ps_fld (pv 0) (pv 1) rfl)
      (pss_cons (ps_fld (pv 0) (pv 2) rfl)
      (pss_one (ps_fld (pv 0) (pv 3) rfl)))), ?_⟩
  obtain ⟨p, dx, ws, rfl, hl, hp, k⟩ := h
  obtain ⟨a, b, c, rfl⟩ := three_of hl
  refine ⟨_, rfl, _, rfl, p, _, dx, [], rfl, hp, T.cl_Way, T.n_Way_bits, (by show 0 < 1000; decide), ?_⟩
  rw [F_Way_new_bits]
  refine ⟨_, rfl, _, rfl, p, _, dx, _, rfl, upd_same, T.cl_Way, T.n_Way_link, (by show 1 < 1000; decide), ?_⟩
  rw [F_Way_new_link]
  refine ⟨_, rfl, _, rfl, p, _, dx, _, rfl, upd_same, T.cl_Way, T.n_Way_next_machine, (by show 2 < 1000; decide), ?_⟩
  rw [F_Way_new_next_machine]
  exact k _ upd_same fun b o e hb => by rw [upd_ne hb, upd_ne hb, upd_ne hb]; exact e
theorem ok_Way__init (T : Txt K mg base) : DefOk P w K mg base 1 (He.ma K (He.ga K "Way") "__init__") ["self", "bits", "link", "next_machine"] (sp_Way__init K) := by
  obtain ⟨fd, F⟩ := T.fd_Way__init
  exact ⟨fd, okF_Way__init T F, F.bindsN fun _ _ _ _ _ _ us hl => match us, hl with | [_, _, _, _], _ => rfl, F.kp⟩
/-! ### whose addresses -/
def sp_is_own_address (K : PySem.W.Frag) : Sp := fun vs H Q _ => ∃ (m : Addr) (n : Sv62.Net) (f : Foot) (a : Nat), vs = [.ref m, .int (a : Int)] ∧ MachAt K H m n f ∧ RetV (.bl (n.own a)) H Q
theorem len_is_own_address {vs : List V} {H : Hp} {Q : VK} {E : XK} (h : sp_is_own_address K vs H Q E) : vs.length = 2 := by
  obtain ⟨m, n, f, a, rfl, _⟩ := h
  rfl
theorem oa_V {H : Hp} {m : Addr} {n : Sv62.Net} {f : Foot} {a : Nat} (M : MachAt K H m n f) : SpV (sp_is_own_address K) [.ref m, .int (a : Int)] H (.bl (n.own a)) := fun H1 e Q q _ => ⟨m, n, f, a, rfl, M.ex e, q⟩
theorem sc_is_own_address : FnScope ["machine", "address", "link"] ["machine", "address"] (defScope s_is_own_address) := ⟨rfl, rfl, rfl, by decide +kernel, rfl, by decide +kernel, by decide +kernel⟩
theorem okF_is_own_address (T : Txt K mg base) {fd : FuncData} (F : FunD K d_is_own_address.name d_is_own_address.qual d_is_own_address.params d_is_own_address.body d_is_own_address.scope [] [] (He.fAd K d_is_own_address.at_) fd) : FnOk P w K mg base CX0 1 (He.ga K "is_own_address") fd ["machine", "address"] (sp_is_own_address K) := by
  refine F.ok sc_is_own_address (fun vs H Q E h => len_is_own_address h) (fun cdv Ar outer s H vs Q E hr h => ?_)
  refine ⟨_, PSs.nox (pss_one (ps_ret (pe_cmpR op_in_seq (pv 1) (pe_lc (own := [("link", 2)]) (g := gName 2) (te := (tFld K (tVar 2) "address")) rfl sc_is_own_address.nd (pi_list (pe_fld (pv 0) rfl)) (blkOk_by (N := ["machine", "address", "link"]) (sc := defScope s_is_own_address) (own := [("link", 2)]) (by decide +kernel)) (fun _ _ _ _ _ => pg_name (i := 2) sc_is_own_address.nd rfl (Or.inl rfl)) (fun _ _ _ _ _ => (pts_one (pt_cmpR op_notN (pv 2) pe_non (nomark _)))) (fun _ _ _ _ _ => (pe_fld (pv 2) rfl))) (by rfl)))), ?_⟩
  obtain ⟨m, n, f, a, rfl, M, q⟩ := h
  obtain ⟨dm, om⟩ := M.obj
  obtain ⟨vs, ol, pl⟩ := M.lks
  have hz : vs.length ≤ 40000 := by
    rw [pl.length, M.good.len]
    decide
  have z := el_lcM (K := K) (tl := tFld K (tVar 0) "links") (te := tFld K (tVar 2) "address") (t := tTest (tOp (fun x y H Q => y = .non ∧ Q (.bl (!decide (x = .non))) H) (tVar 2) (tC .non))) (σ := [some (.ref m), some (.int (a : Int)), none]) (j := 2) (vs := [2]) (fun o => !decide (o = none)) (fun o => match o with | some l => V.int (l.address : Int) | none => V.non) (ev_fld (ev_var rfl) om T.cl_Machine T.n_Machine_links F_Machine_links) ol pl hz (fun _ => rfl) (fun x y H1 e r => ?_) (fun x y H1 e r hy => ?_)
  · refine ret_ev (ev_is (ev_opL (z := .bl (inV (.int (a : Int)) ((n.links.filter (fun o => !decide (o = none))).map fun o => match o with | some l => V.int (l.address : Int) | none => V.non))) (ev_var rfl) z fun p H1 hp e => rv_isL (sq_of hp) rfl ?_) (congrArg V.bl (own_in a n.links))) q
    rw [List.all_map, List.all_eq_true]
    intro o ho
    cases o with
    | none => rfl
    | some l => rfl
  · refine et_is (et_test (ev_notN (ev_var rfl))) ?_
    cases y with
    | none =>
      have : x = .non := r
      rw [this]
      rfl
    | some l =>
      obtain ⟨p, dx, rfl, _⟩ := r
      rfl
  · cases y with
    | none => simp at hy
    | some l =>
      obtain ⟨p, dx, rfl, _, hp⟩ := r
      exact ev_fld (ev_var rfl) (e _ _ hp) T.cl_Link T.n_Link_address F_Link_address
theorem ok_is_own_address (T : Txt K mg base) : DefOk P w K mg base 1 (He.ga K "is_own_address") ["machine", "address"] (sp_is_own_address K) := by
  obtain ⟨fd, F⟩ := T.fd_is_own_address
  exact ⟨fd, okF_is_own_address T F, F.bindsN fun _ _ _ _ _ _ us hl => match us, hl with | [_, _], _ => rfl, F.kp⟩
def sp_is_for_machine (K : PySem.W.Frag) : Sp := fun vs H Q _ => ∃ (m : Addr) (n : Sv62.Net) (f : Foot) (a : Nat), vs = [.ref m, .int (a : Int)] ∧ MachAt K H m n f ∧ RetV (.bl (n.mine a)) H Q
theorem len_is_for_machine {vs : List V} {H : Hp} {Q : VK} {E : XK} (h : sp_is_for_machine K vs H Q E) : vs.length = 2 := by
  obtain ⟨m, n, f, a, rfl, _⟩ := h
  rfl
theorem nat_eq_val (a b : Nat) : decide (V.int (a : Int) = V.int (b : Int)) = (a == b) := by
  rw [Bool.eq_iff_iff, beq_iff_eq, decide_eq_true_eq, V.int.injEq]
  omega
theorem sc_is_for_machine : FnScope ["machine", "to"] ["machine", "to"] (defScope s_is_for_machine) := ⟨rfl, rfl, rfl, by decide +kernel, rfl, by decide +kernel, by decide +kernel⟩
theorem okF_is_for_machine (T : Txt K mg base) {fd : FuncData} (F : FunD K d_is_for_machine.name d_is_for_machine.qual d_is_for_machine.params d_is_for_machine.body d_is_for_machine.scope [] [] (He.fAd K d_is_for_machine.at_) fd) : FnOk P w K mg base CX0 2 (He.ga K "is_for_machine") fd ["machine", "to"] (sp_is_for_machine K) := by
  obtain ⟨fd_is_own_address, G_is_own_address, b_is_own_address, k_is_own_address⟩ := ok_is_own_address (P := P) (w := w) (base := base) T
  refine F.ok sc_is_for_machine (fun vs H Q E h => len_is_for_machine h) (fun cdv Ar outer s H vs Q E hr h => ?_)
  refine ⟨_, PSs.nox (pss_one (ps_ret (pe_or (pe_cmpR op_eq (pv 1) (pe_gi rfl T.c_EVERYBODY) (nomark _)) (pe_one (pe_call G_is_own_address (hr.mono (by decide)) rfl T.g_is_own_address k_is_own_address b_is_own_address .nil pass0 (pa_cons (pv 0) (pa_cons (pv 1) pa_nil))))))), ?_⟩
  obtain ⟨m, n, f, a, rfl, M, q⟩ := h
  refine ret_ev (ev_is (ev_orV (ev_op (ev_var rfl) ev_c (rv_eq rfl)) fun _ => ev_call (ea_cons (ev_var rfl) (ea_cons (ev_var rfl) ea_nil)) (oa_V M)) ?_) q
  unfold Sv62.Net.mine
  rw [← nat_eq_val]
  rfl
theorem ok_is_for_machine (T : Txt K mg base) : DefOk P w K mg base 2 (He.ga K "is_for_machine") ["machine", "to"] (sp_is_for_machine K) := by
  obtain ⟨fd, F⟩ := T.fd_is_for_machine
  exact ⟨fd, okF_is_for_machine T F, F.bindsN fun _ _ _ _ _ _ us hl => match us, hl with | [_, _], _ => rfl, F.kp⟩
def sp_is_sender (K : PySem.W.Frag) : Sp := fun vs H Q _ => ∃ (m : Addr) (n : Sv62.Net) (f : Foot) (a : Nat), vs = [.ref m, .int (a : Int)] ∧ MachAt K H m n f ∧ RetV (.bl (a == 0 || n.own a)) H Q
theorem len_is_sender {vs : List V} {H : Hp} {Q : VK} {E : XK} (h : sp_is_sender K vs H Q E) : vs.length = 2 := by
  obtain ⟨m, n, f, a, rfl, _⟩ := h
  rfl
theorem sc_is_sender : FnScope ["machine", "sender"] ["machine", "sender"] (defScope s_is_sender) := ⟨rfl, rfl, rfl, by decide +kernel, rfl, by decide +kernel, by decide +kernel⟩
theorem okF_is_sender (T : Txt K mg base) {fd : FuncData} (F : FunD K d_is_sender.name d_is_sender.qual d_is_sender.params d_is_sender.body d_is_sender.scope [] [] (He.fAd K d_is_sender.at_) fd) : FnOk P w K mg base CX0 2 (He.ga K "is_sender") fd ["machine", "sender"] (sp_is_sender K) := by
  obtain ⟨fd_is_own_address, G_is_own_address, b_is_own_address, k_is_own_address⟩ := ok_is_own_address (P := P) (w := w) (base := base) T
  refine F.ok sc_is_sender (fun vs H Q E h => len_is_sender h) (fun cdv Ar outer s H vs Q E hr h => ?_)
  refine ⟨_, PSs.nox (pss_one (ps_ret (pe_or (pe_cmpR op_eq (pv 1) (pe_gi rfl T.c_NOBODY) (nomark _)) (pe_one (pe_call G_is_own_address (hr.mono (by decide)) rfl T.g_is_own_address k_is_own_address b_is_own_address .nil pass0 (pa_cons (pv 0) (pa_cons (pv 1) pa_nil))))))), ?_⟩
  obtain ⟨m, n, f, a, rfl, M, q⟩ := h
  refine ret_ev (ev_is (ev_orV (ev_op (ev_var rfl) ev_c (rv_eq rfl)) fun _ => ev_call (ea_cons (ev_var rfl) (ea_cons (ev_var rfl) ea_nil)) (oa_V M)) ?_) q
  rw [← nat_eq_val]
  rfl
theorem ok_is_sender (T : Txt K mg base) : DefOk P w K mg base 2 (He.ga K "is_sender") ["machine", "sender"] (sp_is_sender K) := by
  obtain ⟨fd, F⟩ := T.fd_is_sender
  exact ⟨fd, okF_is_sender T F, F.bindsN fun _ _ _ _ _ _ us hl => match us, hl with | [_, _], _ => rfl, F.kp⟩
/-! ### ways -/
def sp_next_address (K : PySem.W.Frag) : Sp := fun vs H Q _ => ∃ (v : V) (S : List Addr) (w : Way3) (a : Int), vs = [v, .int a] ∧ WayV K H S v w ∧ ∀ H', Ex H H' → Q (.int (if w.2.2 = 0 then a else (w.2.2 : Int))) H'
theorem len_next_address {vs : List V} {H : Hp} {Q : VK} {E : XK} (h : sp_next_address K vs H Q E) : vs.length = 2 := by
  obtain ⟨v, S, w, a, rfl, _⟩ := h
  rfl
theorem sc_next_address : FnScope ["way", "address"] ["way", "address"] (defScope s_next_address) := ⟨rfl, rfl, rfl, by decide +kernel, rfl, by decide +kernel, by decide +kernel⟩
theorem okF_next_address (T : Txt K mg base) {fd : FuncData} (F : FunD K d_next_address.name d_next_address.qual d_next_address.params d_next_address.body d_next_address.scope [] [] (He.fAd K d_next_address.at_) fd) : FnOk P w K mg base CX0 1 (He.ga K "next_address") fd ["way", "address"] (sp_next_address K) := by
  refine F.ok sc_next_address (fun vs H Q E h => len_next_address h) (fun cdv Ar outer s H vs Q E hr h => ?_)
  refine ⟨_, PSs.nox (pss_cons (ps_if (pt_cmpR op_eq (pe_fld (pv 0) rfl) (pe_gi rfl T.c_NOBODY) (nomark _)) (pss_one (ps_ret (pv 1))) pss_nil)
      (pss_one (ps_ret (pe_fld (pv 0) rfl)))), ?_⟩
  obtain ⟨_, S, wy, a, rfl, ⟨p, dx, rfl, _, hp⟩, q⟩ := h
  refine sq_if (b := decide (V.int (wy.2.2 : Int) = V.int 0)) (et_test (ev_op (ev_fld (ev_var rfl) hp T.cl_Way T.n_Way_next_machine F_Way_next_machine) ev_c (rv_eq rfl))) (fun hb H' e => ?_) (fun hb H' e => ?_)
  · refine ret_ev (ev_var rfl) fun H2 e2 => ?_
    have hz : wy.2.2 = 0 := by
      have h1 := of_decide_eq_true hb
      injection h1 with h2
      omega
    have q2 := q H2 (e.trans e2)
    rw [if_pos hz] at q2
    exact q2
  · refine ret_ev (ev_fld (ev_var rfl) (e _ _ hp) T.cl_Way T.n_Way_next_machine F_Way_next_machine) fun H2 e2 => ?_
    have hz : ¬ wy.2.2 = 0 := by
      intro z
      have h1 := of_decide_eq_false hb
      apply h1
      rw [z]
      rfl
    have q2 := q H2 (e.trans e2)
    rw [if_neg hz] at q2
    exact q2
theorem ok_next_address (T : Txt K mg base) : DefOk P w K mg base 1 (He.ga K "next_address") ["way", "address"] (sp_next_address K) := by
  obtain ⟨fd, F⟩ := T.fd_next_address
  exact ⟨fd, okF_next_address T F, F.bindsN fun _ _ _ _ _ _ us hl => match us, hl with | [_, _], _ => rfl, F.kp⟩
def sp_own_way (K : PySem.W.Frag) : Sp := fun vs H Q _ => ∃ (m : Addr) (n : Sv62.Net) (f : Foot) (k : Nat) (l : Sv62.Link), vs = [.ref m, .int (k : Int)] ∧ MachAt K H m n f ∧ k < 4 ∧ n.link k = some l ∧ ∀ z H', Ex H H' → WayV K H' (f.all m) z (l.bits, k, 0) → Q z H'
theorem len_own_way {vs : List V} {H : Hp} {Q : VK} {E : XK} (h : sp_own_way K vs H Q E) : vs.length = 2 := by
  obtain ⟨m, n, f, k, l, rfl, _⟩ := h
  rfl
theorem sc_own_way : FnScope ["machine", "k"] ["machine", "k"] (defScope s_own_way) := ⟨rfl, rfl, rfl, by decide +kernel, rfl, by decide +kernel, by decide +kernel⟩
theorem okF_own_way (T : Txt K mg base) {fd : FuncData} (F : FunD K d_own_way.name d_own_way.qual d_own_way.params d_own_way.body d_own_way.scope [] [] (He.fAd K d_own_way.at_) fd) : FnOk P w K mg base CX0 3 (He.ga K "own_way") fd ["machine", "k"] (sp_own_way K) := by
  obtain ⟨fd_Way__init, G_Way__init, b_Way__init, k_Way__init⟩ := ok_Way__init (P := P) (w := w) (base := base) T
  refine F.ok sc_own_way (fun vs H Q E h => len_own_way h) (fun cdv Ar outer s H vs Q E hr h => ?_)
  refine ⟨_, PSs.nox (pss_one (ps_ret (pe_make T.mk_Way G_Way__init (hr.mono (by decide)) rfl T.g_Way b_Way__init .nil pass0 (pa_cons (pe_fld (pe_ix ix_list (pe_fld (pv 0) rfl) (pv 1) (fun _ _ => rfl)) rfl) (pa_cons (pv 1) (pa_cons (pe_gi rfl T.c_NOBODY) pa_nil)))))), ?_⟩
  obtain ⟨m, n, f, k, l, rfl, M, hk, hl, q⟩ := h
  obtain ⟨dm, om⟩ := M.obj
  obtain ⟨vs, ol, pl⟩ := M.lks
  obtain ⟨v, hv, lv⟩ := pr_get pl (link_at M.good hk)
  rw [hl] at lv
  obtain ⟨p, dx, rfl, _, hp⟩ := lv
  refine ret_en (en_make (ea_cons (ev_fld (ev_op (ev_fld (ev_var rfl) om T.cl_Machine T.n_Machine_links F_Machine_links) (ev_var rfl) (rv_ixL (sq_of ol) (atI_nat hv))) hp T.cl_Link T.n_Link_bits F_Link_bits) (ea_cons (ev_var rfl) (ea_cons ev_c ea_nil))) rfl) fun p2 dx2 H5 np e5 h5 => ?_
  exact q _ H5 e5 ⟨p2, dx2, rfl, M.fresh np, h5⟩
theorem ok_own_way (T : Txt K mg base) : DefOk P w K mg base 3 (He.ga K "own_way") ["machine", "k"] (sp_own_way K) := by
  obtain ⟨fd, F⟩ := T.fd_own_way
  exact ⟨fd, okF_own_way T F, F.bindsN fun _ _ _ _ _ _ us hl => match us, hl with | [_, _], _ => rfl, F.kp⟩
def sp_way_with_bits (K : PySem.W.Frag) : Sp := fun vs H Q _ => ∃ (m : Addr) (n : Sv62.Net) (f : Foot) (a b : Nat), vs = [.ref m, .int (a : Int), .int (b : Int)] ∧ MachAt K H m n f ∧ a < 2 ^ 32 ∧ b ≤ 32 ∧
  ∀ z H', Ex H H' → WayO K H' (f.all m) z (wayAt n a b) → Q z H'
theorem len_way_with_bits {vs : List V} {H : Hp} {Q : VK} {E : XK} (h : sp_way_with_bits K vs H Q E) : vs.length = 3 := by
  obtain ⟨m, n, f, a, b, rfl, _⟩ := h
  rfl
theorem sc_way_with_bits : FnScope ["machine", "address", "bits", "start", "k", "link", "told"] ["machine", "address", "bits"] (defScope s_way_with_bits) := ⟨rfl, rfl, rfl, by decide +kernel, rfl, by decide +kernel, by decide +kernel⟩
theorem okF_way_with_bits (T : Txt K mg base) {fd : FuncData} (F : FunD K d_way_with_bits.name d_way_with_bits.qual d_way_with_bits.params d_way_with_bits.body d_way_with_bits.scope [] [] (He.fAd K d_way_with_bits.at_) fd) : FnOk P w K mg base CX0 4 (He.ga K "way_with_bits") fd ["machine", "address", "bits"] (sp_way_with_bits K) := by
  obtain ⟨fd_first_bits, G_first_bits, b_first_bits, k_first_bits⟩ := ok_first_bits (P := P) (w := w) (base := base) T
  obtain ⟨fd_own_way, G_own_way, b_own_way, k_own_way⟩ := ok_own_way (P := P) (w := w) (base := base) T
  refine F.ok sc_way_with_bits (fun vs H Q E h => len_way_with_bits h) (fun cdv Ar outer s H vs Q E hr h => ?_)
  refine ⟨_, PSs.nox (pss_cons (ps_set (i := 3) sc_way_with_bits.nd rfl (Or.inl rfl) (pe_call G_first_bits (hr.mono (by decide)) rfl T.g_first_bits k_first_bits b_first_bits .nil pass0 (pa_cons (pv 1) (pa_cons (pv 2) pa_nil))))
      (pss_cons (ps_for PassesOwn.never rfl (pi_range1 (by rfl) T.f_range (pa_cons (pe_gi rfl T.c_LINK_COUNT) pa_nil)) (pg_name (i := 4) sc_way_with_bits.nd rfl (Or.inl rfl)) (pss_cons (ps_set (i := 5) sc_way_with_bits.nd rfl (Or.inl rfl) (pe_ix ix_list (pe_fld (pv 0) rfl) (pv 4) (fun _ _ => rfl)))
      (pss_one (ps_if (PW.pt (pw_and (pt_cmpR op_notN (pv 5) pe_non (nomark _)) (pw_and (pt_cmpR op_eq (pe_fld (pv 5) rfl) (pv 2) (nomark _)) (pw_and1 (pt_cmpR op_eq (pe_call G_first_bits (hr.mono (by decide)) rfl T.g_first_bits k_first_bits b_first_bits .nil pass0 (pa_cons (pe_fld (pv 5) rfl) (pa_cons (pv 2) pa_nil))) (pv 3) (nomark _)))))) (pss_one (ps_ret (pe_call G_own_way (hr.mono (by decide)) rfl T.g_own_way k_own_way b_own_way .nil pass0 (pa_cons (pv 0) (pa_cons (pv 4) pa_nil))))) pss_nil))))
      (pss_cons (ps_set (i := 6) sc_way_with_bits.nd rfl (Or.inl rfl) (pe_dget1 (hu_of hr) (pe_fld (pv 0) rfl) (pe_tup (pa_cons (pv 3) (pa_cons (pv 2) pa_nil))) ⟨rfl, rfl, rfl, rfl⟩))
      (pss_cons (ps_if (PW.pt (pw_or (pt_cmpR op_isN (pv 6) pe_non (nomark _)) (pw_or1 (pt_cmpR op_isN (pe_ix ix_list (pe_fld (pv 0) rfl) (pe_fld (pv 6) rfl) (fun _ _ => rfl)) pe_non (nomark _))))) (pss_one (ps_ret pe_non)) pss_nil)
      (pss_one (ps_ret (pv 6))))))), ?_⟩
  obtain ⟨m, n, f, a, b, rfl, M, ha, hb, q⟩ := h
  obtain ⟨dm, om⟩ := M.obj
  obtain ⟨vs, ol, pl⟩ := M.lks
  obtain ⟨kvs, ow, pw⟩ := M.wys
  have G := M.good
  refine sq_set (ev_call (ea_cons (ev_var rfl) (ea_cons (ev_var rfl) ea_nil)) (spZ_v ⟨a, b, rfl, ha, hb, rfl⟩)) fun H1 e1 => ?_
  refine ⟨4, rfl, by decide, by decide, for_range (lo := 0) (n := 4) (fun i σ H' => ∃ v4 v5 : Option V, σ = [some (.ref m), some (.int (a : Int)), some (.int (b : Int)), some (.int (fb a b : Int)), v4, v5, none] ∧ Ex H H' ∧ ∀ k, k < i → linkHit n a b k = false)
    ⟨none, none, rfl, e1, fun k hk => absurd hk (Nat.not_lt_zero k)⟩ ?_ ?_⟩
  · rintro i σ H2 hi ⟨v4, v5, rfl, e2, hn⟩
    obtain ⟨v, hv, lv⟩ := pr_get pl (link_at G hi)
    refine sq_set (ev_op (ev_fld (ev_var rfl) (e2 _ _ om) T.cl_Machine T.n_Machine_links F_Machine_links) (ev_var rfl) (rv_ixL (sq_of (e2 _ _ ol)) (at_of (j := i) (by omega) hv))) fun H3 e3 => ?_
    cases el : n.link i with
    | none =>
      rw [el] at lv
      have ev : v = .non := lv
      subst ev
      refine if_ev (b := false && false) ?_ (fun z => Bool.noConfusion z) fun _ H4 e4 => ?_
      · refine et_and (a := false) ?_ (fun z => Bool.noConfusion z)
        exact et_is (et_test (ev_notN (ev_var rfl))) rfl
      refine ⟨_, _, rfl, (e2.trans e3).trans e4, fun k hk => ?_⟩
      by_cases c : k = i
      · subst c
        unfold linkHit
        rw [el]
      · exact hn k (by omega)
    | some l =>
      rw [el] at lv
      obtain ⟨p, dx, rfl, _, hp⟩ := lv
      have hit : linkHit n a b i = (decide (l.bits = b) && decide (fb l.address b = fb a b)) := by
        unfold linkHit
        rw [el]
      obtain ⟨l1, l2, l3, l4, l5⟩ := G.lok l (link_mem el)
      have hp3 := e3 _ _ (e2 _ _ hp)
      refine if_ev (b := true && (decide (l.bits = b) && decide (fb l.address b = fb a b))) ?_ (fun hit2 H4 e4 => ?_) (fun hit2 H4 e4 => ?_)
      · refine et_and (a := true) (et_is (et_test (ev_notN (ev_var rfl))) rfl) fun _ => ?_
        refine et_and ?_ fun _ => ?_
        · refine et_is (et_test (ev_op (ev_fld (ev_var rfl) hp3 T.cl_Link T.n_Link_bits F_Link_bits) (ev_var rfl) (rv_eq rfl))) ?_
          apply decide_eq_decide.mpr
          rw [V.int.injEq, Int.ofNat_inj]
        · refine et_is (et_test (ev_op (ev_call (ea_cons (ev_fld (ev_var rfl) hp3 T.cl_Link T.n_Link_address F_Link_address) (ea_cons (ev_var rfl) ea_nil)) (spZ_v ⟨l.address, b, rfl, by omega, hb, rfl⟩)) (ev_var rfl) (rv_eq rfl))) ?_
          apply decide_eq_decide.mpr
          rw [V.int.injEq, Int.ofNat_inj]
      · rw [Bool.true_and] at hit2
        have hbits : l.bits = b := by
          rw [Bool.and_eq_true, decide_eq_true_eq] at hit2
          exact hit2.1
        rw [← hit] at hit2
        have ew : wayAt n a b = some (b, i, 0) := by
          unfold wayAt
          rw [find_first hit2 hi hn]
        refine ret_er (er_call (R := fun z H' => WayV K H' (f.all m) z (b, i, 0)) (vs := [.ref m, .int (i : Int)]) (ea_cons (ev_var rfl) (ea_cons (ev_is (ev_var rfl) (by show V.int (0 + (i : Int)) = _; rw [Int.zero_add])) ea_nil)) fun H5 e5 Q2 E2 q2 => ⟨m, n, f, i, l, rfl, M.ex (((e2.trans e3).trans e4).trans e5), hi, el, by rw [hbits]; exact q2⟩) fun z H5 e5 hz => ?_
        refine q _ H5 (((e2.trans e3).trans e4).trans e5) ?_
        rw [ew]
        exact hz
      · rw [Bool.true_and, ← hit] at hit2
        refine ⟨_, _, rfl, (e2.trans e3).trans e4, fun k hk => ?_⟩
        by_cases c : k = i
        · subst c
          exact hit2
        · exact hn k (by omega)
  · rintro σ H2 ⟨v4, v5, rfl, e2, hn⟩
    have nf : (List.range 4).find? (linkHit n a b) = none := by
      rw [List.find?_eq_none]
      intro k hk
      rw [hn k (List.mem_range.mp hk)]
      decide
    have fd := pr_find (x := fb a b) (b := b) pw
    refine sq_set (ev_getT (k := [.inl (fb a b : Int), .inl (b : Int)]) (ev_fld (ev_var rfl) (e2 _ _ om) T.cl_Machine T.n_Machine_ways F_Machine_ways) (eu_tup (ea_cons (ev_var rfl) (ea_cons (ev_var rfl) ea_nil)) (by show 2 ≤ 100000; decide)) (e2 _ _ ow)) fun H3 e3 => ?_
    have e4 := e2.trans e3
    cases q1 : n.ways.find? (fun w => decide (w.address = fb a b) && decide (w.bits = b)) with
    | none =>
      rw [q1] at fd
      have fd2 : valV kvs ([.inl (fb a b : Int), .inl (b : Int)] : List L2.Key) = none := fd
      rw [fd2]
      refine sq_if (b := true || true) ?_ (fun _ H5 e5 => ?_) (fun z => Bool.noConfusion z)
      · exact et_or (a := true) (et_is (et_test (ev_isN (ev_var rfl))) rfl) (fun z => Bool.noConfusion z)
      refine ret_ev ev_c fun H6 e6 => q _ H6 ((e4.trans e5).trans e6) ?_
      unfold wayAt
      rw [nf]
      show WayO K H6 _ .non (match n.ways.find? (keyHit a b) with | some w => _ | none => none)
      rw [show n.ways.find? (keyHit a b) = none from q1]
      rfl
    | some wy =>
      rw [q1] at fd
      obtain ⟨v, fv, p, dx, rfl, np, hp⟩ := fd
      rw [fv]
      have hm := List.mem_of_find?_eq_some q1
      obtain ⟨g1, g2, g3, g4, g5⟩ := G.wok wy hm
      obtain ⟨lv, hlv, hl2⟩ := pr_get pl (link_at G g4)
      have ewa : wayAt n a b = if (n.link wy.link).isSome = true then some (wy.bits, wy.link, wy.next) else none := by
        unfold wayAt
        rw [nf, show n.ways.find? (keyHit a b) = some wy from q1]
      refine sq_if (b := false || decide (lv = .non)) ?_ (fun hz H5 e5 => ?_) (fun hz H5 e5 => ?_)
      · refine et_or (a := false) (et_is (et_test (ev_isN (ev_var rfl))) rfl) fun _ => et_test (ev_isN ?_)
        exact ev_op (ev_fld (ev_var rfl) (e4 _ _ om) T.cl_Machine T.n_Machine_links F_Machine_links) (ev_fld (ev_var rfl) (e4 _ _ hp) T.cl_Way T.n_Way_link F_Way_link) (rv_ixL (sq_of (e4 _ _ ol)) (atI_nat hlv))
      · rw [Bool.false_or, decide_eq_true_iff] at hz
        refine ret_ev ev_c fun H6 e6 => q _ H6 ((e4.trans e5).trans e6) ?_
        rw [ewa]
        cases el : n.link wy.link with
        | none => rfl
        | some l =>
          rw [el, hz] at hl2
          obtain ⟨_, _, z, _⟩ := hl2
          cases z
      · rw [Bool.false_or, decide_eq_false_iff_not] at hz
        refine ret_ev (ev_var rfl) fun H6 e6 => q _ H6 ((e4.trans e5).trans e6) ?_
        rw [ewa]
        cases el : n.link wy.link with
        | none =>
          rw [el] at hl2
          exact absurd hl2 hz
        | some l => exact ⟨p, dx, rfl, np, ((e4.trans e5).trans e6) _ _ hp⟩
theorem ok_way_with_bits (T : Txt K mg base) : DefOk P w K mg base 4 (He.ga K "way_with_bits") ["machine", "address", "bits"] (sp_way_with_bits K) := by
  obtain ⟨fd, F⟩ := T.fd_way_with_bits
  exact ⟨fd, okF_way_with_bits T F, F.bindsN fun _ _ _ _ _ _ us hl => match us, hl with | [_, _, _], _ => rfl, F.kp⟩
theorem search_step (g : Nat → Option Way3) (k o : Nat) (h : g (32 - o) = none) : searchFrom g (k + 1) o = searchFrom g k (o + 1) := by
  show (match g (32 - o) with | some w => some w | none => searchFrom g k (o + 1)) = _
  rw [h]
theorem search_hit (g : Nat → Option Way3) (k o : Nat) {w : Way3} (h : g (32 - o) = some w) : searchFrom g (k + 1) o = some w := by
  show (match g (32 - o) with | some w => some w | none => searchFrom g k (o + 1)) = _
  rw [h]
theorem wb_r {H : Hp} {m : Addr} {n : Sv62.Net} {f : Foot} {a b : Nat} (M : MachAt K H m n f) (ha : a < 2 ^ 32) (hb : b ≤ 32) : ∀ H1, Ex H H1 → ∀ (Q : VK) (E : XK), (∀ z H2, Ex H1 H2 → WayO K H2 (f.all m) z (wayAt n a b) → Q z H2) → sp_way_with_bits K [.ref m, .int (a : Int), .int (b : Int)] H1 Q E :=
  fun H1 e Q E q => ⟨m, n, f, a, b, rfl, M.ex e, ha, hb, q⟩
def sp_way_to (K : PySem.W.Frag) : Sp := fun vs H Q _ => ∃ (m : Addr) (n : Sv62.Net) (f : Foot) (a : Nat), vs = [.ref m, .int (a : Int)] ∧ MachAt K H m n f ∧ a < 2 ^ 32 ∧
  ∀ z H', Ex H H' → WayO K H' (f.all m) z ((n.best a).map three) → Q z H'
theorem len_way_to {vs : List V} {H : Hp} {Q : VK} {E : XK} (h : sp_way_to K vs H Q E) : vs.length = 2 := by
  obtain ⟨m, n, f, a, rfl, _⟩ := h
  rfl
theorem wt_r {H : Hp} {m : Addr} {n : Sv62.Net} {f : Foot} {a : Nat} (M : MachAt K H m n f) (ha : a < 2 ^ 32) : ∀ H1, Ex H H1 → ∀ (Q : VK) (E : XK), (∀ z H2, Ex H1 H2 → WayO K H2 (f.all m) z ((n.best a).map three) → Q z H2) → sp_way_to K [.ref m, .int (a : Int)] H1 Q E :=
  fun H1 e Q E q => ⟨m, n, f, a, rfl, M.ex e, ha, q⟩
theorem sc_way_to : FnScope ["machine", "address", "others", "way"] ["machine", "address"] (defScope s_way_to) := ⟨rfl, rfl, rfl, by decide +kernel, rfl, by decide +kernel, by decide +kernel⟩
theorem okF_way_to (T : Txt K mg base) {fd : FuncData} (F : FunD K d_way_to.name d_way_to.qual d_way_to.params d_way_to.body d_way_to.scope [] [] (He.fAd K d_way_to.at_) fd) : FnOk P w K mg base CX0 5 (He.ga K "way_to") fd ["machine", "address"] (sp_way_to K) := by
  obtain ⟨fd_way_with_bits, G_way_with_bits, b_way_with_bits, k_way_with_bits⟩ := ok_way_with_bits (P := P) (w := w) (base := base) T
  refine F.ok sc_way_to (fun vs H Q E h => len_way_to h) (fun cdv Ar outer s H vs Q E hr h => ?_)
  refine ⟨_, PSs.nox (pss_cons (ps_for PassesOwn.never rfl (pi_range1 (by rfl) T.f_range (pa_cons (pe_op op_add (pe_gi rfl T.c_ADDRESS_BITS) pe_int) pa_nil)) (pg_name (i := 2) sc_way_to.nd rfl (Or.inl rfl)) (pss_cons (ps_set (i := 3) sc_way_to.nd rfl (Or.inl rfl) (pe_call G_way_with_bits (hr.mono (by decide)) rfl T.g_way_with_bits k_way_with_bits b_way_with_bits .nil pass0 (pa_cons (pv 0) (pa_cons (pv 1) (pa_cons (pe_op op_sub (pe_gi rfl T.c_ADDRESS_BITS) (pv 2)) pa_nil)))))
      (pss_one (ps_if (pt_cmpR op_notN (pv 3) pe_non (nomark _)) (pss_one (ps_ret (pv 3))) pss_nil))))
      (pss_one (ps_ret pe_non))), ?_⟩
  obtain ⟨m, n, f, a, rfl, M, ha, q⟩ := h
  refine ⟨_, _, rfl, rfl, 33, rfl, by decide, by decide, for_range (lo := 0) (n := 33) (fun i σ H' => ∃ v2 v3 : Option V, σ = [some (.ref m), some (.int (a : Int)), v2, v3] ∧ Ex H H' ∧ (n.best a).map three = searchFrom (wayAt n a) (33 - i) i)
    ⟨none, none, rfl, Ex.refl H, best_search M.good a⟩ ?_ ?_⟩
  · rintro i σ H2 hi ⟨v2, v3, rfl, e2, hs⟩
    have e33 : 33 - i = (33 - (i + 1)) + 1 := by omega
    rw [e33] at hs
    refine sq_setR (er_call (vs := [.ref m, .int (a : Int), .int ((32 - i : Nat) : Int)]) (ea_cons (ev_var rfl) (ea_cons (ev_var rfl) (ea_cons (ev_is (ev_op ev_c (ev_var rfl) rv_I0) ?_) ea_nil))) (wb_r (M.ex e2) ha (by omega))) fun z H3 e3 hz => ?_
    · show V.int ((32 : Int) - (0 + (i : Int))) = V.int ((32 - i : Nat) : Int)
      congr 1
      omega
    cases ew : wayAt n a (32 - i) with
    | none =>
      rw [ew] at hz
      have z0 : z = .non := hz
      subst z0
      refine if_ev (b := false) (et_is (et_test (ev_notN (ev_var rfl))) rfl) (fun z => Bool.noConfusion z) fun _ H4 e4 => ?_
      refine ⟨_, _, rfl, (e2.trans e3).trans e4, ?_⟩
      rw [hs, search_step _ _ _ ew]
    | some wy =>
      rw [ew] at hz
      have hz' := hz
      obtain ⟨p, dx, rfl, np, hp⟩ := hz
      refine if_ev (b := true) (et_is (et_test (ev_notN (ev_var rfl))) rfl) (fun _ H4 e4 => ?_) (fun z => Bool.noConfusion z)
      refine ret_ev (ev_var rfl) fun H5 e5 => q _ H5 (((e2.trans e3).trans e4).trans e5) ?_
      rw [hs, search_hit _ _ _ ew]
      exact ⟨p, dx, rfl, np, (e4.trans e5) _ _ hp⟩
  · rintro σ H2 ⟨v2, v3, rfl, e2, hs⟩
    refine q .non H2 e2 ?_
    rw [hs]
    rfl
theorem ok_way_to (T : Txt K mg base) : DefOk P w K mg base 5 (He.ga K "way_to") ["machine", "address"] (sp_way_to K) := by
  obtain ⟨fd, F⟩ := T.fd_way_to
  exact ⟨fd, okF_way_to T F, F.bindsN fun _ _ _ _ _ _ us hl => match us, hl with | [_, _], _ => rfl, F.kp⟩
/-! ### how much fits -/
def sp_fits_by (K : PySem.W.Frag) : Sp := fun vs H Q _ => ∃ (m : Addr) (n : Sv62.Net) (f : Foot) (v : V) (S : List Addr) (w : Way3) (l : Sv62.Link), vs = [.ref m, v] ∧ MachAt K H m n f ∧ WayV K H S v w ∧ w.2.1 < 4 ∧ n.link w.2.1 = some l ∧ RetV (.int (l.fits : Int)) H Q
theorem len_fits_by {vs : List V} {H : Hp} {Q : VK} {E : XK} (h : sp_fits_by K vs H Q E) : vs.length = 2 := by
  obtain ⟨m, n, f, v, S, w, l, rfl, _⟩ := h
  rfl
theorem WayV.ex {H H' : Hp} {S : List Addr} (e : Ex H H') {v : V} {w : Way3} (h : WayV K H S v w) : WayV K H' S v w := h.keep (.of_ex e) same_sub
theorem sc_fits_by : FnScope ["machine", "way"] ["machine", "way"] (defScope s_fits_by) := ⟨rfl, rfl, rfl, by decide +kernel, rfl, by decide +kernel, by decide +kernel⟩
theorem okF_fits_by (T : Txt K mg base) {fd : FuncData} (F : FunD K d_fits_by.name d_fits_by.qual d_fits_by.params d_fits_by.body d_fits_by.scope [] [] (He.fAd K d_fits_by.at_) fd) : FnOk P w K mg base CX0 1 (He.ga K "fits_by") fd ["machine", "way"] (sp_fits_by K) := by
  refine F.ok sc_fits_by (fun vs H Q E h => len_fits_by h) (fun cdv Ar outer s H vs Q E hr h => ?_)
  refine ⟨_, PSs.nox (pss_one (ps_ret (pe_fld (pe_ix ix_list (pe_fld (pv 0) rfl) (pe_fld (pv 1) rfl) (fun _ _ => rfl)) rfl))), ?_⟩
  obtain ⟨m, n, f, _, S, w3, l, rfl, M, ⟨p, dx, rfl, _, hp⟩, hw, hl, q⟩ := h
  obtain ⟨dm, om⟩ := M.obj
  obtain ⟨vs, ol, pl⟩ := M.lks
  obtain ⟨v, hv, lv⟩ := pr_get pl (link_at M.good hw)
  rw [hl] at lv
  obtain ⟨p2, dx2, rfl, _, hp2⟩ := lv
  exact ret_ev (ev_fld (ev_op (ev_fld (ev_var rfl) om T.cl_Machine T.n_Machine_links F_Machine_links) (ev_fld (ev_var rfl) hp T.cl_Way T.n_Way_link F_Way_link) (rv_ixL (sq_of ol) (atI_nat hv))) hp2 T.cl_Link T.n_Link_fits F_Link_fits) q
theorem ok_fits_by (T : Txt K mg base) : DefOk P w K mg base 1 (He.ga K "fits_by") ["machine", "way"] (sp_fits_by K) := by
  obtain ⟨fd, F⟩ := T.fd_fits_by
  exact ⟨fd, okF_fits_by T F, F.bindsN fun _ _ _ _ _ _ us hl => match us, hl with | [_, _], _ => rfl, F.kp⟩
theorem fb_V {H : Hp} {m : Addr} {n : Sv62.Net} {f : Foot} {v : V} {S : List Addr} {w : Way3} {l : Sv62.Link} (M : MachAt K H m n f) (W : WayV K H S v w) (h4 : w.2.1 < 4) (hl : n.link w.2.1 = some l) : SpV (sp_fits_by K) [.ref m, v] H (.int (l.fits : Int)) :=
  fun H1 e Q q _ => ⟨m, n, f, v, S, w, l, rfl, M.ex e, W.ex e, h4, hl, q⟩
def sp_is_stuck (K : PySem.W.Frag) : Sp := fun vs H Q _ => ∃ (m : Addr) (n : Sv62.Net) (f : Foot) (v : V) (S : List Addr) (w : Way3) (l : Sv62.Link) (p : Addr) (h : Hd) (a b : Bool), vs = [.ref m, v, .ref p] ∧ MachAt K H m n f ∧ WayV K H S v w ∧ w.2.1 < 4 ∧ n.link w.2.1 = some l ∧ HeadAt K H p h ∧ h.flags = a.toNat + 2 * b.toNat ∧ RetV (.bl (b && decide (l.fits < h.length))) H Q
theorem len_is_stuck {vs : List V} {H : Hp} {Q : VK} {E : XK} (h : sp_is_stuck K vs H Q E) : vs.length = 3 := by
  obtain ⟨m, n, f, v, S, w, l, p, h, a, b, rfl, _⟩ := h
  rfl
theorem sc_is_stuck : FnScope ["machine", "way", "head"] ["machine", "way", "head"] (defScope s_is_stuck) := ⟨rfl, rfl, rfl, by decide +kernel, rfl, by decide +kernel, by decide +kernel⟩
theorem okF_is_stuck (T : Txt K mg base) {fd : FuncData} (F : FunD K d_is_stuck.name d_is_stuck.qual d_is_stuck.params d_is_stuck.body d_is_stuck.scope [] [] (He.fAd K d_is_stuck.at_) fd) : FnOk P w K mg base CX0 2 (He.ga K "is_stuck") fd ["machine", "way", "head"] (sp_is_stuck K) := by
  obtain ⟨fd_fits_by, G_fits_by, b_fits_by, k_fits_by⟩ := ok_fits_by (P := P) (w := w) (base := base) T
  obtain ⟨fd_is_uncut, G_is_uncut, b_is_uncut, k_is_uncut⟩ := ok_is_uncut (P := P) (w := w) (base := base) T
  refine F.ok sc_is_stuck (fun vs H Q E h => len_is_stuck h) (fun cdv Ar outer s H vs Q E hr h => ?_)
  refine ⟨_, PSs.nox (pss_one (ps_ret (pe_and (pe_call G_is_uncut (hr.mono (by decide)) rfl T.g_is_uncut k_is_uncut b_is_uncut .nil pass0 (pa_cons (pv 2) pa_nil)) (pe_one (pe_cmpR op_gt (pe_fld (pv 2) rfl) (pe_call G_fits_by (hr.mono (by decide)) rfl T.g_fits_by k_fits_by b_fits_by .nil pass0 (pa_cons (pv 0) (pa_cons (pv 1) pa_nil))) (nomark _)))))), ?_⟩
  obtain ⟨m, n, f, v, S, w3, l, p, hd, a, b, rfl, M, W, hw, hl, ha, hf, q⟩ := h
  refine ret_ev (ev_is (ev_andV (ev_call (ea_cons (ev_var rfl) ea_nil) (fun H1 e Q q _ => ⟨p, hd, a, b, rfl, ha.ex e, hf, q⟩)) fun _ => ev_op (fl_length T rfl ha) (ev_call (ea_cons (ev_var rfl) (ea_cons (ev_var rfl) ea_nil)) (fb_V M W hw hl)) rv_I0) ?_) q
  congr 2
  apply decide_eq_decide.mpr
  omega
theorem ok_is_stuck (T : Txt K mg base) : DefOk P w K mg base 2 (He.ga K "is_stuck") ["machine", "way", "head"] (sp_is_stuck K) := by
  obtain ⟨fd, F⟩ := T.fd_is_stuck
  exact ⟨fd, okF_is_stuck T F, F.bindsN fun _ _ _ _ _ _ us hl => match us, hl with | [_, _, _], _ => rfl, F.kp⟩
end
end Lp
set_option maxHeartbeats 400000000
namespace Lp
open PySem PySem.Spec PyProof.Rows L2 Evl
def HdSm (h : Hd) : Prop := h.hops < 256 ∧ h.what < 256 ∧ h.flags < 256
theorem flag_lt (a b : Bool) : a.toNat + 2 * b.toNat < 256 := by cases a <;> cases b <;> decide
theorem flag_or (a b : Bool) : Builtin.bitOr ((a.toNat + 2 * b.toNat : Nat) : Int) 1 = ((true.toNat + 2 * b.toNat : Nat) : Int) := by cases a <;> cases b <;> decide
theorem line_le {n : Nat} (h : n ≤ 16000000) : n ≤ sizeLine := by
  rw [sizeLine_eq]
  omega
/-- xs.extend(new list) -/
theorem s_ext {K : PySem.W.Frag} {ta te : TE} {D : Ends} {σ : L2.St} {H : Hp} {l : Addr} {xs ys : List V} (hl : H l = some (.lst xs)) (ha : Ev ta σ H (.ref l)) (h : EvS te σ H ys) (hz : xs.length + ys.length ≤ sizeLine) (k : ∀ H1, Ex H H1 → D.nx σ (upd H1 l (.lst (xs ++ ys)))) :
    tDrop (tBM K "list" rExtend ta (tCons te tNil)) D σ H := ha H (Ex.refl H) _ fun H1 e1 =>
  ⟨Or.inl ⟨rfl, xs, sq_of (e1 l _ hl)⟩, h H1 e1 _ fun p H2 e2 h2 => ⟨l, p, xs, ys, rfl, rfl, e2 l _ (e1 l _ hl), h2, hz, k H2 (e1.trans e2)⟩⟩
theorem q_ext {K : PySem.W.Frag} {ta te : TE} {u : TS} {D : Ends} {σ : L2.St} {H : Hp} {l : Addr} {xs ys : List V} (hl : H l = some (.lst xs)) (ha : Ev ta σ H (.ref l)) (h : EvS te σ H ys) (hz : xs.length + ys.length ≤ sizeLine) (k : ∀ H1, Ex H H1 → u D σ (upd H1 l (.lst (xs ++ ys)))) :
    tSeq (tDrop (tBM K "list" rExtend ta (tCons te tNil))) u D σ H := s_ext (D := { D with nx := u D }) hl ha h hz k
section
variable {P : Program} {w : World} {K : PySem.W.Frag} {mg : Str → Option Value} {base : Heap}
theorem hb_L {H : Hp} {p : Addr} {h : Hd} (x : HeadAt K H p h) (s : HdSm h) : SpL (sp_head_bytes K) [.ref p] H (bv h.bytes) := fun H1 e Q q _ => ⟨p, h, rfl, x.ex e, s.1, s.2.1, s.2.2, q⟩
def sp_told_upward (K : PySem.W.Frag) : Sp := fun vs H Q _ => ∃ (k : Nat) (p : Addr) (h : Hd) (d : Addr) (b : Sv62.Bytes), vs = [.int (k : Int), .ref p, .ref d] ∧ HeadAt K H p h ∧ HdSm h ∧ H d = some (.lst (bv b)) ∧ b.length ≤ 70000 ∧ RetL ((Sv62Neutral.wanted (.up k h.bytes b)).map V.int) H Q
theorem len_told_upward {vs : List V} {H : Hp} {Q : VK} {E : XK} (h : sp_told_upward K vs H Q E) : vs.length = 3 := by
  obtain ⟨k, p, h, d, b, rfl, _⟩ := h
  rfl
theorem sc_told_upward : FnScope ["link", "head", "body"] ["link", "head", "body"] (defScope s_told_upward) := ⟨rfl, rfl, rfl, by decide +kernel, rfl, by decide +kernel, by decide +kernel⟩
theorem okF_told_upward (T : Txt K mg base) {fd : FuncData} (F : FunD K d_told_upward.name d_told_upward.qual d_told_upward.params d_told_upward.body d_told_upward.scope [] [] (He.fAd K d_told_upward.at_) fd) : FnOk P w K mg base CX0 3 (He.ga K "told_upward") fd ["link", "head", "body"] (sp_told_upward K) := by
  obtain ⟨fd_head_bytes, G_head_bytes, b_head_bytes, k_head_bytes⟩ := ok_head_bytes (P := P) (w := w) (base := base) T
  refine F.ok sc_told_upward (fun vs H Q E h => len_told_upward h) (fun cdv Ar outer s H vs Q E hr h => ?_)
  refine ⟨_, PSs.nox (pss_one (ps_ret (pe_op op_cat (pe_op op_cat (pe_op op_cat (pe_lst (pa_cons (pe_gi rfl T.c_UPWARD) (pa_cons (pv 0) pa_nil))) (pe_call G_head_bytes (hr.mono (by decide)) rfl T.g_head_bytes k_head_bytes b_head_bytes .nil pass0 (pa_cons (pv 1) pa_nil))) (pe_lst (pa_cons (pe_callB call_len_seq (by rfl) T.f_len PySem.boot_len (pa_cons (pv 2) pa_nil)) pa_nil))) (pv 2)))), ?_⟩
  obtain ⟨k, p, hd, d, b, rfl, ha, hs, hb, hl, q⟩ := h
  have z := el_cat (es_el (el_cat (es_el (el_cat (es_el (el_lst (H := H) (σ := [some (.int (k : Int)), some (.ref p), some (.ref d)]) (ea_cons (ev_c (v := V.int 0)) (ea_cons (ev_var (i := 0) rfl) ea_nil)) (by show 2 ≤ 100000; decide))) (es_el (el_call (E := E0) (ea_cons (ev_var (i := 1) rfl) ea_nil) (hb_L ha hs))) (by rw [bv_len, bytes_len]; show 2 + 20 ≤ sizeLine; decide)))
    (es_el (el_lst (ea_cons (ev_len (K := K) (ev_var (i := 2) rfl) (sq_of hb)) ea_nil) (by show 1 ≤ 100000; decide))) (by rw [List.length_append, bv_len, bytes_len]; show 2 + 20 + 1 ≤ sizeLine; decide))) (es_at (ev_var (i := 2) rfl) hb) (by rw [List.length_append, List.length_append, bv_len, bv_len, bytes_len]; exact line_le (by show 2 + 20 + 1 + b.length ≤ _; omega))
  refine ret_el z fun p2 H2 np e2 h2 => q p2 H2 np e2 ?_
  rw [h2]
  show _ = some (HO.lst ((0 :: (k : Int) :: (Sv62Neutral.ofOctets hd.bytes ++ ((b.length : Int) :: Sv62Neutral.ofOctets b))).map V.int))
  simp only [List.map_cons, List.map_append, ← bv_off, bv_len, List.append_assoc]
  rfl
theorem ok_told_upward (T : Txt K mg base) : DefOk P w K mg base 3 (He.ga K "told_upward") ["link", "head", "body"] (sp_told_upward K) := by
  obtain ⟨fd, F⟩ := T.fd_told_upward
  exact ⟨fd, okF_told_upward T F, F.bindsN fun _ _ _ _ _ _ us hl => match us, hl with | [_, _, _], _ => rfl, F.kp⟩
theorem tu_L {H : Hp} {k : Nat} {p d : Addr} {h : Hd} {b : Sv62.Bytes} (x : HeadAt K H p h) (s : HdSm h) (hd : H d = some (.lst (bv b))) (hl : b.length ≤ 70000) : SpL (sp_told_upward K) [.int (k : Int), .ref p, .ref d] H ((Sv62Neutral.wanted (.up k h.bytes b)).map V.int) := fun H1 e Q q _ => ⟨k, p, h, d, b, rfl, x.ex e, s, e _ _ hd, hl, q⟩
def sp_told_sent (K : PySem.W.Frag) : Sp := fun vs H Q _ => ∃ (k x : Nat) (d : Addr) (b : Sv62.Bytes), vs = [.int (k : Int), .int (x : Int), .ref d] ∧ H d = some (.lst (bv b)) ∧ b.length ≤ 70000 ∧ RetL ((Sv62Neutral.wanted (.out k x b)).map V.int) H Q
theorem len_told_sent {vs : List V} {H : Hp} {Q : VK} {E : XK} (h : sp_told_sent K vs H Q E) : vs.length = 3 := by
  obtain ⟨k, x, d, b, rfl, _⟩ := h
  rfl
theorem sc_told_sent : FnScope ["link", "address", "packet"] ["link", "address", "packet"] (defScope s_told_sent) := ⟨rfl, rfl, rfl, by decide +kernel, rfl, by decide +kernel, by decide +kernel⟩
theorem okF_told_sent (T : Txt K mg base) {fd : FuncData} (F : FunD K d_told_sent.name d_told_sent.qual d_told_sent.params d_told_sent.body d_told_sent.scope [] [] (He.fAd K d_told_sent.at_) fd) : FnOk P w K mg base CX0 1 (He.ga K "told_sent") fd ["link", "address", "packet"] (sp_told_sent K) := by
  refine F.ok sc_told_sent (fun vs H Q E h => len_told_sent h) (fun cdv Ar outer s H vs Q E hr h => ?_)
  refine ⟨_, PSs.nox (pss_one (ps_ret (pe_op op_cat (pe_lst (pa_cons (pe_gi rfl T.c_SENT) (pa_cons (pv 0) (pa_cons (pv 1) (pa_cons (pe_callB call_len_seq (by rfl) T.f_len PySem.boot_len (pa_cons (pv 2) pa_nil)) pa_nil))))) (pv 2)))), ?_⟩
  obtain ⟨k, x, d, b, rfl, hb, hl, q⟩ := h
  have z := el_cat (es_el (el_lst (H := H) (σ := [some (.int (k : Int)), some (.int (x : Int)), some (.ref d)]) (ea_cons (ev_c (v := V.int 1)) (ea_cons (ev_var (i := 0) rfl) (ea_cons (ev_var (i := 1) rfl) (ea_cons (ev_len (K := K) (ev_var (i := 2) rfl) (sq_of hb)) ea_nil)))) (by show 4 ≤ 100000; decide))) (es_at (ev_var (i := 2) rfl) hb) (by rw [bv_len]; exact line_le (by show 4 + b.length ≤ _; omega))
  refine ret_el z fun p2 H2 np e2 h2 => q p2 H2 np e2 ?_
  rw [h2]
  show _ = some (HO.lst ((1 :: (k : Int) :: (x : Int) :: ((b.length : Int) :: Sv62Neutral.ofOctets b)).map V.int))
  simp only [List.map_cons, ← bv_off, bv_len]
  rfl
theorem ok_told_sent (T : Txt K mg base) : DefOk P w K mg base 1 (He.ga K "told_sent") ["link", "address", "packet"] (sp_told_sent K) := by
  obtain ⟨fd, F⟩ := T.fd_told_sent
  exact ⟨fd, okF_told_sent T F, F.bindsN fun _ _ _ _ _ _ us hl => match us, hl with | [_, _, _], _ => rfl, F.kp⟩
/-! ### cutting -/
def sp_piece_bytes (K : PySem.W.Frag) : Sp := fun vs H Q _ => ∃ (p : Addr) (h : Hd) (fl at_ : Nat) (d : Addr) (b : Sv62.Bytes), vs = [.ref p, .int (fl : Int), .int (at_ : Int), .ref d] ∧ HeadAt K H p h ∧ h.hops < 256 ∧ h.what < 256 ∧ fl < 256 ∧ H d = some (.lst (bv b)) ∧ b.length ≤ 70000 ∧
  RetL (bv ((⟨h.hops, h.what, fl, 20 + b.length, h.name, h.place + at_ / 8, h.sender, h.to⟩ : Hd).bytes ++ b)) H Q
theorem len_piece_bytes {vs : List V} {H : Hp} {Q : VK} {E : XK} (h : sp_piece_bytes K vs H Q E) : vs.length = 4 := by
  obtain ⟨p, h, fl, at_, d, b, rfl, _⟩ := h
  rfl
theorem sc_piece_bytes : FnScope ["head", "flags", "at", "part", "place", "piece"] ["head", "flags", "at", "part"] (defScope s_piece_bytes) := ⟨rfl, rfl, rfl, by decide +kernel, rfl, by decide +kernel, by decide +kernel⟩
theorem okF_piece_bytes (T : Txt K mg base) {fd : FuncData} (F : FunD K d_piece_bytes.name d_piece_bytes.qual d_piece_bytes.params d_piece_bytes.body d_piece_bytes.scope [] [] (He.fAd K d_piece_bytes.at_) fd) : FnOk P w K mg base CX0 3 (He.ga K "piece_bytes") fd ["head", "flags", "at", "part"] (sp_piece_bytes K) := by
  obtain ⟨fd_head_bytes, G_head_bytes, b_head_bytes, k_head_bytes⟩ := ok_head_bytes (P := P) (w := w) (base := base) T
  obtain ⟨fd_Head__init, G_Head__init, b_Head__init, k_Head__init⟩ := ok_Head__init (P := P) (w := w) (base := base) T
  refine F.ok sc_piece_bytes (fun vs H Q E h => len_piece_bytes h) (fun cdv Ar outer s H vs Q E hr h => ?_)
  refine ⟨_, PSs.nox (pss_cons (ps_set (i := 4) sc_piece_bytes.nd rfl (Or.inl rfl) (pe_op op_add (pe_fld (pv 0) rfl) (pe_op op_fdiv (pv 2) pe_int)))
      (pss_cons (ps_set (i := 5) sc_piece_bytes.nd rfl (Or.inl rfl) (pe_make T.mk_Head G_Head__init (hr.mono (by decide)) rfl T.g_Head b_Head__init .nil pass0 (pa_cons (pe_fld (pv 0) rfl) (pa_cons (pe_fld (pv 0) rfl) (pa_cons (pv 1) (pa_cons (pe_op op_add (pe_gi rfl T.c_HEAD_LENGTH) (pe_callB call_len_seq (by rfl) T.f_len PySem.boot_len (pa_cons (pv 3) pa_nil))) (pa_cons (pe_fld (pv 0) rfl) (pa_cons (pv 4) (pa_cons (pe_fld (pv 0) rfl) (pa_cons (pe_fld (pv 0) rfl) pa_nil))))))))))
      (pss_one (ps_ret (pe_op op_cat (pe_call G_head_bytes (hr.mono (by decide)) rfl T.g_head_bytes k_head_bytes b_head_bytes .nil pass0 (pa_cons (pv 5) pa_nil)) (pv 3)))))), ?_⟩
  obtain ⟨p, hd, fl, at_, d, b, rfl, ha, h1, h2, h3, hb, hl, q⟩ := h
  refine sq_set (v := .int ((hd.place + at_ / 8 : Nat) : Int)) (ev_is (ev_op (fl_place T rfl ha) (ev_op (ev_var rfl) ev_c (rv_I ⟨by decide, by decide⟩)) rv_I0) ?_) fun H1 e1 => ?_
  · show V.int ((hd.place : Int) + (at_ : Int) / 8) = _
    congr 1
  have ha1 := ha.ex e1
  have hb1 := e1 _ _ hb
  refine sq_setEN (en_make (ws := [.int (hd.hops : Int), .int (hd.what : Int), .int (fl : Int), .int ((20 + b.length : Nat) : Int), .int (hd.name : Int), .int ((hd.place + at_ / 8 : Nat) : Int), .int (hd.sender : Int), .int (hd.to : Int)]) (ea_cons (fl_hops T rfl ha1) (ea_cons (fl_what T rfl ha1) (ea_cons (ev_var rfl) (ea_cons (ev_is (ev_op ev_c (ev_len (K := K) (ev_var rfl) (sq_of hb1)) rv_I0) ?_) (ea_cons (fl_name T rfl ha1) (ea_cons (ev_var rfl) (ea_cons (fl_sender T rfl ha1) (ea_cons (fl_to T rfl ha1) ea_nil)))))))) rfl) fun a dx H2 na e2 k2 => ?_
  · rw [bv_len]
    show V.int ((20 : Int) + (b.length : Int)) = _
    congr 1
  have hA : HeadAt K H2 a (⟨hd.hops, hd.what, fl, 20 + b.length, hd.name, hd.place + at_ / 8, hd.sender, hd.to⟩ : Hd) := ⟨dx, k2⟩
  have z := el_cat (es_el (el_call (E := E0) (ea_cons (ev_var (σ := [some (.ref p), some (.int (fl : Int)), some (.int (at_ : Int)), some (.ref d), some (.int ((hd.place + at_ / 8 : Nat) : Int)), some (.ref a)]) (i := 5) rfl) ea_nil) (hb_L hA ⟨h1, h2, h3⟩))) (es_at (ev_var (i := 3) rfl) (e2 _ _ hb1)) (by rw [bv_len, bv_len, bytes_len]; exact line_le (by omega))
  rw [← bv_app] at z
  exact ret_el z fun p2 H3 np e3 k3 => q.go (e1.trans e2) np e3 k3
theorem ok_piece_bytes (T : Txt K mg base) : DefOk P w K mg base 3 (He.ga K "piece_bytes") ["head", "flags", "at", "part"] (sp_piece_bytes K) := by
  obtain ⟨fd, F⟩ := T.fd_piece_bytes
  exact ⟨fd, okF_piece_bytes T F, F.bindsN fun _ _ _ _ _ _ us hl => match us, hl with | [_, _, _, _], _ => rfl, F.kp⟩
def ListAt (H : Hp) (v : V) (x : Sv62.Packet) : Prop := ∃ c, v = .ref c ∧ H c = some (.lst (bv x.bytes))
def sp_cut (K : PySem.W.Frag) : Sp := fun vs H Q _ => ∃ (a : Addr) (p : Sv62.Packet) (n0 : Nat) (d : Addr) (fi : Nat), vs = [.ref a, .ref d, .int (fi : Int)] ∧ HeadAt K H a (hdOf p n0) ∧ H d = some (.lst (bv p.body)) ∧ p.hops < 256 ∧ p.what < 256 ∧ p.body.length ≤ 70000 ∧ 68 ≤ fi ∧ fi ≤ 1500 ∧
  ∀ q vs' H', H q = none → Ex H H' → H' q = some (.lst vs') → Paired (ListAt H') vs' (Sv62.pieces fi p) → Q (.ref q) H'
theorem len_cut {vs : List V} {H : Hp} {Q : VK} {E : XK} (h : sp_cut K vs H Q E) : vs.length = 3 := by
  obtain ⟨a, p, n0, d, fi, rfl, _⟩ := h
  rfl
theorem ListAt.keep {H H' : Hp} {v : V} {x : Sv62.Packet} {q : Addr} (h : ListAt H v x) (e : ∀ b o, H b = some o → b ≠ q → H' b = some o) (hn : v ≠ .ref q) : ListAt H' v x := by
  obtain ⟨c, rfl, hc⟩ := h
  exact ⟨c, rfl, e _ _ hc fun z => hn (by rw [z])⟩
theorem pb_L {H : Hp} {a d : Addr} {h : Hd} {fl at_ : Nat} {b : Sv62.Bytes} (x : HeadAt K H a h) (h1 : h.hops < 256) (h2 : h.what < 256) (h3 : fl < 256) (hb : H d = some (.lst (bv b))) (hl : b.length ≤ 70000) :
    SpL (sp_piece_bytes K) [.ref a, .int (fl : Int), .int (at_ : Int), .ref d] H (bv ((⟨h.hops, h.what, fl, 20 + b.length, h.name, h.place + at_ / 8, h.sender, h.to⟩ : Hd).bytes ++ b)) := fun H1 e Q q _ => ⟨a, h, fl, at_, d, b, rfl, x.ex e, h1, h2, h3, e _ _ hb, hl, q⟩
theorem sc_cut : FnScope ["head", "body", "fits", "most", "pieces", "at"] ["head", "body", "fits"] (defScope s_cut) := ⟨rfl, rfl, rfl, by decide +kernel, rfl, by decide +kernel, by decide +kernel⟩
theorem okF_cut (T : Txt K mg base) {fd : FuncData} (F : FunD K d_cut.name d_cut.qual d_cut.params d_cut.body d_cut.scope [] [] (He.fAd K d_cut.at_) fd) : FnOk P w K mg base CX0 4 (He.ga K "cut") fd ["head", "body", "fits"] (sp_cut K) := by
  obtain ⟨fd_piece_bytes, G_piece_bytes, b_piece_bytes, k_piece_bytes⟩ := ok_piece_bytes (P := P) (w := w) (base := base) T
  refine F.ok sc_cut (fun vs H Q E h => len_cut h) (fun cdv Ar outer s H vs Q E hr h => ?_)
  refine ⟨_, PSs.nox (pss_cons (ps_set (i := 3) sc_cut.nd rfl (Or.inl rfl) (pe_op op_mul (pe_op op_fdiv (pe_op op_sub (pv 2) (pe_gi rfl T.c_HEAD_LENGTH)) pe_int) pe_int))
      (pss_cons (ps_set (i := 4) sc_cut.nd rfl (Or.inl rfl) (pe_lst pa_nil))
      (pss_cons (ps_set (i := 5) sc_cut.nd rfl (Or.inl rfl) pe_int)
      (pss_cons (ps_while PassesOwn.never (pt_cmpR op_gt (pe_op op_sub (pe_op op_add (pe_gi rfl T.c_HEAD_LENGTH) (pe_callB call_len_seq (by rfl) T.f_len PySem.boot_len (pa_cons (pv 1) pa_nil))) (pv 5)) (pv 2) (nomark _)) (pss_cons (ps_expr (pe_bm PySem.F.plainAttrs_list PySem.F.slot_list_append PySem.F.type_list_append mt_append (pv 4) (pa_cons (pe_call G_piece_bytes (hr.mono (by decide)) rfl T.g_piece_bytes k_piece_bytes b_piece_bytes .nil pass0 (pa_cons (pv 0) (pa_cons (pe_op op_or (pe_fld (pv 0) rfl) (pe_gi rfl T.c_MORE_FOLLOW)) (pa_cons (pv 5) (pa_cons (pe_slice sl_list (pv 1) (po_some (pv 5)) (po_some (pe_op op_add (pv 5) (pv 3)))) pa_nil))))) pa_nil)))
      (pss_one (ps_aug (i := 5) sc_cut.nd rfl (Or.inl rfl) (pv 3) ip_add))))
      (pss_cons (ps_expr (pe_bm PySem.F.plainAttrs_list PySem.F.slot_list_append PySem.F.type_list_append mt_append (pv 4) (pa_cons (pe_call G_piece_bytes (hr.mono (by decide)) rfl T.g_piece_bytes k_piece_bytes b_piece_bytes .nil pass0 (pa_cons (pv 0) (pa_cons (pe_fld (pv 0) rfl) (pa_cons (pv 5) (pa_cons (pe_slice sl_list (pv 1) (po_some (pv 5)) po_none) pa_nil))))) pa_nil)))
      (pss_one (ps_ret (pv 4)))))))), ?_⟩
  obtain ⟨a, p, n0, d, fi, rfl, ha, hb, h1, h2, hl, hf1, hf2, q⟩ := h
  have hm : ((fi - 20) / 8 * 8) ≥ 48 ∧ (fi - 20) / 8 * 8 ≤ fi - 20 := by omega
  refine sq_set (v := .int (((fi - 20) / 8 * 8 : Nat) : Int)) (ev_is (ev_op (ev_op (ev_op (ev_var rfl) ev_c rv_I0) ev_c (rv_I ⟨by decide, by decide⟩)) ev_c (rv_I (.inr ⟨by decide, by decide⟩))) ?_) fun H1 e1 => ?_
  · show V.int (((fi : Int) - 20) / 8 * 8) = _
    congr 1
    omega
  generalize hM : (fi - 20) / 8 * 8 = M at hm
  refine sq_setEL (el_lst ea_nil (by show 0 ≤ 100000; decide)) fun l H2 nl e2 k2 => ?_
  refine sq_set ev_c fun H3 e3 => ?_
  have nl' : H l = none := fresh_back e1 nl
  have exT : Ex H H3 := (e1.trans e2).trans e3
  refine q_while (fun μ σ H' => ∃ (j : Nat) (vs : List V) (done : List Sv62.Packet), σ = [some (.ref a), some (.ref d), some (.int (fi : Int)), some (.int (M : Int)), some (.ref l), some (.int ((M * j : Nat) : Int))] ∧ Ex H H' ∧ H' l = some (.lst vs) ∧ vs.length = j ∧ Paired (fun v x => ListAt H' v x ∧ v ≠ .ref l) vs done ∧ M * j ≤ p.body.length ∧ done ++ Sv62.cut (p.body.length - j) fi (restOf p M j) = Sv62.pieces fi p ∧ μ = p.body.length - M * j) p.body.length ⟨0, [], [], rfl, exT, e3 _ _ k2, rfl, .nil, by omega, by rw [restOf_zero]; rfl, by omega⟩ ?_
  rintro μ σ H4 ⟨j, vs, done, rfl, e4, kl, hvs, hp, hj, hcut, rfl⟩
  have ha4 := ha.ex e4
  have hb4 := e4 _ _ hb
  have hjl : j ≤ p.body.length := by
    have : j ≤ M * j := Nat.le_mul_of_pos_left _ (by omega)
    omega
  have rl : (restOf p M j).body.length = p.body.length - M * j := by
    show (p.body.drop (M * j)).length = _
    rw [List.length_drop]
  refine ⟨decide (fi < 20 + (p.body.length - M * j)), et_is (et_test (ev_op (ev_op (ev_op ev_c (ev_len (K := K) (ev_var rfl) (sq_of hb4)) rv_I0) (ev_var rfl) rv_I0) (ev_var rfl) rv_I0)) ?_, fun ht H5 e5 => ?_, fun ht H5 e5 => ?_⟩
  · rw [bv_len]
    apply decide_eq_decide.mpr
    omega
  · have ht2 := of_decide_eq_true ht
    have ha5 := ha4.ex e5
    have hb5 := e5 _ _ hb4
    -- one more piece
    have nb : ¬ 20 + (restOf p M j).body.length ≤ fi := by
      rw [rl]
      omega
    obtain ⟨k, hk⟩ : ∃ k, p.body.length - j = k + 1 := ⟨p.body.length - j - 1, by
      have : j ≤ M * j := Nat.le_mul_of_pos_left _ (by omega)
      omega⟩
    have hk2 : k = p.body.length - (j + 1) := by omega
    rw [hk, cut_more nb, hM, ← hM, restOf_succ, hM, hk2] at hcut
    have exM : Ex H H5 := e4.trans e5
    refine ⟨fun σ' H' => ∃ c, σ' = [some (.ref a), some (.ref d), some (.int (fi : Int)), some (.int (M : Int)), some (.ref l), some (.int ((M * (j + 1) : Nat) : Int))] ∧ Ex H H' ∧ H' l = some (.lst (vs ++ [.ref c])) ∧ c ≠ l ∧ (∀ b o, H5 b = some o → b ≠ l → H' b = some o) ∧ H' c = some (.lst (bv ({ restOf p M j with more := true, body := (restOf p M j).body.take M } : Sv62.Packet).bytes)), ?_, ?_⟩
    · rintro σ2 H6 ⟨c, rfl, e6, kl6, hc, keep, kc⟩
      refine ⟨p.body.length - M * (j + 1), ?_, j + 1, vs ++ [.ref c], done ++ [{ restOf p M j with more := true, body := (restOf p M j).body.take M }], rfl, e6, kl6, by rw [List.length_append, hvs]; rfl, ?_, ?_, by rw [List.append_assoc]; exact hcut, rfl⟩
      · rw [Nat.mul_succ]
        omega
      · refine Paired.snoc (pr_map (fun v x z => ⟨z.1.keep (fun b o hb hn => keep b o (e5 _ _ hb) hn) z.2, z.2⟩) hp) ⟨⟨c, rfl, kc⟩, fun z => hc (by injection z)⟩
      · rw [Nat.mul_succ]
        omega
    · -- pieces.append(piece_bytes(..)); at += most
      have sl : EvL (tSl (rSlL K) (tVar 1) (tPart (tVar 5)) (tPart (tOp (rI0 fun i j => .int (i + j)) (tVar 5) (tVar 3)))) [some (.ref a), some (.ref d), some (.int (fi : Int)), some (.int (M : Int)), some (.ref l), some (.int ((M * j : Nat) : Int))] H5 (bv ((restOf p M j).body.take M)) := by
        have := el_sl (K := K) (te := tVar 1) (tl := tPart (tVar 5)) (th := tPart (tOp (rI0 fun i j => .int (i + j)) (tVar 5) (tVar 3))) (σ := [some (.ref a), some (.ref d), some (.int (fi : Int)), some (.int (M : Int)), some (.ref l), some (.int ((M * j : Nat) : Int))]) (H := H5) (lo := some ((M * j : Nat) : Int)) (hi := some ((M * j + M : Nat) : Int)) (ev_var rfl) (eo_some (ev_var rfl)) (eo_some (ev_op (ev_var rfl) (ev_var rfl) rv_I0)) (sq_of hb5)
        rw [cut_part, bv_drop, bv_take, show M * j + M - M * j = M by omega] at this
        exact this
      have fl : Ev (tOp (rI0 fun i j => .int (Builtin.bitOr i j)) (tFld K (tVar 0) "flags") (tC (.int 1))) [some (.ref a), some (.ref d), some (.int (fi : Int)), some (.int (M : Int)), some (.ref l), some (.int ((M * j : Nat) : Int))] H5 (.int ((true.toNat + 2 * p.uncut.toNat : Nat) : Int)) :=
        ev_is (ev_op (fl_flags T rfl ha5) ev_c rv_I0) (congrArg V.int (flag_or p.more p.uncut))
      have pb : EvL (tCall (sp_piece_bytes K) [] E0 (tCons (tVar 0) (tCons (tOp (rI0 fun i j => .int (Builtin.bitOr i j)) (tFld K (tVar 0) "flags") (tC (.int 1))) (tCons (tVar 5) (tCons (tSl (rSlL K) (tVar 1) (tPart (tVar 5)) (tPart (tOp (rI0 fun i j => .int (i + j)) (tVar 5) (tVar 3)))) tNil))))) [some (.ref a), some (.ref d), some (.int (fi : Int)), some (.int (M : Int)), some (.ref l), some (.int ((M * j : Nat) : Int))] H5 (bv ({ restOf p M j with more := true, body := (restOf p M j).body.take M } : Sv62.Packet).bytes) := by
        refine el_callR (ar_ev (ev_var rfl) (ar_ev fl (ar_ev (ev_var rfl) (ar_es (es_el sl) ar_nil)))) fun ws H6 e6 ⟨r1, w1, r2, w2, r3, w3, c, r4, w4, hc, w5⟩ => ?_
        subst w1 w2 w3 w4 w5
        have z := pb_L (K := K) (at_ := M * j) (ha5.ex e6) h1 h2 (flag_lt true p.uncut) hc (by rw [List.length_take, rl]; omega)
        have eb : ({ restOf p M j with more := true, body := (restOf p M j).body.take M } : Sv62.Packet).bytes = (⟨p.hops, p.what, true.toNat + 2 * p.uncut.toNat, 20 + ((restOf p M j).body.take M).length, p.name, p.place + M * j / 8, p.from_, p.to⟩ : Hd).bytes ++ (restOf p M j).body.take M := by
          show Sv62.Packet.headOf _ _ ++ _ = _
          rw [← hdOf_bytes]
          rfl
        rw [eb]
        exact z
      have hlen : vs.length < 100000 := by
        have : j ≤ M * j := Nat.le_mul_of_pos_left _ (by omega)
        omega
      refine q_appL (e5 _ _ kl) (ev_var rfl) pb hlen fun c H6 nc e6 kc => ?_
      have hcl : c ≠ l := fun z => by
        rw [z, e5 _ _ kl] at nc
        cases nc
      refine s_aug (a := ((M * j : Nat) : Int)) (b := (M : Int)) rfl (ev_var rfl) fun H7 e7 => ⟨c, ?_, ?_, ?_, hcl, ?_, ?_⟩
      · show [_, _, _, _, _, some (V.int (((M * j : Nat) : Int) + (M : Int)))] = _
        rw [Nat.mul_succ]
        rfl
      · exact (Ex.mut (exM.trans e6) nl').trans e7
      · exact e7 _ _ upd_same
      · intro b o hb hn
        refine e7 _ _ ?_
        rw [upd_ne hn]
        exact e6 _ _ hb
      · refine e7 _ _ ?_
        rw [upd_ne hcl]
        exact kc
  · have ht2 := of_decide_eq_false ht
    have ha5 := ha4.ex e5
    have hb5 := e5 _ _ hb4
    have exM : Ex H H5 := e4.trans e5
    have le : 20 + (restOf p M j).body.length ≤ fi := by
      rw [rl]
      omega
    rw [cut_one le] at hcut
    have sl : EvL (tSl (rSlL K) (tVar 1) (tPart (tVar 5)) tNoPart) [some (.ref a), some (.ref d), some (.int (fi : Int)), some (.int (M : Int)), some (.ref l), some (.int ((M * j : Nat) : Int))] H5 (bv (restOf p M j).body) := by
      have := el_sl (K := K) (te := tVar 1) (tl := tPart (tVar 5)) (th := tNoPart) (σ := [some (.ref a), some (.ref d), some (.int (fi : Int)), some (.int (M : Int)), some (.ref l), some (.int ((M * j : Nat) : Int))]) (H := H5) (lo := some ((M * j : Nat) : Int)) (hi := none) (ev_var rfl) (eo_some (ev_var rfl)) eo_none (sq_of hb5)
      rw [cut_from, bv_drop] at this
      exact this
    have pb : EvL (tCall (sp_piece_bytes K) [] E0 (tCons (tVar 0) (tCons (tFld K (tVar 0) "flags") (tCons (tVar 5) (tCons (tSl (rSlL K) (tVar 1) (tPart (tVar 5)) tNoPart) tNil))))) [some (.ref a), some (.ref d), some (.int (fi : Int)), some (.int (M : Int)), some (.ref l), some (.int ((M * j : Nat) : Int))] H5 (bv (restOf p M j).bytes) := by
      refine el_callR (ar_ev (ev_var rfl) (ar_ev (fl_flags T rfl ha5) (ar_ev (ev_var rfl) (ar_es (es_el sl) ar_nil)))) fun ws H6 e6 ⟨r1, w1, r2, w2, r3, w3, c, r4, w4, hc, w5⟩ => ?_
      subst w1 w2 w3 w4 w5
      have z := pb_L (K := K) (at_ := M * j) (ha5.ex e6) h1 h2 (flag_lt p.more p.uncut) hc (by rw [rl]; omega)
      have eb : (restOf p M j).bytes = (⟨p.hops, p.what, p.more.toNat + 2 * p.uncut.toNat, 20 + (restOf p M j).body.length, p.name, p.place + M * j / 8, p.from_, p.to⟩ : Hd).bytes ++ (restOf p M j).body := by
        show Sv62.Packet.headOf _ _ ++ _ = _
        rw [← hdOf_bytes]
        rfl
      rw [eb]
      exact z
    have hlen : vs.length < 100000 := by omega
    refine q_appL (e5 _ _ kl) (ev_var rfl) pb hlen fun c H6 nc e6 kc => ?_
    have hcl : c ≠ l := fun z => by
      rw [z, e5 _ _ kl] at nc
      cases nc
    refine ret_ev (ev_var rfl) fun H7 e7 => q l (vs ++ [.ref c]) H7 nl' ((Ex.mut (exM.trans e6) nl').trans e7) (e7 _ _ upd_same) ?_
    rw [← hcut]
    refine Paired.snoc (pr_map (fun v x z => z.1.keep (fun b o hb hn => e7 _ _ ?_) z.2) hp) ⟨c, rfl, e7 _ _ ?_⟩
    · rw [upd_ne hcl]
      exact kc
    · rw [upd_ne hn]
      exact e6 _ _ (e5 _ _ hb)
theorem ok_cut (T : Txt K mg base) : DefOk P w K mg base 4 (He.ga K "cut") ["head", "body", "fits"] (sp_cut K) := by
  obtain ⟨fd, F⟩ := T.fd_cut
  exact ⟨fd, okF_cut T F, F.bindsN fun _ _ _ _ _ _ us hl => match us, hl with | [_, _, _], _ => rfl, F.kp⟩
end
end Lp
set_option maxHeartbeats 400000000
namespace Lp
open PySem PySem.Spec PyProof.Rows L2 Evl
/-- for x in (what gives some list): -/
theorem q_forE {K : PySem.W.Frag} {tl : TE} {tu tz : TS} {D : Ends} {σ : L2.St} {H : Hp} {j : Nat} {R : Addr → List V → Hp → Prop} (h : ∀ Q : VK, (∀ q xs H1, H1 q = some (.lst xs) → R q xs H1 → Q (.ref q) H1) → tl σ H Q)
    (go : ∀ q xs H1, H1 q = some (.lst xs) → R q xs H1 → ∃ Pv : Nat → L2.St → Hp → Prop, Pv 0 σ H1 ∧ (∀ i σ' H', i ≤ xs.length → Pv i σ' H' → SqL K H' q xs) ∧ (∀ i x σ' H', xs[i]? = some x → Pv i σ' H' → tu { D with nx := Pv (i + 1), ct := Pv (i + 1), bk := tz D } (σ'.set j (some x)) H') ∧ ∀ σ' H', Pv xs.length σ' H' → tz D σ' H') :
    tSeq (tFor (iList K tl) (gName j) tu) tz D σ H := h _ fun q xs H1 hq r => by
  obtain ⟨Pv, p0, pl, ps, pd⟩ := go q xs H1 hq r
  exact ⟨q, rfl, ⟨xs, sq_of hq⟩, for_list Pv p0 pl (fun i x σ' H' hx p => ps i x σ' H' hx p) pd⟩
theorem flat_take {α : Type} (g : α → List Int) (l : List α) (i : Nat) : ((l.take i).flatMap g).length ≤ (l.flatMap g).length := by
  conv => rhs; rw [← List.take_append_drop i l, List.flatMap_append, List.length_append]
  omega
theorem body_le {k f : Nat} {p x : Sv62.Packet} (h : x ∈ Sv62.cut k f p) : x.body.length ≤ p.body.length := by
  have h1 := cut_bodies (f := f) k p
  have h2 : x.body.length ≤ ((Sv62.cut k f p).map fun x => x.body.length).sum := by
    generalize Sv62.cut k f p = l at h
    clear h1
    induction l with
    | nil => cases h
    | cons y r ih =>
      rw [List.map_cons, List.sum_cons]
      rcases List.mem_cons.mp h with rfl | h
      · omega
      · have := ih h
        omega
  omega
/-! ### what differs in the footprint -/
structure FootNe (f : Foot) (m : Addr) : Prop where
  m_lk : m ≠ f.lk
  m_wy : m ≠ f.wy
  m_ga : m ≠ f.ga
  m_tk : m ≠ f.tk
  m_tb : m ≠ f.tb
  lk_wy : f.lk ≠ f.wy
  lk_ga : f.lk ≠ f.ga
  lk_tk : f.lk ≠ f.tk
  lk_tb : f.lk ≠ f.tb
  wy_ga : f.wy ≠ f.ga
  wy_tk : f.wy ≠ f.tk
  wy_tb : f.wy ≠ f.tb
  ga_tk : f.ga ≠ f.tk
  ga_tb : f.ga ≠ f.tb
  tk_tb : f.tk ≠ f.tb
  one : ∀ g ∈ f.gs, m ≠ g.1 ∧ f.lk ≠ g.1 ∧ f.wy ≠ g.1 ∧ f.ga ≠ g.1 ∧ f.tk ≠ g.1 ∧ f.tb ≠ g.1
  two : ∀ g ∈ f.gs, m ≠ g.2 ∧ f.lk ≠ g.2 ∧ f.wy ≠ g.2 ∧ f.ga ≠ g.2 ∧ f.tk ≠ g.2 ∧ f.tb ≠ g.2
  av : ∀ b ∈ f.av, m ≠ b ∧ f.lk ≠ b ∧ f.wy ≠ b ∧ f.ga ≠ b ∧ f.tk ≠ b ∧ f.tb ≠ b
  avg : ∀ b ∈ f.av, ∀ g ∈ f.gs, g.1 ≠ b ∧ g.2 ≠ b
theorem footNe {f : Foot} {m : Addr} (h : (f.all m).Nodup) : FootNe f m := by
  unfold Foot.all at h
  simp only [List.nodup_cons, List.mem_cons, List.mem_append, not_or] at h
  obtain ⟨⟨a1, a2, a3, a4, a5, a6, a7, a8⟩, ⟨b1, b2, b3, b4, b5, b6, b7⟩, ⟨c1, c2, c3, c4, c5, c6⟩, ⟨d1, d2, d3, d4, d5⟩, ⟨e1, e2, e3, e4⟩, ⟨f1, f2, f3⟩, hn⟩ := h
  refine ⟨a1, a2, a3, a4, a5, b1, b2, b3, b4, c1, c2, c3, d1, d2, e1, fun g hg => ?_, fun g hg => ?_, fun b hb => ⟨fun z => a8 (by rw [z]; exact hb), fun z => b7 (by rw [z]; exact hb), fun z => c6 (by rw [z]; exact hb), fun z => d5 (by rw [z]; exact hb), fun z => e4 (by rw [z]; exact hb), fun z => f3 (by rw [z]; exact hb)⟩, fun b hb g hg => ?_⟩
  · have hm := List.mem_map.mpr ⟨g, hg, (rfl : g.1 = g.1)⟩
    exact ⟨fun z => a6 (by rw [z]; exact hm), fun z => b5 (by rw [z]; exact hm), fun z => c4 (by rw [z]; exact hm), fun z => d3 (by rw [z]; exact hm), fun z => e2 (by rw [z]; exact hm), fun z => f1 (by rw [z]; exact hm)⟩
  · have hm := List.mem_map.mpr ⟨g, hg, (rfl : g.2 = g.2)⟩
    exact ⟨fun z => a7 (by rw [z]; exact hm), fun z => b6 (by rw [z]; exact hm), fun z => c5 (by rw [z]; exact hm), fun z => d4 (by rw [z]; exact hm), fun z => e3 (by rw [z]; exact hm), fun z => f2 (by rw [z]; exact hm)⟩
  · obtain ⟨_, n2, n3⟩ := List.nodup_append.mp hn
    obtain ⟨_, _, n4⟩ := List.nodup_append.mp n2
    exact ⟨n3 _ (List.mem_map.mpr ⟨g, hg, rfl⟩) _ (List.mem_append.mpr (.inr hb)), n4 _ (List.mem_map.mpr ⟨g, hg, rfl⟩) _ hb⟩
theorem tabS_upd {H : Hp} {P b : Addr} {q : Str} {o : HO} (h : LamX.TabS H P q) (nP : P ≠ b) (hb : ∀ c, H b ≠ some (LamX.CodeO c q)) : LamX.TabS (upd H b o) P q := by
  obtain ⟨ps, h1, h2, h3⟩ := h
  refine ⟨ps, by rw [upd_ne nP]; exact h1, h2, fun pos cv hc => ?_⟩
  obtain ⟨c, e1, e2⟩ := h3 pos cv hc
  exact ⟨c, e1, by rw [upd_ne (fun z => hb c (by rw [← z]; exact e2))]; exact e2⟩
theorem codeO_lst {c : Addr} {q : Str} {xs : List V} : HO.lst xs ≠ LamX.CodeO c q := fun z => by unfold LamX.CodeO at z; cases z
theorem codeO_dT {c : Addr} {q : Str} {xs : List (List L2.Key × V)} : HO.dT xs ≠ LamX.CodeO c q := fun z => by unfold LamX.CodeO at z; cases z
theorem codeO_dK {c : Addr} {q : Str} {xs : List (L2.Key × V)} : HO.dK xs ≠ LamX.CodeO c q := fun z => by unfold LamX.CodeO at z; cases z
theorem codeO_ins {c : Addr} {q : Str} {C dx : Addr} {fs : List (Str × V)} : HO.ins C dx fs ≠ LamX.CodeO c q := fun z => by unfold LamX.CodeO at z; cases z
section
variable {K : PySem.W.Frag} {H H' : Hp} {m : Addr} {n : Sv62.Net} {f : Foot}
/-- the machine's own fields change: passing on, time, name -/
theorem MachAt.put {dm : Addr} (M : MachAt K H m n f) (om : H m = some (.ins (He.ga K "Machine") dm (F_Machine (.ref f.lk) (.ref f.wy) (.bl n.passes) (.ref f.ga) (.int n.now) (.int n.name) (.ref f.tk)))) (pa : Bool) (t nm : Nat) (hn : nm < 65536) :
    Moved K H m f { n with passes := pa, now := t, name := nm } (upd H m (.ins (He.ga K "Machine") dm (F_Machine (.ref f.lk) (.ref f.wy) (.bl pa) (.ref f.ga) (.int (t : Int)) (.int (nm : Int)) (.ref f.tk)))) f := by
  have N := footNe M.nd
  have k : Keep H (upd H m (.ins (He.ga K "Machine") dm (F_Machine (.ref f.lk) (.ref f.wy) (.bl pa) (.ref f.ga) (.int (t : Int)) (.int (nm : Int)) (.ref f.tk)))) (f.all m) := Keep.upd (by simp [Foot.all])
  obtain ⟨vs, h3, h4⟩ := M.lks
  obtain ⟨kvs, h5, h6⟩ := M.wys
  obtain ⟨a, b, c, h9, h10⟩ := M.tks
  have ak : ∀ b ∈ f.av, ∀ o, H b = some o → ntb o = true → upd H m (.ins (He.ga K "Machine") dm (F_Machine (.ref f.lk) (.ref f.wy) (.bl pa) (.ref f.ga) (.int (t : Int)) (.int (nm : Int)) (.ref f.tk))) b = some o := fun b hb o h _ => by
    rw [upd_ne (N.av b hb).1.symm]
    exact h
  refine ⟨⟨M.nd, ⟨dm, upd_same⟩, ⟨vs, by rw [upd_ne N.m_lk.symm]; exact h3, pr_map (fun _ _ z => z.keep k same_sub) h4⟩, ⟨kvs, by rw [upd_ne N.m_wy.symm]; exact h5, pr_map (fun _ _ z => ⟨z.1, z.2.keep k same_sub⟩) h6⟩, by rw [upd_ne N.m_ga.symm]; exact M.gas, ?_, ⟨a, b, c, by rw [upd_ne N.m_tk.symm]; exact h9, h10⟩, M.tbe, tabS_upd M.tab N.m_tb.symm (fun c => by rw [om]; intro z; exact codeO_ins (Option.some.inj z)), ⟨M.good.len, M.good.lok, M.good.wok, M.good.wnd, M.good.wfew⟩, ⟨M.gp.few, M.gp.nd, hn⟩, avs_go M.avs ak⟩, same_sub, k, rfl, ak⟩
  have gat : ∀ {gs : List (Addr × Addr)} {xs : List Sv62.Part}, (∀ g ∈ gs, g ∈ f.gs) → Paired (GathAt K H (f.all m)) gs xs → Paired (GathAt K (upd H m (.ins (He.ga K "Machine") dm (F_Machine (.ref f.lk) (.ref f.wy) (.bl pa) (.ref f.ga) (.int (t : Int)) (.int (nm : Int)) (.ref f.tk)))) (f.all m)) gs xs := by
    intro gs xs hg hp
    induction hp with
    | nil => exact .nil
    | @cons g x l1 l2 h1 h2 ih =>
      have hg1 := hg g List.mem_cons_self
      refine .cons (h1.keep k same_sub (fun o q _ => by rw [upd_ne (N.one g hg1).1.symm]; exact q) (fun o q _ => by rw [upd_ne (N.two g hg1).1.symm]; exact q)) (ih fun g' h' => hg g' (List.mem_cons_of_mem _ h'))
  exact gat (fun _ h => h) M.gat
end
section
variable {P : Program} {w : World} {K : PySem.W.Frag} {mg : Str → Option Value} {base : Heap}
def sp_Machine__use_name (K : PySem.W.Frag) : Sp := fun vs H Q _ => ∃ (m : Addr) (n : Sv62.Net) (f : Foot), vs = [.ref m] ∧ MachAt K H m n f ∧ ∀ H', Moved K H m f n.named H' f → Q (.int (n.name : Int)) H'
theorem len_Machine__use_name {vs : List V} {H : Hp} {Q : VK} {E : XK} (h : sp_Machine__use_name K vs H Q E) : vs.length = 1 := by
  obtain ⟨m, n, f, rfl, _⟩ := h
  rfl
theorem sc_Machine__use_name : FnScope ["self", "name"] ["self"] (defScope s_Machine__use_name) := ⟨rfl, rfl, rfl, by decide +kernel, rfl, by decide +kernel, by decide +kernel⟩
theorem okF_Machine__use_name (T : Txt K mg base) {fd : FuncData} (F : FunD K d_Machine__use_name.name d_Machine__use_name.qual d_Machine__use_name.params d_Machine__use_name.body d_Machine__use_name.scope [] [] (He.fAd K d_Machine__use_name.at_) fd) : FnOk P w K mg base CX0 1 (He.ma K (He.ga K "Machine") "use_name") fd ["self"] (sp_Machine__use_name K) := by
  refine F.ok sc_Machine__use_name (fun vs H Q E h => len_Machine__use_name h) (fun cdv Ar outer s H vs Q E hr h => ?_)
  refine ⟨_, PSs.nox (pss_cons (ps_set (i := 1) sc_Machine__use_name.nd rfl (Or.inl rfl) (pe_fld (pv 0) rfl))
      (pss_cons (ps_fld (pv 0) (pe_op op_mod (pe_op op_add (pv 1) pe_int) (pe_gi rfl T.c_NAME_COUNT)) rfl)
      (pss_one (ps_ret (pv 1))))), ?_⟩
  obtain ⟨m, n, f, rfl, M, q⟩ := h
  obtain ⟨dm, om⟩ := M.obj
  refine sq_set (ev_fld (ev_var rfl) om T.cl_Machine T.n_Machine_next_name F_Machine_next_name) fun H1 e1 => ?_
  have M1 := M.ex e1
  refine sq_fld (y := .int (((n.name + 1) % 65536 : Nat) : Int)) (ev_is (ev_op (ev_op (ev_var rfl) ev_c rv_I0) ev_c (rv_I (by decide))) ?_) (ev_var rfl) (e1 _ _ om) T.cl_Machine T.n_Machine_next_name (by show 7 < 1000; decide) fun H2 e2 => ?_
  · show V.int (((n.name : Int) + 1) % 65536) = _
    congr 1
  rw [F_Machine_put_next_name]
  have M2 := M1.ex e2
  have mv := M2.put (e2 _ _ (e1 _ _ om)) n.passes n.now ((n.name + 1) % 65536) (Nat.mod_lt _ (by decide))
  exact ret_ev (ev_var rfl) fun H3 e3 => q H3 ((mv.then e3).after (e1.trans e2))
theorem ok_Machine__use_name (T : Txt K mg base) : DefOk P w K mg base 1 (He.ma K (He.ga K "Machine") "use_name") ["self"] (sp_Machine__use_name K) := by
  obtain ⟨fd, F⟩ := T.fd_Machine__use_name
  exact ⟨fd, okF_Machine__use_name T F, F.bindsN fun _ _ _ _ _ _ us hl => match us, hl with | [_], _ => rfl, F.kp⟩
/-! ### sent by a way -/
def sp_sent_by (K : PySem.W.Frag) : Sp := fun vs H Q _ => ∃ (m : Addr) (n : Sv62.Net) (f : Foot) (v : V) (S : List Addr) (w : Way3) (l : Sv62.Link) (a : Addr) (p : Sv62.Packet) (n0 : Nat) (d : Addr), vs = [.ref m, v, .ref a, .ref d] ∧ MachAt K H m n f ∧ WayV K H S v w ∧ w.2.1 < 4 ∧ n.link w.2.1 = some l ∧
  HeadAt K H a (hdOf p n0) ∧ H d = some (.lst (bv p.body)) ∧ p.hops < 256 ∧ p.what < 256 ∧ p.body.length ≤ 65515 ∧ RetL (((Sv62.outBy w.2.1 w.2.2 l p).flatMap Sv62Neutral.wanted).map V.int) H Q
theorem len_sent_by {vs : List V} {H : Hp} {Q : VK} {E : XK} (h : sp_sent_by K vs H Q E) : vs.length = 4 := by
  obtain ⟨m, n, f, v, S, w, l, a, p, n0, d, rfl, _⟩ := h
  rfl
theorem if_cast (c : Prop) [Decidable c] (a b : Nat) : (if c then (a : Int) else (b : Int)) = ((if c then a else b : Nat) : Int) := by
  by_cases h : c
  · rw [if_pos h, if_pos h]
  · rw [if_neg h, if_neg h]
theorem sc_sent_by : FnScope ["machine", "way", "head", "body", "address", "told", "piece"] ["machine", "way", "head", "body"] (defScope s_sent_by) := ⟨rfl, rfl, rfl, by decide +kernel, rfl, by decide +kernel, by decide +kernel⟩
theorem okF_sent_by (T : Txt K mg base) {fd : FuncData} (F : FunD K d_sent_by.name d_sent_by.qual d_sent_by.params d_sent_by.body d_sent_by.scope [] [] (He.fAd K d_sent_by.at_) fd) : FnOk P w K mg base CX0 5 (He.ga K "sent_by") fd ["machine", "way", "head", "body"] (sp_sent_by K) := by
  obtain ⟨fd_cut, G_cut, b_cut, k_cut⟩ := ok_cut (P := P) (w := w) (base := base) T
  obtain ⟨fd_fits_by, G_fits_by, b_fits_by, k_fits_by⟩ := ok_fits_by (P := P) (w := w) (base := base) T
  obtain ⟨fd_told_sent, G_told_sent, b_told_sent, k_told_sent⟩ := ok_told_sent (P := P) (w := w) (base := base) T
  obtain ⟨fd_next_address, G_next_address, b_next_address, k_next_address⟩ := ok_next_address (P := P) (w := w) (base := base) T
  refine F.ok sc_sent_by (fun vs H Q E h => len_sent_by h) (fun cdv Ar outer s H vs Q E hr h => ?_)
  refine ⟨_, PSs.nox (pss_cons (ps_set (i := 4) sc_sent_by.nd rfl (Or.inl rfl) (pe_call G_next_address (hr.mono (by decide)) rfl T.g_next_address k_next_address b_next_address .nil pass0 (pa_cons (pv 1) (pa_cons (pe_fld (pv 2) rfl) pa_nil))))
      (pss_cons (ps_set (i := 5) sc_sent_by.nd rfl (Or.inl rfl) (pe_lst pa_nil))
      (pss_cons (ps_for PassesOwn.never rfl (pi_list (pe_call G_cut (hr.mono (by decide)) rfl T.g_cut k_cut b_cut .nil pass0 (pa_cons (pv 2) (pa_cons (pv 3) (pa_cons (pe_call G_fits_by (hr.mono (by decide)) rfl T.g_fits_by k_fits_by b_fits_by .nil pass0 (pa_cons (pv 0) (pa_cons (pv 1) pa_nil))) pa_nil))))) (pg_name (i := 6) sc_sent_by.nd rfl (Or.inl rfl)) (pss_one (ps_expr (pe_bm PySem.F.plainAttrs_list PySem.F.slot_list_extend PySem.F.type_list_extend mt_extend (pv 5) (pa_cons (pe_call G_told_sent (hr.mono (by decide)) rfl T.g_told_sent k_told_sent b_told_sent .nil pass0 (pa_cons (pe_fld (pv 1) rfl) (pa_cons (pv 4) (pa_cons (pv 6) pa_nil)))) pa_nil)))))
      (pss_one (ps_ret (pv 5)))))), ?_⟩
  obtain ⟨m, n, f, v, S, w3, l, a, p, n0, d, rfl, M, W, hw, hl, ha, hb, h1, h2, hlen, q⟩ := h
  obtain ⟨l1, l2, l3, l4, l5⟩ := M.good.lok l (link_mem hl)
  refine sq_set (v := .int ((if w3.2.2 = 0 then p.to else w3.2.2 : Nat) : Int)) (ev_is (ev_call (ea_cons (ev_var rfl) (ea_cons (fl_to T rfl ha) ea_nil)) (fun H1 e1 Q q _ => ⟨v, S, w3, _, rfl, W.ex e1, q⟩)) (congrArg V.int (if_cast _ _ _))) fun H1 e1 => ?_
  generalize hx : (if w3.2.2 = 0 then p.to else w3.2.2 : Nat) = x
  refine sq_setEL (el_lst ea_nil (by show 0 ≤ 100000; decide)) fun t H2 nt e2 k2 => ?_
  have nt' : H t = none := fresh_back e1 nt
  have e12 := e1.trans e2
  have M2 := M.ex e12
  have W2 := W.ex e12
  have ha2 := ha.ex e12
  have hb2 := e12 _ _ hb
  obtain ⟨wp, wdx, rfl, wn, wo⟩ := W
  have tot := out_len w3.2.1 w3.2.2 l p
  have eo : (Sv62.outBy w3.2.1 w3.2.2 l p).flatMap Sv62Neutral.wanted = (Sv62.pieces l.fits p).flatMap fun y => Sv62Neutral.wanted (.out w3.2.1 x y.bytes) := by
    unfold Sv62.outBy
    rw [List.flatMap_map, hx]
  rw [eo] at tot q
  refine q_forE (R := fun q xs H3 => H2 q = none ∧ Ex H2 H3 ∧ Paired (ListAt H3) xs (Sv62.pieces l.fits p)) (fun Q2 q2 => ?_) fun qa xs H3 hq ⟨nq, e3, pp⟩ => ?_
  · exact (ea_cons (ev_var (i := 2) rfl) (ea_cons (ev_var (i := 3) rfl) (ea_cons (ev_call (ea_cons (ev_var (i := 0) rfl) (ea_cons (ev_var (i := 1) rfl) ea_nil)) (fb_V M2 W2 hw hl)) ea_nil))) H2 (Ex.refl H2) _ fun H4 e4 => ⟨a, p, n0, d, l.fits, rfl, ha2.ex e4, e4 _ _ hb2, h1, h2, by omega, l4, l5, fun qa vs' H5 nq e5 k5 pp => q2 qa vs' H5 k5 ⟨fresh_back e4 nq, e4.trans e5, pp⟩⟩
  · have qt : qa ≠ t := fun z => by
      rw [z, k2] at nq
      cases nq
    have ct : ∀ v x, ListAt H3 v x → v ≠ .ref t := fun v y ⟨c, hv, hc⟩ z => by
      rw [hv] at z
      injection z with z
      rw [z, e3 _ _ k2] at hc
      have : (bv y.bytes).length = 0 := by
        injection hc with hc
        injection hc with hc
        rw [← hc]
        rfl
      rw [bv_len, pk_bytes_len] at this
      omega
    refine ⟨fun i σ H' => ∃ v6 : Option V, σ = [some (.ref m), some (.ref wp), some (.ref a), some (.ref d), some (.int (x : Int)), some (.ref t), v6] ∧ Ex H H' ∧ H' qa = some (.lst xs) ∧ Paired (fun v y => ListAt H' v y ∧ v ≠ .ref t) xs (Sv62.pieces l.fits p) ∧ H' t = some (.lst ((((Sv62.pieces l.fits p).take i).flatMap fun y => Sv62Neutral.wanted (.out w3.2.1 x y.bytes)).map V.int)),
      ⟨none, rfl, e12.trans e3, hq, pr_map (fun v y z => ⟨z, ct v y z⟩) pp, e3 _ _ k2⟩, fun i σ H' _ z => ?_, fun i y σ H' hy z => ?_, fun σ H' z => ?_⟩
    · obtain ⟨_, _, _, hq, _⟩ := z
      exact sq_of hq
    · obtain ⟨v6, rfl, e4, hq4, pp4, ht4⟩ := z
      obtain ⟨pk, hpk, ⟨c, rfl, hc⟩, hct⟩ := pr_get2 pp4 hy
      have hi : i < (Sv62.pieces l.fits p).length := (List.getElem?_eq_some_iff.mp hpk).1
      have hbl : pk.body.length ≤ p.body.length := body_le (List.mem_of_getElem? hpk)
      have tk : ((Sv62.pieces l.fits p).take (i + 1)).flatMap (fun y => Sv62Neutral.wanted (.out w3.2.1 x y.bytes)) = ((Sv62.pieces l.fits p).take i).flatMap (fun y => Sv62Neutral.wanted (.out w3.2.1 x y.bytes)) ++ Sv62Neutral.wanted (.out w3.2.1 x pk.bytes) := by
        rw [List.take_add_one, hpk, List.flatMap_append]
        simp
      have tl := flat_take (fun y => Sv62Neutral.wanted (.out w3.2.1 x y.bytes)) (Sv62.pieces l.fits p) (i + 1)
      refine s_ext (K := K) ht4 (ev_var rfl) (es_el (el_call (ea_cons (ev_fld (ev_var rfl) (e4 _ _ wo) T.cl_Way T.n_Way_link F_Way_link) (ea_cons (ev_var rfl) (ea_cons (ev_var rfl) ea_nil))) (fun H5 e5 Q5 q5 _ => ⟨w3.2.1, x, c, pk.bytes, rfl, e5 _ _ hc, by rw [pk_bytes_len]; omega, q5⟩))) ?_ fun H5 e5 => ⟨_, rfl, Ex.mut (e4.trans e5) nt', ?_, ?_, ?_⟩
      · rw [List.length_map, List.length_map, ← List.length_append, ← tk]
        exact line_le (by omega)
      · rw [upd_ne qt]
        exact e5 _ _ hq4
      · refine pr_map (fun v y z => ⟨z.1.keep (q := t) (fun b o hb hn => ?_) z.2, z.2⟩) pp4
        rw [upd_ne hn]
        exact e5 _ _ hb
      · rw [tk, List.map_append]
        exact upd_same
    · obtain ⟨v6, rfl, e4, hq4, pp4, ht4⟩ := z
      refine ret_ev (ev_var rfl) fun H5 e5 => q t H5 nt' (e4.trans e5) ?_
      rw [pp4.length, List.take_of_length_le (Nat.le_refl _)] at ht4
      exact e5 _ _ ht4
theorem ok_sent_by (T : Txt K mg base) : DefOk P w K mg base 5 (He.ga K "sent_by") ["machine", "way", "head", "body"] (sp_sent_by K) := by
  obtain ⟨fd, F⟩ := T.fd_sent_by
  exact ⟨fd, okF_sent_by T F, F.bindsN fun _ _ _ _ _ _ us hl => match us, hl with | [_, _, _, _], _ => rfl, F.kp⟩
/-! ### an error's body -/
def errB (k n : Nat) (c : Sv62.Bytes) : Sv62.Bytes := [UInt8.ofNat k, 0] ++ (Sv62.high 2 (Sv62.sum ([UInt8.ofNat k, 0] ++ (Sv62.high 4 n ++ c))) ++ (Sv62.high 4 n ++ c))
theorem errB_eq (k n : Nat) (b : Sv62.Bytes) : errB k n (b.take 28) = Sv62.errorBody k n b := by
  have e : Sv62.errorBody k n b = [UInt8.ofNat k, 0] ++ (Sv62.high 2 (Sv62.sum ([UInt8.ofNat k, 0] ++ (Sv62.zeros 2 ++ (Sv62.high 4 n ++ b.take 28)))) ++ (Sv62.high 4 n ++ b.take 28)) := rfl
  rw [e, sum_zeros (by simp)]
  rfl
theorem errB_len (k n : Nat) (c : Sv62.Bytes) : (errB k n c).length = 8 + c.length := by
  unfold errB
  simp only [List.length_append, high_len, List.length_cons, List.length_nil]
  omega
def sp_error_body (K : PySem.W.Frag) : Sp := fun vs H Q _ => ∃ (k n : Nat) (d : Addr) (c : Sv62.Bytes), vs = [.int (k : Int), .int (n : Int), .ref d] ∧ k < 256 ∧ H d = some (.lst (bv c)) ∧ c.length ≤ 28 ∧ RetL (bv (errB k n c)) H Q
theorem len_error_body {vs : List V} {H : Hp} {Q : VK} {E : XK} (h : sp_error_body K vs H Q E) : vs.length = 3 := by
  obtain ⟨k, n, d, c, rfl, _⟩ := h
  rfl
theorem sc_error_body : FnScope ["kind", "number", "about", "front", "back"] ["kind", "number", "about"] (defScope s_error_body) := ⟨rfl, rfl, rfl, by decide +kernel, rfl, by decide +kernel, by decide +kernel⟩
theorem okF_error_body (T : Txt K mg base) {fd : FuncData} (F : FunD K d_error_body.name d_error_body.qual d_error_body.params d_error_body.body d_error_body.scope [] [] (He.fAd K d_error_body.at_) fd) : FnOk P w K mg base CX0 2 (He.ga K "error_body") fd ["kind", "number", "about"] (sp_error_body K) := by
  obtain ⟨fd_as_bytes, G_as_bytes, b_as_bytes, k_as_bytes⟩ := ok_as_bytes (P := P) (w := w) (base := base) T
  obtain ⟨fd_sum_of, G_sum_of, b_sum_of, k_sum_of⟩ := ok_sum_of (P := P) (w := w) (base := base) T
  refine F.ok sc_error_body (fun vs H Q E h => len_error_body h) (fun cdv Ar outer s H vs Q E hr h => ?_)
  refine ⟨_, PSs.nox (pss_cons (ps_set (i := 3) sc_error_body.nd rfl (Or.inl rfl) (pe_lst (pa_cons (pv 0) (pa_cons pe_int pa_nil))))
      (pss_cons (ps_set (i := 4) sc_error_body.nd rfl (Or.inl rfl) (pe_op op_cat (pe_call G_as_bytes (hr.mono (by decide)) rfl T.g_as_bytes k_as_bytes b_as_bytes .nil pass0 (pa_cons (pv 1) (pa_cons pe_int pa_nil))) (pv 2)))
      (pss_one (ps_ret (pe_op op_cat (pe_op op_cat (pv 3) (pe_call G_as_bytes (hr.mono (by decide)) rfl T.g_as_bytes k_as_bytes b_as_bytes .nil pass0 (pa_cons (pe_call G_sum_of (hr.mono (by decide)) rfl T.g_sum_of k_sum_of b_sum_of .nil pass0 (pa_cons (pe_op op_cat (pv 3) (pv 4)) pa_nil)) (pa_cons pe_int pa_nil)))) (pv 4)))))), ?_⟩
  obtain ⟨k, n, d, c, rfl, hk, hd, hc, q⟩ := h
  refine sq_setEL (xs := bv [UInt8.ofNat k, 0]) ?_ fun f0 H1 _ e1 k1 => ?_
  · show EvL _ _ _ [V.int ((UInt8.ofNat k).toNat : Int), V.int ((0 : UInt8).toNat : Int)]
    rw [u8_val hk]
    exact el_lst (ea_cons (ev_var rfl) (ea_cons ev_c ea_nil)) (by show 2 ≤ 100000; decide)
  have hd1 := e1 _ _ hd
  refine sq_setEL (xs := bv (Sv62.high 4 n ++ c)) ?_ fun bk H2 _ e2 k2 => ?_
  · rw [bv_app]
    exact el_cat (es_el (el_call (E := E0) (ea_cons (ev_var rfl) (ea_cons ev_c ea_nil)) (ab_L (n := 4) (by decide)))) (es_at (ev_var rfl) hd1) (by rw [bv_len, bv_len, high_len]; exact line_le (by omega))
  have k1' := e2 _ _ k1
  have sm : Ev (tCall sp_sum_of [] E0 (tCons (tOp rCat (tVar 3) (tVar 4)) tNil)) [some (.int (k : Int)), some (.int (n : Int)), some (.ref d), some (.ref f0), some (.ref bk)] H2 (.int (Sv62.sum ([UInt8.ofNat k, 0] ++ (Sv62.high 4 n ++ c)) : Int)) := by
    refine ev_callR (ar_es (es_el (el_cat (es_at (ev_var rfl) k1') (es_at (ev_var rfl) k2) (by rw [bv_len, bv_len, List.length_append, high_len]; exact line_le (by show 2 + (4 + c.length) ≤ _; omega)))) ar_nil) fun vs H4 e4 ⟨c2, r, e5, hc2, e6⟩ => ?_
    subst e5 e6
    rw [← bv_app] at hc2
    exact fun H5 e5 Q q E => ⟨c2, _, rfl, e5 _ _ hc2, by rw [List.length_append, List.length_append, high_len]; show 2 + (4 + c.length) < _; omega, q⟩
  have z := el_cat (es_el (el_cat (es_at (ev_var (i := 3) rfl) k1') (es_el (el_call (E := E0) (ea_cons sm (ea_cons ev_c ea_nil)) (ab_L (n := 2) (by decide)))) (by rw [bv_len, bv_len, high_len]; show 2 + 2 ≤ sizeLine; decide))) (es_at (ev_var (i := 4) rfl) k2) (by rw [List.length_append, bv_len, bv_len, bv_len, high_len, List.length_append, high_len]; exact line_le (by show 2 + 2 + (4 + c.length) ≤ _; omega))
  rw [← bv_app, ← bv_app, List.append_assoc] at z
  exact ret_el z fun p2 H4 np e4 k4 => q.go (e1.trans e2) np e4 k4
theorem ok_error_body (T : Txt K mg base) : DefOk P w K mg base 2 (He.ga K "error_body") ["kind", "number", "about"] (sp_error_body K) := by
  obtain ⟨fd, F⟩ := T.fd_error_body
  exact ⟨fd, okF_error_body T F, F.bindsN fun _ _ _ _ _ _ us hl => match us, hl with | [_, _, _], _ => rfl, F.kp⟩
def sp_is_right_error (K : PySem.W.Frag) : Sp := fun vs H Q _ => ∃ (d : Addr) (b : Sv62.Bytes), vs = [.ref d] ∧ H d = some (.lst (bv b)) ∧ b.length < 65536 ∧ RetV (.bl (Sv62.errorFine b)) H Q
theorem len_is_right_error {vs : List V} {H : Hp} {Q : VK} {E : XK} (h : sp_is_right_error K vs H Q E) : vs.length = 1 := by
  obtain ⟨d, b, rfl, _⟩ := h
  rfl
theorem fine_eq {b : Sv62.Bytes} (h : 8 ≤ b.length) (h0 : Sv62.part b 1 1 = 0) : Sv62.errorFine b = decide (V.int (Sv62.part b 2 2 : Int) = V.int (Sv62.sum (b.take 2 ++ b.drop 4) : Int)) := by
  unfold Sv62.errorFine
  rw [sum_zeros (by rw [List.length_take]; omega), h0, decide_eq_true h]
  match b, h with
  | b0 :: b1 :: b2 :: b3 :: r, _ =>
    have e1 : ((b0 :: b1 :: b2 :: b3 :: r).drop 2).take 2 = [b2, b3] := rfl
    have e2 : Sv62.part (b0 :: b1 :: b2 :: b3 :: r) 2 2 = 256 * b2.toNat + b3.toNat := num2 b2 b3
    rw [e1, e2, Bool.eq_iff_iff, decide_eq_true_eq, V.int.injEq]
    simp only [Bool.true_and, beq_self_eq_true, beq_iff_eq]
    have := high2_eq (sum_lt ((b0 :: b1 :: b2 :: b3 :: r).take 2 ++ (b0 :: b1 :: b2 :: b3 :: r).drop 4)) b2 b3
    constructor
    · intro z
      have := this.mp z.symm
      omega
    · intro z
      exact (this.mpr (by omega)).symm
theorem sc_is_right_error : FnScope ["body"] ["body"] (defScope s_is_right_error) := ⟨rfl, rfl, rfl, by decide +kernel, rfl, by decide +kernel, by decide +kernel⟩
theorem okF_is_right_error (T : Txt K mg base) {fd : FuncData} (F : FunD K d_is_right_error.name d_is_right_error.qual d_is_right_error.params d_is_right_error.body d_is_right_error.scope [] [] (He.fAd K d_is_right_error.at_) fd) : FnOk P w K mg base CX0 2 (He.ga K "is_right_error") fd ["body"] (sp_is_right_error K) := by
  obtain ⟨fd_number_at, G_number_at, b_number_at, k_number_at⟩ := ok_number_at (P := P) (w := w) (base := base) T
  obtain ⟨fd_sum_of, G_sum_of, b_sum_of, k_sum_of⟩ := ok_sum_of (P := P) (w := w) (base := base) T
  refine F.ok sc_is_right_error (fun vs H Q E h => len_is_right_error h) (fun cdv Ar outer s H vs Q E hr h => ?_)
  refine ⟨_, PSs.nox (pss_cons (ps_if (PW.pt (pw_or (pt_cmpR op_lt (pe_callB call_len_seq (by rfl) T.f_len PySem.boot_len (pa_cons (pv 0) pa_nil)) (pe_gi rfl T.c_FRONT_LENGTH) (nomark _)) (pw_or1 (pt_cmpR op_ne (pe_ix ix_list (pv 0) pe_int (fun _ _ => rfl)) pe_int (nomark _))))) (pss_one (ps_ret pe_bl)) pss_nil)
      (pss_one (ps_ret (pe_cmpR op_eq (pe_call G_number_at (hr.mono (by decide)) rfl T.g_number_at k_number_at b_number_at .nil pass0 (pa_cons (pv 0) (pa_cons pe_int (pa_cons pe_int pa_nil)))) (pe_call G_sum_of (hr.mono (by decide)) rfl T.g_sum_of k_sum_of b_sum_of .nil pass0 (pa_cons (pe_op op_cat (pe_slice sl_list (pv 0) po_none (po_some pe_int)) (pe_slice sl_list (pv 0) (po_some pe_int) po_none)) pa_nil)) (nomark _))))), ?_⟩
  obtain ⟨d, b, rfl, hd, hl, q⟩ := h
  refine sq_if (b := decide (b.length < 8) || !(Sv62.part b 1 1 == 0)) ?_ (fun hb H1 e1 => ?_) (fun hb H1 e1 => ?_)
  · refine et_or (et_is (et_test (ev_op (ev_len (K := K) (ev_var rfl) (sq_of hd)) ev_c rv_I0)) ?_) fun h8 => et_is (et_test (ev_op (ev_op (ev_var rfl) ev_c (rv_ixL (K := K) (sq_of hd) (atI_nat (bv_get (i := 1) ?_)))) ev_c (rv_ne rfl))) ?_
    · rw [bv_len]
      apply decide_eq_decide.mpr
      omega
    · have := of_decide_eq_false h8
      omega
    · rw [← nat_eq_val]
      rfl
  · refine ret_ev ev_c fun H2 e2 => ?_
    have := q H2 (e1.trans e2)
    have hf : Sv62.errorFine b = false := by
      unfold Sv62.errorFine
      rw [Bool.or_eq_true, decide_eq_true_eq] at hb
      rcases hb with hb | hb
      · rw [decide_eq_false (by omega)]
        rfl
      · rw [Bool.not_eq_true'] at hb
        rw [hb, Bool.false_and, Bool.and_false]
    rw [hf] at this
    exact this
  · rw [Bool.or_eq_false_iff, decide_eq_false_iff_not, Bool.not_eq_false', beq_iff_eq] at hb
    have hd1 := e1 _ _ hd
    have cat : EvL (tOp rCat (tSl (rSlL K) (tVar 0) tNoPart (tPart (tC (.int 2)))) (tSl (rSlL K) (tVar 0) (tPart (tC (.int 4))) tNoPart)) [some (.ref d)] H1 (bv (b.take 2 ++ b.drop 4)) := by
      have z1 := el_sl (K := K) (te := tVar 0) (tl := tNoPart) (th := tPart (tC (.int 2))) (σ := [some (.ref d)]) (H := H1) (lo := none) (hi := some ((2 : Nat) : Int)) (ev_var rfl) eo_none (eo_some ev_c) (sq_of hd1)
      have z2 := el_sl (K := K) (te := tVar 0) (tl := tPart (tC (.int 4))) (th := tNoPart) (σ := [some (.ref d)]) (H := H1) (lo := some ((4 : Nat) : Int)) (hi := none) (ev_var rfl) (eo_some ev_c) eo_none (sq_of hd1)
      rw [cut_to, bv_take] at z1
      rw [cut_from, bv_drop] at z2
      rw [bv_app]
      exact el_cat (es_el z1) (es_el z2) (by rw [bv_len, bv_len, List.length_take, List.length_drop]; exact line_le (by omega))
    refine ret_ev (ev_is (ev_op (ev_call (ea_cons (ev_var rfl) (ea_cons ev_c (ea_cons ev_c ea_nil))) (fun H2 e2 Q q _ => ⟨d, b, 2, 2, rfl, e2 _ _ hd1, q⟩)) (ev_callR (ar_es (es_el cat) ar_nil) fun vs H4 e4 ⟨c2, r, e5, hc2, e6⟩ => ?_) (rv_eq rfl)) (congrArg V.bl (fine_eq (by omega) hb.2).symm)) fun H2 e2 => q H2 (e1.trans e2)
    subst e5 e6
    exact fun H5 e5 Q q E => ⟨c2, _, rfl, e5 _ _ hc2, by rw [List.length_append, List.length_take, List.length_drop]; omega, q⟩
theorem ok_is_right_error (T : Txt K mg base) : DefOk P w K mg base 2 (He.ga K "is_right_error") ["body"] (sp_is_right_error K) := by
  obtain ⟨fd, F⟩ := T.fd_is_right_error
  exact ⟨fd, okF_is_right_error T F, F.bindsN fun _ _ _ _ _ _ us hl => match us, hl with | [_], _ => rfl, F.kp⟩
end
end Lp
set_option maxHeartbeats 400000000
namespace Lp
open PySem PySem.Spec PyProof.Rows L2 Evl
/-! ### readings opened one step -/
theorem ret_of {te : TE} {D : Ends} {σ : L2.St} {H : Hp} (h : te σ H D.rt) : tRet te D σ H := h
theorem call_of {sp : Sp} {ta : TA} {E : XK} {σ : L2.St} {H : Hp} {Q : VK} (h : ta σ H fun vs H1 => sp vs H1 Q E) : tCall sp [] E ta σ H Q := by
  show ta σ H fun vs H1 => sp (vs ++ []) H1 Q E
  simp only [List.append_nil]
  exact h
theorem cons_of {te : TE} {tr : TA} {σ : L2.St} {H : Hp} {Q : List V → Hp → Prop} (h : te σ H fun x H1 => tr σ H1 fun xs H2 => Q (x :: xs) H2) : tCons te tr σ H Q := h
theorem nil_of {σ : L2.St} {H : Hp} {Q : List V → Hp → Prop} (h : Q [] H) : tNil σ H Q := h
theorem make_of {C : Addr} {sp : Sp} {ta : TA} {E : XK} {σ : L2.St} {H : Hp} {Q : VK} (h : ta σ H fun vs H1 => ∀ x dx, H1 x = none → H1 dx = none → dx ≠ x → sp (.ref x :: vs) (upd (upd H1 dx (.own x)) x (.ins C dx [])) (fun v H2 => v = .non ∧ Q (.ref x) H2) E) : tMake C sp [] E ta σ H Q := by
  show ta σ H fun vs H1 => ∀ x dx, H1 x = none → H1 dx = none → dx ≠ x → sp (.ref x :: (vs ++ [])) (upd (upd H1 dx (.own x)) x (.ins C dx [])) (fun v H2 => v = .non ∧ Q (.ref x) H2) E
  simp only [List.append_nil]
  exact h
theorem new_leaf {C : Addr} {n : Nat} {F : List V → List (Str × V)} {ws : List V} {H1 : Hp} {Q : VK} {E : XK} (hn : ws.length = n) (k : ∀ p dx H2, H1 p = none → Ex H1 H2 → H2 p = some (.ins C dx (F ws)) → Q (.ref p) H2) :
    ∀ x dx, H1 x = none → H1 dx = none → dx ≠ x → spNew C n F (.ref x :: ws) (upd (upd H1 dx (.own x)) x (.ins C dx [])) (fun v H2 => v = .non ∧ Q (.ref x) H2) E := fun x dx nx nd ne =>
  ⟨x, dx, ws, rfl, hn, upd_same, fun H3 h3 keep => ⟨rfl, k x dx H3 nx (made_ex (Ex.refl H1) nx nd keep) h3⟩⟩
theorem ev_go {te : TE} {σ : L2.St} {H : Hp} {v : V} {Q : VK} (h : Ev te σ H v) (k : ∀ H1, Ex H H1 → Q v H1) : te σ H Q := h H (Ex.refl H) Q k
theorem x_go {te : TE} {σ : L2.St} {H : Hp} {R : V → Hp → Prop} {Q : VK} (h : EvX te σ H R) (k : ∀ z H1, R z H1 → Q z H1) : te σ H Q := h Q k
/-! ### ways that are there -/
theorem search_inv {g : Nat → Option Way3} {w : Way3} : ∀ {k o : Nat}, searchFrom g k o = some w → ∃ b, g b = some w
  | 0, _, h => nomatch (show (none : Option Way3) = some w from h)
  | k + 1, o, h => by
    cases e : g (32 - o) with
    | none =>
      rw [search_step _ _ _ e] at h
      exact search_inv h
    | some y =>
      rw [search_hit _ _ _ e] at h
      exact ⟨_, e.trans h⟩
theorem best_link {n : Sv62.Net} (G : Good n) {a : Nat} {w : Sv62.Way} (h : n.best a = some w) : w.link < 4 ∧ ∃ l, n.link w.link = some l := by
  have h1 := best_search G a
  rw [h] at h1
  obtain ⟨b, hb⟩ := search_inv h1.symm
  obtain ⟨_, h2, h3⟩ := wayAt_ok G hb
  exact ⟨h2, Option.isSome_iff_exists.mp h3⟩
theorem own_best {n : Sv62.Net} (G : Good n) {a : Nat} (h : n.own a = true) : ∃ w, n.best a = some w := by
  unfold Sv62.Net.own at h
  rw [List.any_eq_true] at h
  obtain ⟨o, ho, hm⟩ := h
  cases o with
  | none => cases hm
  | some l =>
    have hla : l.address = a := by simpa using hm
    obtain ⟨k, hk, ek⟩ := List.getElem_of_mem ho
    have k4 : k < 4 := by
      rw [← G.len]
      exact hk
    have el : n.link k = some l := by
      have := link_at G k4
      rw [List.getElem?_eq_getElem hk, ek] at this
      exact (Option.some.inj this).symm
    have hmem : (⟨l.address, l.bits, k, 0⟩ : Sv62.Way) ∈ n.leads a := by
      rw [leads_eq, List.mem_append]
      refine .inl (List.mem_filter.mpr ⟨List.mem_filterMap.mpr ⟨k, List.mem_range.mpr k4, ?_⟩, ?_⟩)
      · unfold ownWay
        rw [el]
        rfl
      · show Sv62.agree a l.address l.bits = true
        unfold Sv62.agree
        rw [hla]
        exact beq_self_eq_true _
    rw [best_is_pick]
    rcases pick_none (n.leads a) with ⟨e, _⟩ | ⟨y, hy, _⟩
    · rw [e] at hmem
      cases hmem
    · exact ⟨y, hy⟩
/-- a call's end: the machine moved, a list that's new -/
def Done (K : PySem.W.Frag) (H : Hp) (m : Addr) (f : Foot) (n' : Sv62.Net) (ans : List Int) (p : Addr) (H' : Hp) : Prop :=
  ∃ f' : Foot, Moved K H m f n' H' f' ∧ (p ∈ f.all m ∨ New H p) ∧ p ∉ f'.all m ∧ H' p = some (.lst (ans.map V.int))
section
variable {K : PySem.W.Frag} {H H' : Hp} {m : Addr} {n : Sv62.Net} {f : Foot}
theorem Done.same {p : Addr} {ans : List Int} (M : MachAt K H m n f) (e : Ex H H') (np : H p = none) (hp : H' p = some (.lst (ans.map V.int))) : Done K H m f n ans p H' :=
  ⟨f, .same M e, .inr (.of np), M.fresh np, hp⟩
theorem Done.after {H1 : Hp} {p : Addr} {ans : List Int} {n' : Sv62.Net} (e : Ex H H1) (d : Done K H1 m f n' ans p H') : Done K H m f n' ans p H' := by
  obtain ⟨f', h1, h2, h3, h4⟩ := d
  refine ⟨f', h1.after e, ?_, h3, h4⟩
  rcases h2 with h2 | h2
  · exact .inl h2
  · exact .inr fun o ho => h2 o (e _ _ ho)
theorem Moved.isNew {H1 : Hp} {p : Addr} {n' : Sv62.Net} {f' : Foot} (d : Moved K H m f n' H1 f') (np : New H1 p) : p ∈ f.all m ∨ New H p := by
  by_cases c : p ∈ f.all m
  · exact .inl c
  · refine .inr fun o ho => ?_
    cases t : ntb o with
    | false => rfl
    | true =>
      have := np o (d.keep p o ho c t)
      rw [t] at this
      exact this
/-- the machine moved, then a list that's new -/
theorem Moved.done {H1 : Hp} {p : Addr} {ans : List Int} {n' : Sv62.Net} {f' : Foot} (d : Moved K H m f n' H1 f') (e : Ex H1 H') (np : H1 p = none) (hp : H' p = some (.lst (ans.map V.int))) : Done K H m f n' ans p H' :=
  ⟨f', d.then e, d.isNew (.of np), d.at_.fresh np, hp⟩
end
section
variable {P : Program} {w : World} {K : PySem.W.Frag} {mg : Str → Option Value} {base : Heap}
/-! ### errors that go back -/
def sp_error_head (K : PySem.W.Frag) : Sp := fun vs H Q _ => ∃ (m : Addr) (n : Sv62.Net) (f : Foot) (s t : Nat) (d : Addr) (b : Sv62.Bytes), vs = [.ref m, .int (s : Int), .int (t : Int), .ref d] ∧ MachAt K H m n f ∧ H d = some (.lst (bv b)) ∧
  ∀ a H', Moved K H m f n.named H' f → a ∉ f.all m → HeadAt K H' a ⟨64, 1, 0, 20 + b.length, n.name, 0, s, t⟩ → Q (.ref a) H'
theorem len_error_head {vs : List V} {H : Hp} {Q : VK} {E : XK} (h : sp_error_head K vs H Q E) : vs.length = 4 := by
  obtain ⟨m, n, f, s, t, d, b, rfl, _⟩ := h
  rfl
theorem sc_error_head : FnScope ["machine", "sender", "to", "body"] ["machine", "sender", "to", "body"] (defScope s_error_head) := ⟨rfl, rfl, rfl, by decide +kernel, rfl, by decide +kernel, by decide +kernel⟩
theorem okF_error_head (T : Txt K mg base) {fd : FuncData} (F : FunD K d_error_head.name d_error_head.qual d_error_head.params d_error_head.body d_error_head.scope [] [] (He.fAd K d_error_head.at_) fd) : FnOk P w K mg base CX0 3 (He.ga K "error_head") fd ["machine", "sender", "to", "body"] (sp_error_head K) := by
  obtain ⟨fd_Head__init, G_Head__init, b_Head__init, k_Head__init⟩ := ok_Head__init (P := P) (w := w) (base := base) T
  obtain ⟨fd_Machine__use_name, G_Machine__use_name, b_Machine__use_name, k_Machine__use_name⟩ := ok_Machine__use_name (P := P) (w := w) (base := base) T
  refine F.ok sc_error_head (fun vs H Q E h => len_error_head h) (fun cdv Ar outer s H vs Q E hr h => ?_)
  refine ⟨_, PSs.nox (pss_one (ps_ret (pe_make T.mk_Head G_Head__init (hr.mono (by decide)) rfl T.g_Head b_Head__init .nil pass0 (pa_cons (pe_gi rfl T.c_ERROR_HOPS) (pa_cons (pe_gi rfl T.c_ERROR_heads) (pa_cons pe_int (pa_cons (pe_op op_add (pe_gi rfl T.c_HEAD_LENGTH) (pe_callB call_len_seq (by rfl) T.f_len PySem.boot_len (pa_cons (pv 3) pa_nil))) (pa_cons (pe_meth0 (pv 0) T.cl_Machine T.me_Machine_use_name G_Machine__use_name (hr.mono (by decide)) b_Machine__use_name .nil pass0) (pa_cons pe_int (pa_cons (pv 1) (pa_cons (pv 2) pa_nil))))))))))), ?_⟩
  obtain ⟨m, n, f, s1, t, d, b, rfl, M, hd, q⟩ := h
  obtain ⟨dm, om⟩ := M.obj
  refine ret_of (make_of (cons_of (ev_go (v := V.int 64) ev_c fun H1 e1 => cons_of (ev_go (v := V.int 1) ev_c fun H2 e2 => cons_of (ev_go (v := V.int 0) ev_c fun H3 e3 => cons_of ?_)))))
  have e13 := (e1.trans e2).trans e3
  refine ev_go (v := V.int ((20 + b.length : Nat) : Int)) (ev_is (ev_op ev_c (ev_len (K := K) (ev_var (i := 3) rfl) (sq_of (e13 _ _ hd))) rv_I0) (by rw [bv_len]; rfl)) fun H4 e4 => cons_of ?_
  have e14 := e13.trans e4
  refine x_go (x_meth (K := K) (R := fun z H' => z = .int (n.name : Int) ∧ Moved K H m f n.named H' f) (ev_var (i := 0) rfl) (e14 _ _ om) F_Machine_no_use_name (fun H5 e5 Q5 E5 q5 => ⟨m, n, f, rfl, M.ex (e14.trans e5), fun H' mv => q5 _ _ ⟨rfl, mv.after (e14.trans e5)⟩⟩)) ?_
  rintro _ H5 ⟨rfl, mv⟩
  refine cons_of (ev_go (v := V.int 0) ev_c fun H6 e6 => cons_of (ev_go (v := V.int (s1 : Int)) (ev_var (i := 1) rfl) fun H7 e7 => cons_of (ev_go (v := V.int (t : Int)) (ev_var (i := 2) rfl) fun H8 e8 => nil_of (new_leaf rfl fun x dx H9 nx e9 h9 => ?_))))
  have e58 := (e6.trans e7).trans e8
  exact q x H9 (mv.then (e58.trans e9)) (mv.at_.fresh (fresh_back e58 nx)) ⟨dx, h9⟩
theorem ok_error_head (T : Txt K mg base) : DefOk P w K mg base 3 (He.ga K "error_head") ["machine", "sender", "to", "body"] (sp_error_head K) := by
  obtain ⟨fd, F⟩ := T.fd_error_head
  exact ⟨fd, okF_error_head T F, F.bindsN fun _ _ _ _ _ _ us hl => match us, hl with | [_, _, _, _], _ => rfl, F.kp⟩
theorem errPk_head (nm s t : Nat) (eb : Sv62.Bytes) : (⟨64, 1, 0, 20 + eb.length, nm, 0, s, t⟩ : Hd) = hdOf ⟨64, 1, false, false, nm, 0, s, t, eb⟩ (20 + eb.length) := rfl
def sp_error_back (K : PySem.W.Frag) : Sp := fun vs H Q _ => ∃ (m : Addr) (n : Sv62.Net) (f : Foot) (kind number : Nat) (a : Addr) (p : Sv62.Packet) (n0 : Nat) (d : Addr) (b : Sv62.Bytes), vs = [.ref m, .int (kind : Int), .int (number : Int), .ref a, .ref d] ∧ MachAt K H m n f ∧ kind < 256 ∧
  HeadAt K H a (hdOf p n0) ∧ a ∉ f.all m ∧ H d = some (.lst (bv b)) ∧ d ∉ f.all m ∧ 1 ≤ p.from_ ∧ p.from_ < 4294967295 ∧ ∀ q H', Done K H m f (n.error kind number p b).1 ((n.error kind number p b).2.flatMap Sv62Neutral.wanted) q H' → Q (.ref q) H'
theorem len_error_back {vs : List V} {H : Hp} {Q : VK} {E : XK} (h : sp_error_back K vs H Q E) : vs.length = 5 := by
  obtain ⟨m, n, f, kind, number, a, p, n0, d, b, rfl, _⟩ := h
  rfl
theorem sc_error_back : FnScope ["machine", "kind", "number", "head", "data", "way", "body", "sender"] ["machine", "kind", "number", "head", "data"] (defScope s_error_back) := ⟨rfl, rfl, rfl, by decide +kernel, rfl, by decide +kernel, by decide +kernel⟩
theorem okF_error_back (T : Txt K mg base) {fd : FuncData} (F : FunD K d_error_back.name d_error_back.qual d_error_back.params d_error_back.body d_error_back.scope [] [] (He.fAd K d_error_back.at_) fd) : FnOk P w K mg base CX0 6 (He.ga K "error_back") fd ["machine", "kind", "number", "head", "data"] (sp_error_back K) := by
  obtain ⟨fd_sent_by, G_sent_by, b_sent_by, k_sent_by⟩ := ok_sent_by (P := P) (w := w) (base := base) T
  obtain ⟨fd_error_head, G_error_head, b_error_head, k_error_head⟩ := ok_error_head (P := P) (w := w) (base := base) T
  obtain ⟨fd_is_for_machine, G_is_for_machine, b_is_for_machine, k_is_for_machine⟩ := ok_is_for_machine (P := P) (w := w) (base := base) T
  obtain ⟨fd_told_upward, G_told_upward, b_told_upward, k_told_upward⟩ := ok_told_upward (P := P) (w := w) (base := base) T
  obtain ⟨fd_error_body, G_error_body, b_error_body, k_error_body⟩ := ok_error_body (P := P) (w := w) (base := base) T
  obtain ⟨fd_way_to, G_way_to, b_way_to, k_way_to⟩ := ok_way_to (P := P) (w := w) (base := base) T
  refine F.ok sc_error_back (fun vs H Q E h => len_error_back h) (fun cdv Ar outer s H vs Q E hr h => ?_)
  refine ⟨_, PSs.nox (pss_cons (ps_if (PW.pt (pw_or (pt_cmpR op_eq (pe_fld (pv 3) rfl) (pe_gi rfl T.c_ERROR_heads) (nomark _)) (pw_or (pt_cmpR op_ne (pe_fld (pv 3) rfl) pe_int (nomark _)) (pw_or1 (pt_cmpR op_eq (pe_fld (pv 3) rfl) (pe_gi rfl T.c_EVERYBODY) (nomark _)))))) (pss_one (ps_ret (pe_lst pa_nil))) pss_nil)
      (pss_cons (ps_set (i := 5) sc_error_back.nd rfl (Or.inl rfl) (pe_call G_way_to (hr.mono (by decide)) rfl T.g_way_to k_way_to b_way_to .nil pass0 (pa_cons (pv 0) (pa_cons (pe_fld (pv 3) rfl) pa_nil))))
      (pss_cons (ps_if (pt_cmpR op_isN (pv 5) pe_non (nomark _)) (pss_one (ps_ret (pe_lst pa_nil))) pss_nil)
      (pss_cons (ps_set (i := 6) sc_error_back.nd rfl (Or.inl rfl) (pe_call G_error_body (hr.mono (by decide)) rfl T.g_error_body k_error_body b_error_body .nil pass0 (pa_cons (pv 1) (pa_cons (pv 2) (pa_cons (pe_slice sl_list (pv 4) po_none (po_some (pe_gi rfl T.c_ABOUT_LENGTH))) pa_nil)))))
      (pss_cons (ps_if (pt_val (pe_call G_is_for_machine (hr.mono (by decide)) rfl T.g_is_for_machine k_is_for_machine b_is_for_machine .nil pass0 (pa_cons (pv 0) (pa_cons (pe_fld (pv 3) rfl) pa_nil)))) (pss_one (ps_ret (pe_call G_told_upward (hr.mono (by decide)) rfl T.g_told_upward k_told_upward b_told_upward .nil pass0 (pa_cons (pe_gi rfl T.c_NO_LINK) (pa_cons (pe_call G_error_head (hr.mono (by decide)) rfl T.g_error_head k_error_head b_error_head .nil pass0 (pa_cons (pv 0) (pa_cons (pe_fld (pv 3) rfl) (pa_cons (pe_fld (pv 3) rfl) (pa_cons (pv 6) pa_nil))))) (pa_cons (pv 6) pa_nil)))))) pss_nil)
      (pss_cons (ps_set (i := 7) sc_error_back.nd rfl (Or.inl rfl) (pe_fld (pe_ix ix_list (pe_fld (pv 0) rfl) (pe_fld (pv 5) rfl) (fun _ _ => rfl)) rfl))
      (pss_one (ps_ret (pe_call G_sent_by (hr.mono (by decide)) rfl T.g_sent_by k_sent_by b_sent_by .nil pass0 (pa_cons (pv 0) (pa_cons (pv 5) (pa_cons (pe_call G_error_head (hr.mono (by decide)) rfl T.g_error_head k_error_head b_error_head .nil pass0 (pa_cons (pv 0) (pa_cons (pv 7) (pa_cons (pe_fld (pv 3) rfl) (pa_cons (pv 6) pa_nil))))) (pa_cons (pv 6) pa_nil))))))))))))), ?_⟩
  obtain ⟨m, n, f, kind, number, a, p, n0, d, b, rfl, M, hk, ha, na, hd, nd, hf1, hf2, q⟩ := h
  refine sq_if (b := (p.what == 1) || (!(p.place == 0) || (p.to == 4294967295))) ?_ (fun hb H1 e1 => ?_) (fun hb H1 e1 => ?_)
  · refine et_or (et_is (et_test (ev_op (fl_what T rfl ha) ev_c (rv_eq rfl))) ?_) fun _ => et_or (et_is (et_test (ev_op (fl_place T rfl ha) ev_c (rv_ne rfl))) ?_) fun _ => et_is (et_test (ev_op (fl_to T rfl ha) ev_c (rv_eq rfl))) ?_
    · exact nat_eq_val p.what 1
    · exact congrArg _ (nat_eq_val p.place 0)
    · exact nat_eq_val p.to 4294967295
  · have hc : p.what = 1 ∨ p.place ≠ 0 ∨ p.to = Sv62.EVERYBODY := by
      simp only [Bool.or_eq_true, beq_iff_eq, Bool.not_eq_true', beq_eq_false_iff_ne] at hb
      exact hb
    have er : n.error kind number p b = (n, []) := by
      unfold Sv62.Net.error
      rw [if_pos hc]
    rw [er] at q
    exact ret_el (el_lst ea_nil (by show 0 ≤ 100000; decide)) fun r H2 nr e2 k2 => q r H2 (Done.same M (e1.trans e2) (fresh_back e1 nr) k2)
  · have hc : ¬ (p.what = 1 ∨ p.place ≠ 0 ∨ p.to = Sv62.EVERYBODY) := by
      simp only [Bool.or_eq_false_iff, beq_eq_false_iff_ne, Bool.not_eq_false', beq_iff_eq] at hb
      rintro (z | z | z)
      · exact hb.1 z
      · exact z hb.2.1
      · exact hb.2.2 z
    have M1 := M.ex e1
    have ha1 := ha.ex e1
    refine sq_setR (er_call (ea_cons (ev_var rfl) (ea_cons (fl_sender T rfl ha1) ea_nil)) (wt_r (a := p.from_) M1 (by omega))) fun z H2 e2 hz => ?_
    have e12 := e1.trans e2
    have M2 := M.ex e12
    cases hbst : n.best p.from_ with
    | none =>
      rw [hbst] at hz
      have z0 : z = .non := hz
      subst z0
      have no : n.own p.from_ = false := by
        cases ho : n.own p.from_ with
        | false => rfl
        | true =>
          obtain ⟨w', hw'⟩ := own_best M.good ho
          rw [hbst] at hw'
          cases hw'
      have er : n.error kind number p b = (n, []) := by
        unfold Sv62.Net.error
        rw [if_neg hc, no, if_neg Bool.false_ne_true, hbst]
      rw [er] at q
      refine sq_if (b := true) (et_is (et_test (ev_isN (ev_var rfl))) rfl) (fun _ H3 e3 => ?_) (fun z => Bool.noConfusion z)
      exact ret_el (el_lst ea_nil (by show 0 ≤ 100000; decide)) fun r H4 nr e4 k4 => q r H4 (Done.same M ((e12.trans e3).trans e4) (fresh_back (e12.trans e3) nr) k4)
    | some wy =>
      rw [hbst] at hz
      obtain ⟨hw4, l, hl⟩ := best_link M.good hbst
      have hz' : WayV K H2 (f.all m) z (three wy) := hz
      obtain ⟨wp, wdx, rfl, wn, wo⟩ := hz
      refine sq_if (b := false) (et_is (et_test (ev_isN (ev_var rfl))) rfl) (fun z => Bool.noConfusion z) fun _ H3 e3 => ?_
      have e13 := e12.trans e3
      have M3 := M.ex e13
      have ha3 := ha.ex e13
      have hd3 := e13 _ _ hd
      have W3 : WayV K H3 (f.all m) (.ref wp) (three wy) := hz'.ex e3
      refine sq_setEL (xs := bv (Sv62.errorBody kind number b)) ?_ fun eb H4 neb e4 k4 => ?_
      · have sl := el_sl (K := K) (te := tVar 4) (tl := tNoPart) (th := tPart (tC (.int 28))) (σ := [some (.ref m), some (.int (kind : Int)), some (.int (number : Int)), some (.ref a), some (.ref d), some (.ref wp), none, none]) (H := H3) (lo := none) (hi := some ((28 : Nat) : Int)) (ev_var rfl) eo_none (eo_some ev_c) (sq_of hd3)
        rw [cut_to, bv_take] at sl
        rw [← errB_eq]
        refine el_callR (ar_ev (ev_var rfl) (ar_ev (ev_var rfl) (ar_es (es_el sl) ar_nil))) fun ws H5 e5 ⟨r1, w1, r2, w2, c, r3, w3, hc, w4⟩ => ?_
        subst w1 w2 w3 w4
        exact fun H6 e6 Q q _ => ⟨kind, number, c, b.take 28, rfl, hk, e6 _ _ hc, by rw [List.length_take]; omega, q⟩
      have e14 := e13.trans e4
      have M4 := M.ex e14
      have ha4 := ha.ex e14
      have elen : (Sv62.errorBody kind number b).length ≤ 36 := by
        rw [← errB_eq, errB_len, List.length_take]
        omega
      have ebn : eb ∉ f.all m := M3.fresh neb
      have mi : n.mine p.from_ = n.own p.from_ := by
        unfold Sv62.Net.mine Sv62.EVERYBODY
        rw [beq_eq_false_iff_ne.mpr (by omega), Bool.false_or]
      refine sq_if (b := n.own p.from_) (et_is (et_B (ev_call (ea_cons (ev_var rfl) (ea_cons (fl_sender T rfl ha4) ea_nil)) (fun H5 e5 Q q _ => ⟨m, n, f, p.from_, rfl, M4.ex e5, q⟩))) mi) (fun ho H5 e5 => ?_) (fun ho H5 e5 => ?_)
      · have er : n.error kind number p b = (n.named, [.up 4 (⟨64, 1, false, false, n.name, 0, p.from_, p.from_, Sv62.errorBody kind number b⟩ : Sv62.Packet).head (Sv62.errorBody kind number b)]) := by
          unfold Sv62.Net.error
          rw [if_neg hc, if_pos ho]
        rw [er] at q
        have e15 := e14.trans e5
        have M5 := M.ex e15
        have ha5 := ha.ex e15
        have k5 := e5 _ _ k4
        refine ret_of (call_of (cons_of (ev_go (v := V.int 4) ev_c fun H6 e6 => cons_of ?_)))
        refine x_go (x_call (R := fun z H' => ∃ c, z = .ref c ∧ Moved K H5 m f n.named H' f ∧ c ∉ f.all m ∧ HeadAt K H' c ⟨64, 1, 0, 20 + (Sv62.errorBody kind number b).length, n.name, 0, p.from_, p.from_⟩) (ea_cons (ev_var (i := 0) rfl) (ea_cons (fl_sender T (i := 3) rfl (ha5.ex e6)) (ea_cons (fl_sender T (i := 3) rfl (ha5.ex e6)) (ea_cons (ev_var (i := 6) rfl) ea_nil)))) (fun H7 e7 Q7 E7 q7 => ⟨m, n, f, p.from_, p.from_, eb, _, rfl, M5.ex (e6.trans e7), (e6.trans e7) _ _ k5, fun c H8 mv nc hA => q7 _ _ ⟨c, rfl, mv.after (e6.trans e7), nc, hA⟩⟩)) ?_
        rintro _ H7 ⟨c, rfl, mv, nc, hA⟩
        refine cons_of (ev_go (v := V.ref eb) (ev_var (i := 6) rfl) fun H8 e8 => nil_of ?_)
        have kb : H8 eb = some (.lst (bv (Sv62.errorBody kind number b))) := e8 _ _ (mv.keep _ _ k5 ebn rfl)
        refine ⟨4, c, _, eb, _, rfl, hA.ex e8, ⟨by show 64 < 256; decide, by show 1 < 256; decide, by show 0 < 256; decide⟩, kb, by omega, fun r H9 nr e9 k9 => ?_⟩
        refine q r H9 (Done.after e15 (mv.done (e8.trans e9) (fresh_back e8 nr) ?_))
        rw [errPk_head, hdOf_bytes] at k9
        rw [k9]
        simp only [List.flatMap_cons, List.flatMap_nil, List.append_nil]
        rfl
      · have er : n.error kind number p b = (n.named, Sv62.outBy wy.link wy.next l ⟨64, 1, false, false, n.name, 0, l.address, p.from_, Sv62.errorBody kind number b⟩) := by
          unfold Sv62.Net.error
          rw [if_neg hc, ho, if_neg Bool.false_ne_true, hbst]
          show (match n.link wy.link with | none => (n, []) | some l => _) = _
          rw [hl]
        rw [er] at q
        have e15 := e14.trans e5
        have M5 := M.ex e15
        have k5 := e5 _ _ k4
        obtain ⟨dm, om⟩ := M5.obj
        obtain ⟨vs, ol, pl⟩ := M5.lks
        obtain ⟨lv, hlv, hl2⟩ := pr_get pl (link_at M.good hw4)
        rw [hl] at hl2
        obtain ⟨lp, ldx, rfl, ln, lo⟩ := hl2
        have W5 : WayV K H5 (f.all m) (.ref wp) (three wy) := W3.ex (e4.trans e5)
        have wo5 := (e4.trans e5) _ _ (e3 _ _ wo)
        refine sq_set (v := .int (l.address : Int)) (ev_fld (ev_op (ev_fld (ev_var rfl) om T.cl_Machine T.n_Machine_links F_Machine_links) (ev_fld (ev_var rfl) wo5 T.cl_Way T.n_Way_link F_Way_link) (rv_ixL (sq_of ol) (atI_nat hlv))) lo T.cl_Link T.n_Link_address F_Link_address) fun H6 e6 => ?_
        have e16 := e15.trans e6
        have M6 := M.ex e16
        have ha6 := ha.ex e16
        have k6 := e6 _ _ k5
        refine ret_of (call_of (cons_of (ev_go (v := V.ref m) (ev_var (i := 0) rfl) fun H7 e7 => cons_of (ev_go (v := V.ref wp) (ev_var (i := 5) rfl) fun H8 e8 => cons_of ?_))))
        have e68 := e7.trans e8
        refine x_go (x_call (R := fun z H' => ∃ c, z = .ref c ∧ Moved K H6 m f n.named H' f ∧ c ∉ f.all m ∧ HeadAt K H' c ⟨64, 1, 0, 20 + (Sv62.errorBody kind number b).length, n.name, 0, l.address, p.from_⟩) (ea_cons (ev_var (i := 0) rfl) (ea_cons (ev_var (i := 7) rfl) (ea_cons (fl_sender T (i := 3) rfl (ha6.ex e68)) (ea_cons (ev_var (i := 6) rfl) ea_nil)))) (fun H9 e9 Q9 E9 q9 => ⟨m, n, f, l.address, p.from_, eb, _, rfl, M6.ex (e68.trans e9), (e68.trans e9) _ _ k6, fun c H8 mv nc hA => q9 _ _ ⟨c, rfl, mv.after (e68.trans e9), nc, hA⟩⟩)) ?_
        rintro _ H9 ⟨c, rfl, mv, nc, hA⟩
        refine cons_of (ev_go (v := V.ref eb) (ev_var (i := 6) rfl) fun Ha ea => nil_of ?_)
        have kb : Ha eb = some (.lst (bv (Sv62.errorBody kind number b))) := ea _ _ (mv.keep _ _ k6 ebn rfl)
        have W6 : WayV K H6 (f.all m) (.ref wp) (three wy) := W5.ex e6
        have Wa : WayV K Ha (f.all m) (.ref wp) (three wy) := (W6.keep mv.keep mv.sub).ex ea
        refine ⟨m, n.named, f, .ref wp, f.all m, three wy, l, c, ⟨64, 1, false, false, n.name, 0, l.address, p.from_, Sv62.errorBody kind number b⟩, 20 + (Sv62.errorBody kind number b).length, eb, rfl, mv.at_.ex ea, Wa, hw4, hl, hA.ex ea, kb, by show 64 < 256; decide, by show 1 < 256; decide, by show (Sv62.errorBody kind number b).length ≤ _; omega, fun r Hb nr eb2 kb2 => ?_⟩
        exact q r Hb (Done.after e16 (mv.done (ea.trans eb2) (fresh_back ea nr) kb2))
theorem ok_error_back (T : Txt K mg base) : DefOk P w K mg base 6 (He.ga K "error_back") ["machine", "kind", "number", "head", "data"] (sp_error_back K) := by
  obtain ⟨fd, F⟩ := T.fd_error_back
  exact ⟨fd, okF_error_back T F, F.bindsN fun _ _ _ _ _ _ us hl => match us, hl with | [_, _, _, _, _], _ => rfl, F.kp⟩
end
end Lp
set_option maxHeartbeats 400000000
namespace Lp
open PySem PySem.Spec PyProof.Rows L2 Evl
theorem octets_off (b : Sv62.Bytes) : Sv62Neutral.octets (Sv62Neutral.ofOctets b) = b := by
  unfold Sv62Neutral.octets Sv62Neutral.ofOctets
  rw [List.map_map]
  conv => rhs; rw [← List.map_id b]
  apply List.map_congr_left
  intro c _
  show UInt8.ofNat ((c.toNat : Int)).toNat = c
  rw [Int.toNat_natCast, UInt8.ofNat_toNat]
def spCall (K : PySem.W.Frag) (A : Hp → List Addr → List V → Sv62Neutral.Call → Prop) : Sp := fun vs H Q _ => ∃ (m : Addr) (n : Sv62.Net) (f : Foot) (rest : List V) (c : Sv62Neutral.Call), vs = .ref m :: rest ∧ MachAt K H m n f ∧ A H (f.all m) rest c ∧
  ∀ p H', Done K H m f (Sv62Neutral.step n c).1 (Sv62Neutral.step n c).2 p H' → Q (.ref p) H'
section
variable {K : PySem.W.Frag} {H H' : Hp} {m : Addr} {n : Sv62.Net} {f : Foot}
theorem MachAt.gatU (M : MachAt K H m n f) {b : Addr} {o : HO} (hb : b = m ∨ b = f.lk ∨ b = f.wy ∨ b = f.ga ∨ b = f.tk) : Paired (GathAt K (upd H b o) (f.all m)) f.gs n.parts := by
  have N := footNe M.nd
  have k : Keep H (upd H b o) (f.all m) := Keep.upd (by
    rcases hb with rfl | rfl | rfl | rfl | rfl <;> simp [Foot.all])
  have gat : ∀ {gs : List (Addr × Addr)} {xs : List Sv62.Part}, (∀ g ∈ gs, g ∈ f.gs) → Paired (GathAt K H (f.all m)) gs xs → Paired (GathAt K (upd H b o) (f.all m)) gs xs := by
    intro gs xs hg hp
    induction hp with
    | nil => exact .nil
    | @cons g x l1 l2 h1 h2 ih =>
      have hg1 := hg g List.mem_cons_self
      have n1 := N.one g hg1
      have n2 := N.two g hg1
      have b1 : g.1 ≠ b := by
        rcases hb with rfl | rfl | rfl | rfl | rfl
        · exact n1.1.symm
        · exact n1.2.1.symm
        · exact n1.2.2.1.symm
        · exact n1.2.2.2.1.symm
        · exact n1.2.2.2.2.1.symm
      have b2 : g.2 ≠ b := by
        rcases hb with rfl | rfl | rfl | rfl | rfl
        · exact n2.1.symm
        · exact n2.2.1.symm
        · exact n2.2.2.1.symm
        · exact n2.2.2.2.1.symm
        · exact n2.2.2.2.2.1.symm
      exact .cons (h1.keep k same_sub (fun o q _ => by rw [upd_ne b1]; exact q) (fun o q _ => by rw [upd_ne b2]; exact q)) (ih fun g' h' => hg g' (List.mem_cons_of_mem _ h'))
  exact gat (fun _ h => h) M.gat
theorem MachAt.putLk {vs : List V} {ls : List (Option Sv62.Link)} (M : MachAt K H m n f) (pl : Paired (LinkV K H (f.all m)) vs ls) (G : Good { n with links := ls }) : Moved K H m f { n with links := ls } (upd H f.lk (.lst vs)) f := by
  have N := footNe M.nd
  have k : Keep H (upd H f.lk (.lst vs)) (f.all m) := Keep.upd (by simp [Foot.all])
  obtain ⟨dm, om⟩ := M.obj
  obtain ⟨us, ol, _⟩ := M.lks
  obtain ⟨kvs, h5, h6⟩ := M.wys
  obtain ⟨a, b, c, h9, h10⟩ := M.tks
  have ak : ∀ x ∈ f.av, ∀ o, H x = some o → ntb o = true → (upd H f.lk (.lst vs)) x = some o := fun x hx o h _ => by
    rw [upd_ne (N.av x hx).2.1.symm]
    exact h
  exact ⟨⟨M.nd, ⟨dm, by rw [upd_ne N.m_lk]; exact om⟩, ⟨vs, upd_same, pr_map (fun _ _ z => z.keep k same_sub) pl⟩, ⟨kvs, by rw [upd_ne N.lk_wy.symm]; exact h5, pr_map (fun _ _ z => ⟨z.1, z.2.keep k same_sub⟩) h6⟩, by rw [upd_ne N.lk_ga.symm]; exact M.gas, M.gatU (.inr (.inl rfl)), ⟨a, b, c, by rw [upd_ne N.lk_tk.symm]; exact h9, h10⟩, M.tbe, tabS_upd M.tab N.lk_tb.symm (fun c => by rw [ol]; intro z; exact codeO_lst (Option.some.inj z)), G, ⟨M.gp.few, M.gp.nd, M.gp.name⟩, avs_go M.avs ak⟩, same_sub, k, rfl, ak⟩
theorem MachAt.putWy {kvs : List (List L2.Key × V)} {ws : List Sv62.Way} (M : MachAt K H m n f) (pw : Paired (WEnt K H (f.all m)) kvs ws) (G : Good { n with ways := ws }) : Moved K H m f { n with ways := ws } (upd H f.wy (.dT kvs)) f := by
  have N := footNe M.nd
  have k : Keep H (upd H f.wy (.dT kvs)) (f.all m) := Keep.upd (by simp [Foot.all])
  obtain ⟨dm, om⟩ := M.obj
  obtain ⟨us, ol, pl⟩ := M.lks
  obtain ⟨kvs0, h5, _⟩ := M.wys
  obtain ⟨a, b, c, h9, h10⟩ := M.tks
  have ak : ∀ x ∈ f.av, ∀ o, H x = some o → ntb o = true → (upd H f.wy (.dT kvs)) x = some o := fun x hx o h _ => by
    rw [upd_ne (N.av x hx).2.2.1.symm]
    exact h
  exact ⟨⟨M.nd, ⟨dm, by rw [upd_ne N.m_wy]; exact om⟩, ⟨us, by rw [upd_ne N.lk_wy]; exact ol, pr_map (fun _ _ z => z.keep k same_sub) pl⟩, ⟨kvs, upd_same, pr_map (fun _ _ z => ⟨z.1, z.2.keep k same_sub⟩) pw⟩, by rw [upd_ne N.wy_ga.symm]; exact M.gas, M.gatU (.inr (.inr (.inl rfl))), ⟨a, b, c, by rw [upd_ne N.wy_tk.symm]; exact h9, h10⟩, M.tbe, tabS_upd M.tab N.wy_tb.symm (fun c => by rw [h5]; intro z; exact codeO_dT (Option.some.inj z)), G, ⟨M.gp.few, M.gp.nd, M.gp.name⟩, avs_go M.avs ak⟩, same_sub, k, rfl, ak⟩
theorem MachAt.putTk (M : MachAt K H m n f) (a b c d e : Nat) : Moved K H m f { n with told := a, passed := b, dropped := d + e } (upd H f.tk (.dK (tkv a b c d e))) f := by
  have N := footNe M.nd
  have k : Keep H (upd H f.tk (.dK (tkv a b c d e))) (f.all m) := Keep.upd (by simp [Foot.all])
  obtain ⟨dm, om⟩ := M.obj
  obtain ⟨us, ol, pl⟩ := M.lks
  obtain ⟨kvs, h5, h6⟩ := M.wys
  obtain ⟨a', b', c', h9, h10⟩ := M.tks
  have ak : ∀ x ∈ f.av, ∀ o, H x = some o → ntb o = true → (upd H f.tk (.dK (tkv a b c d e))) x = some o := fun x hx o h _ => by
    rw [upd_ne (N.av x hx).2.2.2.2.1.symm]
    exact h
  exact ⟨⟨M.nd, ⟨dm, by rw [upd_ne N.m_tk]; exact om⟩, ⟨us, by rw [upd_ne N.lk_tk]; exact ol, pr_map (fun _ _ z => z.keep k same_sub) pl⟩, ⟨kvs, by rw [upd_ne N.wy_tk]; exact h5, pr_map (fun _ _ z => ⟨z.1, z.2.keep k same_sub⟩) h6⟩, by rw [upd_ne N.ga_tk]; exact M.gas, M.gatU (.inr (.inr (.inr (.inr rfl)))), ⟨c, d, e, upd_same, rfl⟩, M.tbe, tabS_upd M.tab N.tk_tb.symm (fun c => by rw [h9]; intro z; exact codeO_dK (Option.some.inj z)), ⟨M.good.len, M.good.lok, M.good.wok, M.good.wnd, M.good.wfew⟩, ⟨M.gp.few, M.gp.nd, M.gp.name⟩, avs_go M.avs ak⟩, same_sub, k, rfl, ak⟩
end
theorem pr_set {A B : Type} {F : A → B → Prop} {x : A} {y : B} (h : F x y) : ∀ {xs : List A} {ys : List B}, Paired F xs ys → ∀ j : Nat, Paired F (xs.set j x) (ys.set j y)
  | _, _, .nil, _ => .nil
  | _, _, .cons h1 h2, 0 => .cons h h2
  | _, _, .cons h1 h2, j + 1 => .cons h1 (pr_set h h2 j)
theorem Good.setLink {n : Sv62.Net} (G : Good n) (k : Nat) (o : Option Sv62.Link) (h : ∀ l, o = some l → 1 ≤ l.address ∧ l.address < 4294967295 ∧ l.bits ≤ 32 ∧ 68 ≤ l.fits ∧ l.fits ≤ 1500) : Good { n with links := n.links.set k o } := by
  refine ⟨?_, fun l hl => ?_, G.wok, G.wnd, G.wfew⟩
  · show (n.links.set k o).length = 4
    rw [List.length_set]
    exact G.len
  · rcases List.mem_or_eq_of_mem_set hl with h1 | h1
    · exact G.lok l h1
    · exact h l h1.symm
section
variable {P : Program} {w : World} {K : PySem.W.Frag} {mg : Str → Option Value} {base : Heap}
/-! ### pass -/
def A_pass (_ : Hp) (_ : List Addr) (rest : List V) (c : Sv62Neutral.Call) : Prop := ∃ on : Int, rest = [.int on] ∧ c = [[2, on]]
abbrev sp_answer_pass (K : PySem.W.Frag) : Sp := spCall K A_pass
theorem len_answer_pass {vs : List V} {H : Hp} {Q : VK} {E : XK} (h : sp_answer_pass K vs H Q E) : vs.length = 2 := by
  obtain ⟨m, n, f, rest, c, rfl, _, ⟨on, rfl, _⟩, _⟩ := h
  rfl
theorem step_pass (n : Sv62.Net) (on : Int) : Sv62Neutral.step n [[2, on]] = if Sv62.within on 0 1 = false then (n, [-1]) else ({ n with passes := on == 1 }, [0]) := by
  show ((Sv62.does n (.pass on)).1, (Sv62.does n (.pass on)).2.v :: (Sv62Neutral.ints (Sv62.does n (.pass on)).2.numbers ++ (Sv62.does n (.pass on)).2.wants.flatMap Sv62Neutral.wanted)) = _
  unfold Sv62.does
  by_cases c : Sv62.within on 0 1 = false
  · simp only [if_pos c]
    rfl
  · simp only [if_neg c]
    rfl
theorem sc_answer_pass : FnScope ["machine", "on"] ["machine", "on"] (defScope s_answer_pass) := ⟨rfl, rfl, rfl, by decide +kernel, rfl, by decide +kernel, by decide +kernel⟩
theorem okF_answer_pass (T : Txt K mg base) {fd : FuncData} (F : FunD K d_answer_pass.name d_answer_pass.qual d_answer_pass.params d_answer_pass.body d_answer_pass.scope [] [] (He.fAd K d_answer_pass.at_) fd) : FnOk P w K mg base CX0 1 (He.ga K "answer_pass") fd ["machine", "on"] (sp_answer_pass K) := by
  refine F.ok sc_answer_pass (fun vs H Q E h => len_answer_pass h) (fun cdv Ar outer s H vs Q E hr h => ?_)
  refine ⟨_, PSs.nox (pss_cons (ps_if (PW.pt (pw_and (pt_cmpR op_ne (pv 1) pe_int (nomark _)) (pw_and1 (pt_cmpR op_ne (pv 1) pe_int (nomark _))))) (pss_one (ps_ret (pe_lst (pa_cons (pe_gi rfl T.c_WRONG_ARGUMENTS) pa_nil)))) pss_nil)
      (pss_cons (ps_fld (pv 0) (pe_cmpR op_eq (pv 1) pe_int (nomark _)) rfl)
      (pss_one (ps_ret (pe_lst (pa_cons pe_int pa_nil)))))), ?_⟩
  obtain ⟨m, n, f, _, _, rfl, M, ⟨on, rfl, rfl⟩, q⟩ := h
  rw [step_pass] at q
  refine sq_if (b := !decide (V.int on = V.int 0) && !decide (V.int on = V.int 1)) (et_and (et_test (ev_op (ev_var rfl) ev_c (rv_ne rfl))) fun _ => et_test (ev_op (ev_var rfl) ev_c (rv_ne rfl))) (fun hb H1 e1 => ?_) (fun hb H1 e1 => ?_)
  · rw [Bool.and_eq_true, Bool.not_eq_true', Bool.not_eq_true', decide_eq_false_iff_not, decide_eq_false_iff_not, V.int.injEq, V.int.injEq] at hb
    have c : Sv62.within on 0 1 = false := by
      unfold Sv62.within
      rw [Bool.and_eq_false_iff, decide_eq_false_iff_not, decide_eq_false_iff_not]
      omega
    rw [if_pos c] at q
    refine ret_el (el_lst (ea_cons ev_c ea_nil) (by show 1 ≤ 100000; decide)) fun p H2 np e2 h2 => ?_
    exact q p H2 (Done.same M (e1.trans e2) (fresh_back e1 np) h2)
  · have hb2 : on = 0 ∨ on = 1 := by
      rw [Bool.and_eq_false_iff, Bool.not_eq_false', Bool.not_eq_false', decide_eq_true_iff, decide_eq_true_iff, V.int.injEq, V.int.injEq] at hb
      exact hb
    have c : ¬ Sv62.within on 0 1 = false := by
      unfold Sv62.within
      rw [Bool.and_eq_false_iff, decide_eq_false_iff_not, decide_eq_false_iff_not]
      omega
    rw [if_neg c] at q
    obtain ⟨dm, om0⟩ := (M.ex e1).obj
    refine sq_fld (ev_op (ev_var rfl) ev_c (rv_eq rfl)) (ev_var rfl) om0 T.cl_Machine T.n_Machine_passes_on (by show 7 < 1000; decide) fun H2 e2 => ?_
    rw [F_Machine_put_passes_on]
    have Mx : MachAt K H2 m n f := M.ex (e1.trans e2)
    refine ret_el (el_lst (ea_cons ev_c ea_nil) (by show 1 ≤ 100000; decide)) fun p H3 np e3 h3 => ?_
    have e : decide (V.int on = V.int 1) = (on == 1) := by
      rw [Bool.eq_iff_iff, beq_iff_eq, decide_eq_true_iff, V.int.injEq]
    rw [e] at np e3
    exact q p H3 (Done.after (e1.trans e2) ((Mx.put (e2 _ _ om0) (on == 1) n.now n.name M.gp.name).done e3 np h3))
theorem ok_answer_pass (T : Txt K mg base) : DefOk P w K mg base 1 (He.ga K "answer_pass") ["machine", "on"] (sp_answer_pass K) := by
  obtain ⟨fd, F⟩ := T.fd_answer_pass
  exact ⟨fd, okF_answer_pass T F, F.bindsN fun _ _ _ _ _ _ us hl => match us, hl with | [_, _], _ => rfl, F.kp⟩
/-! ### link -/
def A_link (_ : Hp) (_ : List Addr) (rest : List V) (c : Sv62Neutral.Call) : Prop := ∃ (k : Int) (a : Nat) (b f : Int), rest = [.int k, .int (a : Int), .int b, .int f] ∧ a < 2 ^ 32 ∧ c = [[1, k, (a : Int), b, f]]
abbrev sp_answer_link (K : PySem.W.Frag) : Sp := spCall K A_link
theorem len_answer_link {vs : List V} {H : Hp} {Q : VK} {E : XK} (h : sp_answer_link K vs H Q E) : vs.length = 5 := by
  obtain ⟨m, n, f, rest, c, rfl, _, ⟨k, a, b, g, rfl, _⟩, _⟩ := h
  rfl
theorem step_link (n : Sv62.Net) (k a b f : Int) : Sv62Neutral.step n [[1, k, a, b, f]] = if (Sv62.within k 0 3 && (a == 0 || (Sv62.within a 1 4294967294 && (Sv62.within b 0 32 && Sv62.within f 68 1500)))) = false then (n, [-1]) else
    ({ n with links := n.links.set k.toNat (if a = 0 then none else some ⟨a.toNat, b.toNat, f.toNat⟩) }, [0]) := by
  show ((Sv62.does n (.link k a b f)).1, (Sv62.does n (.link k a b f)).2.v :: (Sv62Neutral.ints (Sv62.does n (.link k a b f)).2.numbers ++ (Sv62.does n (.link k a b f)).2.wants.flatMap Sv62Neutral.wanted)) = _
  unfold Sv62.does
  by_cases c : (Sv62.within k 0 3 && (a == 0 || (Sv62.within a 1 4294967294 && (Sv62.within b 0 32 && Sv62.within f 68 1500)))) = false
  · simp only [if_pos c]
    rfl
  · simp only [if_neg c]
    rfl
theorem within_iff {z lo hi : Int} : Sv62.within z lo hi = true ↔ lo ≤ z ∧ z ≤ hi := by
  unfold Sv62.within
  rw [Bool.and_eq_true, decide_eq_true_iff, decide_eq_true_iff]
theorem sc_answer_link : FnScope ["machine", "k", "address", "bits", "fits"] ["machine", "k", "address", "bits", "fits"] (defScope s_answer_link) := ⟨rfl, rfl, rfl, by decide +kernel, rfl, by decide +kernel, by decide +kernel⟩
theorem okF_answer_link (T : Txt K mg base) {fd : FuncData} (F : FunD K d_answer_link.name d_answer_link.qual d_answer_link.params d_answer_link.body d_answer_link.scope [] [] (He.fAd K d_answer_link.at_) fd) : FnOk P w K mg base CX0 3 (He.ga K "answer_link") fd ["machine", "k", "address", "bits", "fits"] (sp_answer_link K) := by
  obtain ⟨fd_Link__init, G_Link__init, b_Link__init, k_Link__init⟩ := ok_Link__init (P := P) (w := w) (base := base) T
  obtain ⟨fd_is_link_setting, G_is_link_setting, b_is_link_setting, k_is_link_setting⟩ := ok_is_link_setting (P := P) (w := w) (base := base) T
  obtain ⟨fd_is_link_number, G_is_link_number, b_is_link_number, k_is_link_number⟩ := ok_is_link_number (P := P) (w := w) (base := base) T
  refine F.ok sc_answer_link (fun vs H Q E h => len_answer_link h) (fun cdv Ar outer s H vs Q E hr h => ?_)
  refine ⟨_, PSs.nox (pss_cons (ps_if (pt_not (pt_val (pe_call G_is_link_number (hr.mono (by decide)) rfl T.g_is_link_number k_is_link_number b_is_link_number .nil pass0 (pa_cons (pv 1) pa_nil)))) (pss_one (ps_ret (pe_lst (pa_cons (pe_gi rfl T.c_WRONG_ARGUMENTS) pa_nil)))) pss_nil)
      (pss_cons (ps_if (pt_cmpR op_eq (pv 2) (pe_gi rfl T.c_NOBODY) (nomark _)) (pss_cons (ps_asg pe_non (pg_sub (pe_fld (pv 0) rfl) (pv 1) set_list))
      (pss_one (ps_ret (pe_lst (pa_cons pe_int pa_nil))))) pss_nil)
      (pss_cons (ps_if (pt_not (pt_val (pe_call G_is_link_setting (hr.mono (by decide)) rfl T.g_is_link_setting k_is_link_setting b_is_link_setting .nil pass0 (pa_cons (pv 2) (pa_cons (pv 3) (pa_cons (pv 4) pa_nil)))))) (pss_one (ps_ret (pe_lst (pa_cons (pe_gi rfl T.c_WRONG_ARGUMENTS) pa_nil)))) pss_nil)
      (pss_cons (ps_asg (pe_make T.mk_Link G_Link__init (hr.mono (by decide)) rfl T.g_Link b_Link__init .nil pass0 (pa_cons (pv 2) (pa_cons (pv 3) (pa_cons (pv 4) pa_nil)))) (pg_sub (pe_fld (pv 0) rfl) (pv 1) set_list))
      (pss_one (ps_ret (pe_lst (pa_cons pe_int pa_nil)))))))), ?_⟩
  obtain ⟨m, n, f, _, _, rfl, M, ⟨k, a, b, g, rfl, ha, rfl⟩, q⟩ := h
  rw [step_link] at q
  refine sq_if (et_not (et_B (ev_call (ea_cons (ev_var rfl) ea_nil) (spZ_v ⟨k, rfl, rfl⟩)))) (fun hb H1 e1 => ?_) (fun hb H1 e1 => ?_)
  · rw [Bool.not_eq_true'] at hb
    rw [hb, Bool.false_and, if_pos rfl] at q
    refine ret_el (el_lst (ea_cons ev_c ea_nil) (by show 1 ≤ 100000; decide)) fun p H2 np e2 h2 => ?_
    exact q p H2 (Done.same M (e1.trans e2) (fresh_back e1 np) h2)
  · rw [Bool.not_eq_false'] at hb
    rw [hb, Bool.true_and] at q
    have hk := within_iff.mp hb
    obtain ⟨j, rfl⟩ : ∃ j : Nat, k = (j : Int) := ⟨k.toNat, by omega⟩
    have hj : j < 4 := by omega
    refine sq_if (et_test (ev_op (ev_var rfl) ev_c (rv_eq rfl))) (fun hz H2 e2 => ?_) (fun hz H2 e2 => ?_)
    · have hz2 : a = 0 := by
        have h1 := of_decide_eq_true hz
        injection h1 with h2
        omega
      subst hz2
      rw [show (((0 : Nat) : Int) == 0) = true from rfl, Bool.true_or, if_neg (by decide)] at q
      have M1 := M.ex (e1.trans e2)
      obtain ⟨dm, om⟩ := M1.obj
      obtain ⟨vs, ol, pl⟩ := M1.lks
      refine sq_setL ev_c (ev_fld (ev_var rfl) om T.cl_Machine T.n_Machine_links F_Machine_links) (ev_var rfl) ol (by rw [pl.length, M1.good.len]; exact hj) fun H3 e3 => ?_
      have M2 := M1.ex e3
      refine ret_el (el_lst (ea_cons ev_c ea_nil) (by show 1 ≤ 100000; decide)) fun p H4 np e4 h4 => ?_
      exact q p H4 (Done.after ((e1.trans e2).trans e3) ((M2.putLk (pr_set (x := V.non) (y := none) rfl (pr_map (fun _ _ z => z.keep (.of_ex e3) same_sub) pl) j) (M2.good.setLink j none (fun l z => nomatch z))).done e4 np h4))
    · have hz2 : ¬ a = 0 := by
        intro z
        have h1 := of_decide_eq_false hz
        apply h1
        rw [z]
        rfl
      have hz3 : ((a : Int) == 0) = false := beq_eq_false_iff_ne.mpr (by omega)
      rw [hz3, Bool.false_or] at q
      refine sq_if (et_not (et_B (ev_call (ea_cons (ev_var rfl) (ea_cons (ev_var rfl) (ea_cons (ev_var rfl) ea_nil))) (spZ_v ⟨a, b, g, rfl, rfl⟩)))) (fun hs H3 e3 => ?_) (fun hs H3 e3 => ?_)
      · rw [Bool.not_eq_true'] at hs
        rw [if_pos hs] at q
        refine ret_el (el_lst (ea_cons ev_c ea_nil) (by show 1 ≤ 100000; decide)) fun p H4 np e4 h4 => ?_
        exact q p H4 (Done.same M (((e1.trans e2).trans e3).trans e4) (fresh_back ((e1.trans e2).trans e3) np) h4)
      · rw [Bool.not_eq_false'] at hs
        rw [if_neg (by rw [hs]; decide), if_neg (by omega)] at q
        rw [Bool.and_eq_true, Bool.and_eq_true, within_iff, within_iff, within_iff] at hs
        obtain ⟨⟨s1, s2⟩, ⟨s3, s4⟩, s5, s6⟩ := hs
        obtain ⟨bn, rfl⟩ : ∃ j : Nat, b = (j : Int) := ⟨b.toNat, by omega⟩
        obtain ⟨gn, rfl⟩ : ∃ j : Nat, g = (j : Int) := ⟨g.toNat, by omega⟩
        have M1 := M.ex ((e1.trans e2).trans e3)
        obtain ⟨dm, om⟩ := M1.obj
        obtain ⟨vs, ol, pl⟩ := M1.lks
        refine sq_setLN (en_make (ea_cons (ev_var rfl) (ea_cons (ev_var rfl) (ea_cons (ev_var rfl) ea_nil))) rfl) (ev_fld (ev_var rfl) om T.cl_Machine T.n_Machine_links F_Machine_links) (ev_var rfl) ol (by rw [pl.length, M1.good.len]; exact hj) fun pn dx H4 npn e4 h4 => ?_
        have M2 := M1.ex e4
        refine ret_el (el_lst (ea_cons ev_c ea_nil) (by show 1 ≤ 100000; decide)) fun p H5 np e5 h5 => ?_
        have lv : LinkV K H4 (f.all m) (.ref pn) (some ⟨a, bn, gn⟩) := ⟨pn, dx, rfl, M1.fresh npn, h4⟩
        exact q p H5 (Done.after (((e1.trans e2).trans e3).trans e4) ((M2.putLk (pr_set lv (pr_map (fun _ _ z => z.keep (.of_ex e4) same_sub) pl) j) (M2.good.setLink j _ (fun l z => by
          have z2 := Option.some.inj z
          subst z2
          dsimp only
          omega))).done e5 np h5))
theorem ok_answer_link (T : Txt K mg base) : DefOk P w K mg base 3 (He.ga K "answer_link") ["machine", "k", "address", "bits", "fits"] (sp_answer_link K) := by
  obtain ⟨fd, F⟩ := T.fd_answer_link
  exact ⟨fd, okF_answer_link T F, F.bindsN fun _ _ _ _ _ _ us hl => match us, hl with | [_, _, _, _, _], _ => rfl, F.kp⟩
/-! ### way, away -/
def A_way (_ : Hp) (_ : List Addr) (rest : List V) (c : Sv62Neutral.Call) : Prop := ∃ (a : Nat) (b k : Int) (x : Nat), rest = [.int (a : Int), .int b, .int k, .int (x : Int)] ∧ a < 2 ^ 32 ∧ c = [[3, (a : Int), b, k, (x : Int)]]
abbrev sp_answer_way (K : PySem.W.Frag) : Sp := spCall K A_way
theorem len_answer_way {vs : List V} {H : Hp} {Q : VK} {E : XK} (h : sp_answer_way K vs H Q E) : vs.length = 5 := by
  obtain ⟨m, n, f, rest, c, rfl, _, ⟨a, b, k, x, rfl, _⟩, _⟩ := h
  rfl
def A_away (_ : Hp) (_ : List Addr) (rest : List V) (c : Sv62Neutral.Call) : Prop := ∃ (a : Nat) (b : Int), rest = [.int (a : Int), .int b] ∧ a < 2 ^ 32 ∧ c = [[4, (a : Int), b]]
abbrev sp_answer_away (K : PySem.W.Frag) : Sp := spCall K A_away
theorem len_answer_away {vs : List V} {H : Hp} {Q : VK} {E : XK} (h : sp_answer_away K vs H Q E) : vs.length = 3 := by
  obtain ⟨m, n, f, rest, c, rfl, _, ⟨a, b, rfl, _⟩, _⟩ := h
  rfl
/-- the ways with one put -/
def putWay (ws : List Sv62.Way) (v : Sv62.Way) : List Sv62.Way := if (ws.any fun y => y.address == v.address && y.bits == v.bits) = true then ws.map (fun y => if (y.address == v.address && y.bits == v.bits) = true then v else y) else ws ++ [v]
theorem step_way (n : Sv62.Net) (a b k x : Int) : Sv62Neutral.step n [[3, a, b, k, x]] = if (Sv62.wayFine a b && (Sv62.within k 0 3 && Sv62.within x 0 4294967294)) = false then (n, [-1]) else
    if (!(n.ways.any fun y => y.address == a.toNat && y.bits == b.toNat) && decide (256 ≤ n.ways.length)) = true then (n, [-5]) else ({ n with ways := putWay n.ways ⟨a.toNat, b.toNat, k.toNat, x.toNat⟩ }, [0]) := by
  show ((Sv62.does n (.way a b k x)).1, (Sv62.does n (.way a b k x)).2.v :: (Sv62Neutral.ints (Sv62.does n (.way a b k x)).2.numbers ++ (Sv62.does n (.way a b k x)).2.wants.flatMap Sv62Neutral.wanted)) = _
  unfold Sv62.does putWay
  by_cases c : (Sv62.wayFine a b && (Sv62.within k 0 3 && Sv62.within x 0 4294967294)) = false
  · simp only [if_pos c]
    rfl
  · simp only [if_neg c]
    by_cases c2 : (n.ways.any fun y => y.address == a.toNat && y.bits == b.toNat) = true
    · simp only [c2, if_true, Bool.not_true, Bool.false_and, Bool.false_eq_true, if_false]
      rfl
    · rw [Bool.not_eq_true] at c2
      simp only [c2, Bool.false_eq_true, if_false, Bool.not_false, Bool.true_and, decide_eq_true_eq]
      by_cases c3 : Sv62.WAYS ≤ n.ways.length
      · simp only [if_pos c3, if_pos (show 256 ≤ n.ways.length from c3)]
        rfl
      · simp only [if_neg c3, if_neg (show ¬ 256 ≤ n.ways.length from c3)]
        rfl
theorem step_away (n : Sv62.Net) (a b : Int) : Sv62Neutral.step n [[4, a, b]] = if Sv62.wayFine a b = false then (n, [-1]) else
    if (n.ways.filter fun y => !(y.address == a.toNat && y.bits == b.toNat)).length = n.ways.length then (n, [-2]) else ({ n with ways := n.ways.filter fun y => !(y.address == a.toNat && y.bits == b.toNat) }, [0]) := by
  show ((Sv62.does n (.away a b)).1, (Sv62.does n (.away a b)).2.v :: (Sv62Neutral.ints (Sv62.does n (.away a b)).2.numbers ++ (Sv62.does n (.away a b)).2.wants.flatMap Sv62Neutral.wanted)) = _
  unfold Sv62.does
  by_cases c : Sv62.wayFine a b = false
  · simp only [if_pos c]
    rfl
  · simp only [if_neg c]
    by_cases c2 : (n.ways.filter fun y => !(y.address == a.toNat && y.bits == b.toNat)).length = n.ways.length
    · simp only [if_pos c2]
      rfl
    · simp only [if_neg c2]
      rfl
theorem wkey_eq {y : Sv62.Way} {a b : Nat} : wkey y = ([.inl (a : Int), .inl (b : Int)] : List L2.Key) ↔ (y.address == a && y.bits == b) = true := by
  unfold wkey
  rw [Bool.and_eq_true, beq_iff_eq, beq_iff_eq]
  constructor
  · intro e
    injection e with e1 e2
    injection e2 with e2 _
    injection e1 with e1
    injection e2 with e2
    exact ⟨by omega, by omega⟩
  · rintro ⟨rfl, rfl⟩
    rfl
theorem pr_any {K : PySem.W.Frag} {H : Hp} {S : List Addr} {a b : Nat} : ∀ {kvs : List (List L2.Key × V)} {ws : List Sv62.Way}, Paired (WEnt K H S) kvs ws → (kvs.any fun kv => decide (kv.1 = ([.inl (a : Int), .inl (b : Int)] : List L2.Key))) = ws.any fun y => y.address == a && y.bits == b
  | _, _, .nil => rfl
  | _, _, .cons (a := kv) (b := y) h1 h2 => by
    rw [List.any_cons, List.any_cons, pr_any h2, h1.1]
    congr 1
    rw [Bool.eq_iff_iff, decide_eq_true_iff]
    exact wkey_eq
theorem pr_put {K : PySem.W.Frag} {H : Hp} {S : List Addr} {v : V} {w : Sv62.Way} (hw : WayV K H S v (three w)) {kvs : List (List L2.Key × V)} {ws : List Sv62.Way} (h : Paired (WEnt K H S) kvs ws) : Paired (WEnt K H S) (putK kvs (wkey w) v) (putWay ws w) := by
  unfold putK putWay
  have e := pr_any (a := w.address) (b := w.bits) h
  show Paired _ (if (kvs.any fun kv => decide (kv.1 = wkey w)) = true then _ else _) _
  rw [show (kvs.any fun kv => decide (kv.1 = wkey w)) = ws.any fun y => y.address == w.address && y.bits == w.bits from e]
  by_cases c : (ws.any fun y => y.address == w.address && y.bits == w.bits) = true
  · rw [if_pos c, if_pos c]
    clear e c
    induction h with
    | nil => exact .nil
    | @cons kv y l1 l2 h1 h2 ih =>
      refine .cons ?_ ih
      show WEnt K H S (if kv.1 = wkey w then (kv.1, v) else kv) (if (y.address == w.address && y.bits == w.bits) = true then w else y)
      by_cases c2 : (y.address == w.address && y.bits == w.bits) = true
      · rw [if_pos c2, if_pos (show kv.1 = wkey w from h1.1.trans (wkey_eq.mpr c2))]
        exact ⟨h1.1.trans (wkey_eq.mpr c2), hw⟩
      · rw [if_neg c2, if_neg (show ¬ kv.1 = wkey w from fun z => c2 (wkey_eq.mp (h1.1.symm.trans z)))]
        exact h1
  · rw [if_neg c, if_neg c]
    exact h.snoc ⟨rfl, hw⟩
theorem pr_drop {K : PySem.W.Frag} {H : Hp} {S : List Addr} {a b : Nat} : ∀ {kvs : List (List L2.Key × V)} {ws : List Sv62.Way}, Paired (WEnt K H S) kvs ws → Paired (WEnt K H S) (dropK kvs ([.inl (a : Int), .inl (b : Int)] : List L2.Key)) (ws.filter fun y => !(y.address == a && y.bits == b))
  | _, _, .nil => .nil
  | _, _, .cons (a := kv) (b := y) h1 h2 => by
    have ih := pr_drop (a := a) (b := b) h2
    by_cases c : (y.address == a && y.bits == b) = true
    · have e1 : kv.1 = ([.inl (a : Int), .inl (b : Int)] : List L2.Key) := h1.1.trans (wkey_eq.mpr c)
      rw [List.filter_cons_of_neg (by rw [c]; decide)]
      unfold dropK
      rw [List.filter_cons_of_neg (by simp only [decide_eq_true_iff]; exact fun z => z e1)]
      exact ih
    · have e1 : ¬ kv.1 = ([.inl (a : Int), .inl (b : Int)] : List L2.Key) := fun z => c (wkey_eq.mp (h1.1.symm.trans z))
      rw [List.filter_cons_of_pos (by rw [Bool.not_eq_true] at c; rw [c]; rfl)]
      unfold dropK
      rw [List.filter_cons_of_pos (by simp only [decide_eq_true_iff]; exact e1)]
      exact .cons h1 ih
theorem Good.putWay {n : Sv62.Net} (G : Good n) {w : Sv62.Way} (hw : w.address < 4294967296 ∧ w.bits ≤ 32 ∧ w.address % 2 ^ (32 - w.bits) = 0 ∧ w.link < 4 ∧ w.next < 4294967295)
    (hl : (!(n.ways.any fun y => y.address == w.address && y.bits == w.bits) && decide (256 ≤ n.ways.length)) = false) : Good { n with ways := putWay n.ways w } := by
  by_cases c : (n.ways.any fun y => y.address == w.address && y.bits == w.bits) = true
  · have e : Lp.putWay n.ways w = n.ways.map (fun y => if (y.address == w.address && y.bits == w.bits) = true then w else y) := if_pos c
    refine ⟨G.len, G.lok, fun x hx => ?_, ?_, ?_⟩
    · rw [e, List.mem_map] at hx
      obtain ⟨y, hy, rfl⟩ := hx
      by_cases c2 : (y.address == w.address && y.bits == w.bits) = true
      · rw [if_pos c2]
        exact hw
      · rw [if_neg c2]
        exact G.wok y hy
    · show ((Lp.putWay n.ways w).map _).Nodup
      rw [e, List.map_map]
      have e2 : ((fun w => (w.address, w.bits)) ∘ fun y => if (y.address == w.address && y.bits == w.bits) = true then w else y) = fun (y : Sv62.Way) => (y.address, y.bits) := by
        funext y
        show ((if (y.address == w.address && y.bits == w.bits) = true then w else y).address, (if (y.address == w.address && y.bits == w.bits) = true then w else y).bits) = (y.address, y.bits)
        by_cases c2 : (y.address == w.address && y.bits == w.bits) = true
        · rw [if_pos c2]
          rw [Bool.and_eq_true, beq_iff_eq, beq_iff_eq] at c2
          rw [c2.1, c2.2]
        · rw [if_neg c2]
      rw [e2]
      exact G.wnd
    · show (Lp.putWay n.ways w).length ≤ 256
      rw [e, List.length_map]
      exact G.wfew
  · have e : Lp.putWay n.ways w = n.ways ++ [w] := if_neg c
    rw [Bool.not_eq_true] at c
    rw [c, Bool.not_false, Bool.true_and, decide_eq_false_iff_not] at hl
    refine ⟨G.len, G.lok, fun x hx => ?_, ?_, ?_⟩
    · rw [e, List.mem_append] at hx
      rcases hx with hx | hx
      · exact G.wok x hx
      · rw [List.mem_singleton] at hx
        rw [hx]
        exact hw
    · show ((Lp.putWay n.ways w).map _).Nodup
      rw [e, List.map_append, List.nodup_append]
      refine ⟨G.wnd, by simp, fun x hx y hy => ?_⟩
      rw [List.mem_map] at hx
      obtain ⟨z, hz, rfl⟩ := hx
      rw [List.map_singleton, List.mem_singleton] at hy
      rw [hy]
      intro e3
      injection e3 with e4 e5
      have := List.any_eq_false.mp c z hz
      rw [Bool.and_eq_true, beq_iff_eq, beq_iff_eq] at this
      exact this ⟨e4, e5⟩
    · show (Lp.putWay n.ways w).length ≤ 256
      rw [e, List.length_append, List.length_singleton]
      omega
theorem Good.filterWays {n : Sv62.Net} (G : Good n) (p : Sv62.Way → Bool) : Good { n with ways := n.ways.filter p } := by
  refine ⟨G.len, G.lok, fun x hx => G.wok x (List.mem_filter.mp hx).1, ?_, ?_⟩
  · exact List.Nodup.sublist (List.Sublist.map _ List.filter_sublist) G.wnd
  · exact Nat.le_trans (List.length_filter_le _ _) G.wfew
theorem wayFine_nat {a : Nat} {b : Int} (h : Sv62.wayFine (a : Int) b = true) : ∃ bn : Nat, b = (bn : Int) ∧ bn ≤ 32 ∧ a % 2 ^ (32 - bn) = 0 := by
  unfold Sv62.wayFine at h
  rw [Bool.and_eq_true, Bool.and_eq_true, within_iff, within_iff, beq_iff_eq] at h
  refine ⟨b.toNat, by omega, by omega, ?_⟩
  have := h.2.2
  rw [Int.toNat_natCast] at this
  exact this
theorem sc_answer_way : FnScope ["machine", "address", "bits", "link", "next_machine", "start"] ["machine", "address", "bits", "link", "next_machine"] (defScope s_answer_way) := ⟨rfl, rfl, rfl, by decide +kernel, rfl, by decide +kernel, by decide +kernel⟩
theorem okF_answer_way (T : Txt K mg base) {fd : FuncData} (F : FunD K d_answer_way.name d_answer_way.qual d_answer_way.params d_answer_way.body d_answer_way.scope [] [] (He.fAd K d_answer_way.at_) fd) : FnOk P w K mg base CX0 3 (He.ga K "answer_way") fd ["machine", "address", "bits", "link", "next_machine"] (sp_answer_way K) := by
  obtain ⟨fd_Way__init, G_Way__init, b_Way__init, k_Way__init⟩ := ok_Way__init (P := P) (w := w) (base := base) T
  obtain ⟨fd_is_way_end, G_is_way_end, b_is_way_end, k_is_way_end⟩ := ok_is_way_end (P := P) (w := w) (base := base) T
  obtain ⟨fd_is_way_start, G_is_way_start, b_is_way_start, k_is_way_start⟩ := ok_is_way_start (P := P) (w := w) (base := base) T
  refine F.ok sc_answer_way (fun vs H Q E h => len_answer_way h) (fun cdv Ar outer s H vs Q E hr h => ?_)
  refine ⟨_, PSs.nox (pss_cons (ps_if (PW.pt (pw_or (pt_not (pt_val (pe_call G_is_way_start (hr.mono (by decide)) rfl T.g_is_way_start k_is_way_start b_is_way_start .nil pass0 (pa_cons (pv 1) (pa_cons (pv 2) pa_nil))))) (pw_or1 (pt_not (pt_val (pe_call G_is_way_end (hr.mono (by decide)) rfl T.g_is_way_end k_is_way_end b_is_way_end .nil pass0 (pa_cons (pv 3) (pa_cons (pv 4) pa_nil)))))))) (pss_one (ps_ret (pe_lst (pa_cons (pe_gi rfl T.c_WRONG_ARGUMENTS) pa_nil)))) pss_nil)
      (pss_cons (ps_set (i := 5) sc_answer_way.nd rfl (Or.inl rfl) (pe_tup (pa_cons (pv 1) (pa_cons (pv 2) pa_nil))))
      (pss_cons (ps_if (PW.pt (pw_and (pt_cmp (pc_dnotin (hu_of hr) (pv 5) (pe_fld (pv 0) rfl))) (pw_and1 (pt_cmpR op_ge (pe_callB call_len_dT (by rfl) T.f_len PySem.boot_len (pa_cons (pe_fld (pv 0) rfl) pa_nil)) (pe_gi rfl T.c_MOST_WAYS) (nomark _))))) (pss_one (ps_ret (pe_lst (pa_cons (pe_gi rfl T.c_NO_ROOM) pa_nil)))) pss_nil)
      (pss_cons (ps_dput (hu_of hr) (pe_fld (pv 0) rfl) (pv 5) (pe_make T.mk_Way G_Way__init (hr.mono (by decide)) rfl T.g_Way b_Way__init .nil pass0 (pa_cons (pv 2) (pa_cons (pv 3) (pa_cons (pv 4) pa_nil)))) rfl)
      (pss_one (ps_ret (pe_lst (pa_cons pe_int pa_nil)))))))), ?_⟩
  obtain ⟨m, n, f, _, _, rfl, M, ⟨a, b, k, x, rfl, ha, rfl⟩, q⟩ := h
  rw [step_way] at q
  refine sq_if (b := !Sv62.wayFine (a : Int) b || !(Sv62.within k 0 3 && Sv62.within (x : Int) 0 4294967294)) (et_or (et_not (et_B (ev_call (ea_cons (ev_var rfl) (ea_cons (ev_var rfl) ea_nil)) (spZ_v ⟨a, b, rfl, ha, rfl⟩)))) fun _ => et_not (et_B (ev_call (ea_cons (ev_var rfl) (ea_cons (ev_var rfl) ea_nil)) (spZ_v ⟨k, x, rfl, rfl⟩)))) (fun hb H1 e1 => ?_) (fun hb H1 e1 => ?_)
  · have c : (Sv62.wayFine (a : Int) b && (Sv62.within k 0 3 && Sv62.within (x : Int) 0 4294967294)) = false := by
      rw [← Bool.not_and, Bool.not_eq_true'] at hb
      exact hb
    rw [if_pos c] at q
    refine ret_el (el_lst (ea_cons ev_c ea_nil) (by show 1 ≤ 100000; decide)) fun p H2 np e2 h2 => ?_
    exact q p H2 (Done.same M (e1.trans e2) (fresh_back e1 np) h2)
  · have c : (Sv62.wayFine (a : Int) b && (Sv62.within k 0 3 && Sv62.within (x : Int) 0 4294967294)) = true := by
      rw [← Bool.not_and, Bool.not_eq_false'] at hb
      exact hb
    rw [if_neg (by rw [c]; decide)] at q
    rw [Bool.and_eq_true, Bool.and_eq_true, within_iff, within_iff] at c
    obtain ⟨c1, ⟨c2, c3⟩, c4, c5⟩ := c
    obtain ⟨bn, rfl, hbn, hmod⟩ := wayFine_nat c1
    obtain ⟨kn, rfl⟩ : ∃ j : Nat, k = (j : Int) := ⟨k.toNat, by omega⟩
    rw [Int.toNat_natCast, Int.toNat_natCast, Int.toNat_natCast, Int.toNat_natCast] at q
    refine sq_setU (eu_tup (ea_cons (ev_var rfl) (ea_cons (ev_var rfl) ea_nil)) (by show 2 ≤ 100000; decide)) fun t H2 _ e2 h2 => ?_
    have M2 := M.ex (e1.trans e2)
    obtain ⟨dm, om⟩ := M2.obj
    obtain ⟨kvs, ow, pw⟩ := M2.wys
    have isS : (valV kvs ([.inl (a : Int), .inl (bn : Int)] : List L2.Key)).isSome = n.ways.any fun y => y.address == a && y.bits == bn := by
      rw [← valV_any]
      exact pr_any pw
    refine sq_if (b := !(n.ways.any fun y => y.address == a && y.bits == bn) && decide (256 ≤ n.ways.length)) ?_ (fun hc H3 e3 => ?_) (fun hc H3 e3 => ?_)
    · refine et_and ?_ fun _ => ?_
      · rw [← isS]
        exact et_B (ev_inT (k := [.inl (a : Int), .inl (bn : Int)]) (ev_var rfl) (ev_fld (ev_var rfl) om T.cl_Machine T.n_Machine_ways F_Machine_ways) ow h2)
      · refine et_is (et_test (ev_op (ev_lenT (ev_fld (ev_var rfl) om T.cl_Machine T.n_Machine_ways F_Machine_ways) ow) ev_c rv_I0)) ?_
        apply decide_eq_decide.mpr
        rw [pw.length]
        omega
    · rw [if_pos hc] at q
      refine ret_el (el_lst (ea_cons ev_c ea_nil) (by show 1 ≤ 100000; decide)) fun p H4 np e4 h4 => ?_
      exact q p H4 (Done.same M (((e1.trans e2).trans e3).trans e4) (fresh_back ((e1.trans e2).trans e3) np) h4)
    · rw [if_neg (by rw [hc]; decide)] at q
      have few : kvs.length < sizeLine := by
        rw [pw.length]
        exact Nat.lt_of_le_of_lt M2.good.wfew (by decide)
      refine sq_putTN (k := [.inl (a : Int), .inl (bn : Int)]) (en_make (ea_cons (ev_var rfl) (ea_cons (ev_var rfl) (ea_cons (ev_var rfl) ea_nil))) rfl) (ev_fld (ev_var rfl) (e3 _ _ om) T.cl_Machine T.n_Machine_ways F_Machine_ways) (ev_var rfl) (e3 _ _ ow) (e3 _ _ h2) few fun pn dx H4 npn e4 h4 => ?_
      have M4 := M2.ex (e3.trans e4)
      refine ret_el (el_lst (ea_cons ev_c ea_nil) (by show 1 ≤ 100000; decide)) fun p H5 np e5 h5 => ?_
      have wv : WayV K H4 (f.all m) (.ref pn) (three ⟨a, bn, kn, x⟩) := ⟨pn, dx, rfl, (M2.ex e3).fresh npn, h4⟩
      exact q p H5 (Done.after (((e1.trans e2).trans e3).trans e4) ((M4.putWy (pr_put wv (pr_map (fun _ _ z => ⟨z.1, z.2.ex (e3.trans e4)⟩) pw)) (M4.good.putWay (w := ⟨a, bn, kn, x⟩) ⟨by omega, hbn, hmod, by show kn < 4; omega, by show x < 4294967295; omega⟩ hc)).done e5 np h5))
theorem ok_answer_way (T : Txt K mg base) : DefOk P w K mg base 3 (He.ga K "answer_way") ["machine", "address", "bits", "link", "next_machine"] (sp_answer_way K) := by
  obtain ⟨fd, F⟩ := T.fd_answer_way
  exact ⟨fd, okF_answer_way T F, F.bindsN fun _ _ _ _ _ _ us hl => match us, hl with | [_, _, _, _, _], _ => rfl, F.kp⟩
theorem sc_answer_away : FnScope ["machine", "address", "bits", "start"] ["machine", "address", "bits"] (defScope s_answer_away) := ⟨rfl, rfl, rfl, by decide +kernel, rfl, by decide +kernel, by decide +kernel⟩
theorem okF_answer_away (T : Txt K mg base) {fd : FuncData} (F : FunD K d_answer_away.name d_answer_away.qual d_answer_away.params d_answer_away.body d_answer_away.scope [] [] (He.fAd K d_answer_away.at_) fd) : FnOk P w K mg base CX0 3 (He.ga K "answer_away") fd ["machine", "address", "bits"] (sp_answer_away K) := by
  obtain ⟨fd_is_way_start, G_is_way_start, b_is_way_start, k_is_way_start⟩ := ok_is_way_start (P := P) (w := w) (base := base) T
  refine F.ok sc_answer_away (fun vs H Q E h => len_answer_away h) (fun cdv Ar outer s H vs Q E hr h => ?_)
  refine ⟨_, PSs.nox (pss_cons (ps_if (pt_not (pt_val (pe_call G_is_way_start (hr.mono (by decide)) rfl T.g_is_way_start k_is_way_start b_is_way_start .nil pass0 (pa_cons (pv 1) (pa_cons (pv 2) pa_nil))))) (pss_one (ps_ret (pe_lst (pa_cons (pe_gi rfl T.c_WRONG_ARGUMENTS) pa_nil)))) pss_nil)
      (pss_cons (ps_set (i := 3) sc_answer_away.nd rfl (Or.inl rfl) (pe_tup (pa_cons (pv 1) (pa_cons (pv 2) pa_nil))))
      (pss_cons (ps_if (pt_cmp (pc_dnotin (hu_of hr) (pv 3) (pe_fld (pv 0) rfl))) (pss_one (ps_ret (pe_lst (pa_cons (pe_gi rfl T.c_NOT_THERE) pa_nil)))) pss_nil)
      (pss_cons (ps_expr (pe_popT (hu_of hr) (pe_fld (pv 0) rfl) (pv 3) ⟨rfl, rfl, rfl, rfl⟩))
      (pss_one (ps_ret (pe_lst (pa_cons pe_int pa_nil)))))))), ?_⟩
  obtain ⟨m, n, f, _, _, rfl, M, ⟨a, b, rfl, ha, rfl⟩, q⟩ := h
  rw [step_away] at q
  refine sq_if (et_not (et_B (ev_call (ea_cons (ev_var rfl) (ea_cons (ev_var rfl) ea_nil)) (spZ_v ⟨a, b, rfl, ha, rfl⟩)))) (fun hb H1 e1 => ?_) (fun hb H1 e1 => ?_)
  · rw [Bool.not_eq_true'] at hb
    rw [if_pos hb] at q
    refine ret_el (el_lst (ea_cons ev_c ea_nil) (by show 1 ≤ 100000; decide)) fun p H2 np e2 h2 => ?_
    exact q p H2 (Done.same M (e1.trans e2) (fresh_back e1 np) h2)
  · rw [Bool.not_eq_false'] at hb
    rw [if_neg (by rw [hb]; decide)] at q
    obtain ⟨bn, rfl, hbn, hmod⟩ := wayFine_nat hb
    rw [Int.toNat_natCast, Int.toNat_natCast] at q
    refine sq_setU (eu_tup (ea_cons (ev_var rfl) (ea_cons (ev_var rfl) ea_nil)) (by show 2 ≤ 100000; decide)) fun t H2 _ e2 h2 => ?_
    have M2 := M.ex (e1.trans e2)
    obtain ⟨dm, om⟩ := M2.obj
    obtain ⟨kvs, ow, pw⟩ := M2.wys
    have isS : (valV kvs ([.inl (a : Int), .inl (bn : Int)] : List L2.Key)).isSome = n.ways.any fun y => y.address == a && y.bits == bn := by
      rw [← valV_any]
      exact pr_any pw
    have cnt : (n.ways.filter fun y => !(y.address == a && y.bits == bn)).length = n.ways.length ↔ (n.ways.any fun y => y.address == a && y.bits == bn) = false := by
      rw [List.length_filter_eq_length_iff, List.any_eq_false]
      constructor
      · intro h y hy
        have := h y hy
        rw [Bool.not_eq_true'] at this
        rw [this]
        decide
      · intro h y hy
        have := h y hy
        rw [Bool.not_eq_true] at this
        rw [this]
        rfl
    refine sq_if (b := !(n.ways.any fun y => y.address == a && y.bits == bn)) ?_ (fun hc H3 e3 => ?_) (fun hc H3 e3 => ?_)
    · rw [← isS]
      exact et_B (ev_inT (k := [.inl (a : Int), .inl (bn : Int)]) (ev_var rfl) (ev_fld (ev_var rfl) om T.cl_Machine T.n_Machine_ways F_Machine_ways) ow h2)
    · rw [Bool.not_eq_true'] at hc
      rw [if_pos (cnt.mpr hc)] at q
      refine ret_el (el_lst (ea_cons ev_c ea_nil) (by show 1 ≤ 100000; decide)) fun p H4 np e4 h4 => ?_
      exact q p H4 (Done.same M (((e1.trans e2).trans e3).trans e4) (fresh_back ((e1.trans e2).trans e3) np) h4)
    · rw [Bool.not_eq_false'] at hc
      rw [if_neg (fun z => by rw [cnt.mp z] at hc; cases hc)] at q
      obtain ⟨v, hv⟩ := Option.isSome_iff_exists.mp (isS.trans hc)
      refine sq_popT (k := [.inl (a : Int), .inl (bn : Int)]) (ev_fld (ev_var rfl) (e3 _ _ om) T.cl_Machine T.n_Machine_ways F_Machine_ways) (ev_var rfl) (e3 _ _ ow) (e3 _ _ h2) hv fun H4 e4 => ?_
      have M4 := M2.ex (e3.trans e4)
      refine ret_el (el_lst (ea_cons ev_c ea_nil) (by show 1 ≤ 100000; decide)) fun p H5 np e5 h5 => ?_
      exact q p H5 (Done.after (((e1.trans e2).trans e3).trans e4) ((M4.putWy (pr_drop (pr_map (fun _ _ z => ⟨z.1, z.2.ex (e3.trans e4)⟩) pw)) (M4.good.filterWays _)).done e5 np h5))
theorem ok_answer_away (T : Txt K mg base) : DefOk P w K mg base 3 (He.ga K "answer_away") ["machine", "address", "bits"] (sp_answer_away K) := by
  obtain ⟨fd, F⟩ := T.fd_answer_away
  exact ⟨fd, okF_answer_away T F, F.bindsN fun _ _ _ _ _ _ us hl => match us, hl with | [_, _, _], _ => rfl, F.kp⟩
/-! ### best -/
def A_best (_ : Hp) (_ : List Addr) (rest : List V) (c : Sv62Neutral.Call) : Prop := ∃ a : Nat, rest = [.int (a : Int)] ∧ a < 2 ^ 32 ∧ c = [[5, (a : Int)]]
abbrev sp_answer_best (K : PySem.W.Frag) : Sp := spCall K A_best
theorem len_answer_best {vs : List V} {H : Hp} {Q : VK} {E : XK} (h : sp_answer_best K vs H Q E) : vs.length = 2 := by
  obtain ⟨m, n, f, rest, c, rfl, _, ⟨a, rfl, _⟩, _⟩ := h
  rfl
theorem step_best (n : Sv62.Net) (a : Nat) : (Sv62Neutral.step n [[5, (a : Int)]]) = (n, if Sv62.within (a : Int) 1 4294967294 = false then [-1] else match (n.best a).map three with
    | none => [-2]
    | some w => [0, (w.2.1 : Int), ((if w.2.2 = 0 then a else w.2.2 : Nat) : Int), (w.1 : Int)]) := by
  show ((Sv62.does n (.best (a : Int))).1, (Sv62.does n (.best (a : Int))).2.v :: (Sv62Neutral.ints (Sv62.does n (.best (a : Int))).2.numbers ++ (Sv62.does n (.best (a : Int))).2.wants.flatMap Sv62Neutral.wanted)) = _
  unfold Sv62.does
  by_cases c : Sv62.within (a : Int) 1 4294967294 = false
  · simp only [if_pos c]
    rfl
  · simp only [if_neg c, Int.toNat_natCast]
    cases e : n.best a with
    | none => rfl
    | some w => rfl
theorem sc_answer_best : FnScope ["machine", "address", "way"] ["machine", "address"] (defScope s_answer_best) := ⟨rfl, rfl, rfl, by decide +kernel, rfl, by decide +kernel, by decide +kernel⟩
theorem okF_answer_best (T : Txt K mg base) {fd : FuncData} (F : FunD K d_answer_best.name d_answer_best.qual d_answer_best.params d_answer_best.body d_answer_best.scope [] [] (He.fAd K d_answer_best.at_) fd) : FnOk P w K mg base CX0 6 (He.ga K "answer_best") fd ["machine", "address"] (sp_answer_best K) := by
  obtain ⟨fd_next_address, G_next_address, b_next_address, k_next_address⟩ := ok_next_address (P := P) (w := w) (base := base) T
  obtain ⟨fd_way_to, G_way_to, b_way_to, k_way_to⟩ := ok_way_to (P := P) (w := w) (base := base) T
  obtain ⟨fd_is_one_machine, G_is_one_machine, b_is_one_machine, k_is_one_machine⟩ := ok_is_one_machine (P := P) (w := w) (base := base) T
  refine F.ok sc_answer_best (fun vs H Q E h => len_answer_best h) (fun cdv Ar outer s H vs Q E hr h => ?_)
  refine ⟨_, PSs.nox (pss_cons (ps_if (pt_not (pt_val (pe_call G_is_one_machine (hr.mono (by decide)) rfl T.g_is_one_machine k_is_one_machine b_is_one_machine .nil pass0 (pa_cons (pv 1) pa_nil)))) (pss_one (ps_ret (pe_lst (pa_cons (pe_gi rfl T.c_WRONG_ARGUMENTS) pa_nil)))) pss_nil)
      (pss_cons (ps_set (i := 2) sc_answer_best.nd rfl (Or.inl rfl) (pe_call G_way_to (hr.mono (by decide)) rfl T.g_way_to k_way_to b_way_to .nil pass0 (pa_cons (pv 0) (pa_cons (pv 1) pa_nil))))
      (pss_cons (ps_if (pt_cmpR op_isN (pv 2) pe_non (nomark _)) (pss_one (ps_ret (pe_lst (pa_cons (pe_gi rfl T.c_NOT_THERE) pa_nil)))) pss_nil)
      (pss_one (ps_ret (pe_lst (pa_cons pe_int (pa_cons (pe_fld (pv 2) rfl) (pa_cons (pe_call G_next_address (hr.mono (by decide)) rfl T.g_next_address k_next_address b_next_address .nil pass0 (pa_cons (pv 2) (pa_cons (pv 1) pa_nil))) (pa_cons (pe_fld (pv 2) rfl) pa_nil)))))))))), ?_⟩
  obtain ⟨m, n, f, _, _, rfl, M, ⟨a, rfl, ha, rfl⟩, q⟩ := h
  rw [step_best] at q
  refine sq_if (et_not (et_B (ev_call (ea_cons (ev_var rfl) ea_nil) (spZ_v ⟨a, rfl, rfl⟩)))) (fun hb H1 e1 => ?_) (fun hb H1 e1 => ?_)
  · rw [Bool.not_eq_true'] at hb
    simp only [if_pos hb] at q
    refine ret_el (el_lst (ea_cons ev_c ea_nil) (by show 1 ≤ 100000; decide)) fun p H2 np e2 h2 => ?_
    exact q p H2 (Done.same M (e1.trans e2) (fresh_back e1 np) h2)
  · rw [Bool.not_eq_false'] at hb
    simp only [if_neg (show ¬ Sv62.within (a : Int) 1 4294967294 = false by rw [hb]; decide)] at q
    refine sq_setR (er_call (vs := [.ref m, .int (a : Int)]) (ea_cons (ev_var rfl) (ea_cons (ev_var rfl) ea_nil)) (R := fun z H2 => WayO K H2 (f.all m) z ((n.best a).map three)) fun H2 e2 Q2 E2 q2 => ⟨m, n, f, a, rfl, M.ex (e1.trans e2), ha, q2⟩) fun z H2 e2 hz => ?_
    cases ew : (n.best a).map three with
    | none =>
      rw [ew] at hz
      simp only [ew] at q
      have z0 : z = .non := hz
      subst z0
      refine sq_if (b := true) (et_is (et_test (ev_isN (ev_var rfl))) rfl) (fun _ H3 e3 => ?_) (fun z => Bool.noConfusion z)
      refine ret_el (el_lst (ea_cons ev_c ea_nil) (by show 1 ≤ 100000; decide)) fun p H4 np e4 h4 => ?_
      exact q p H4 (Done.same M (((e1.trans e2).trans e3).trans e4) (fresh_back ((e1.trans e2).trans e3) np) h4)
    | some wy =>
      rw [ew] at hz
      simp only [ew] at q
      obtain ⟨p, dx, rfl, pn, hp⟩ := hz
      refine sq_if (b := false) (et_is (et_test (ev_isN (ev_var rfl))) rfl) (fun z => Bool.noConfusion z) (fun _ H3 e3 => ?_)
      have hp3 := e3 _ _ hp
      refine ret_el (el_lst (vs := [.int 0, .int wy.2.1, .int (if wy.2.2 = 0 then (a : Int) else (wy.2.2 : Int)), .int wy.1]) (ea_cons ev_c (ea_cons (ev_fld (ev_var rfl) hp3 T.cl_Way T.n_Way_link F_Way_link) (ea_cons (ev_call (vs := [.ref p, .int (a : Int)]) (ea_cons (ev_var rfl) (ea_cons (ev_var rfl) ea_nil)) fun H4 e4 Q4 q4 E4 => ⟨_, f.all m, wy, a, rfl, ⟨p, dx, rfl, pn, e4 _ _ hp3⟩, q4⟩) (ea_cons (ev_fld (ev_var rfl) hp3 T.cl_Way T.n_Way_bits F_Way_bits) ea_nil)))) (by show 4 ≤ 100000; decide)) fun p2 H4 np e4 h4 => ?_
      refine q p2 H4 (Done.same M (((e1.trans e2).trans e3).trans e4) (fresh_back ((e1.trans e2).trans e3) np) ?_)
      rw [h4]
      by_cases c : wy.2.2 = 0
      · simp only [if_pos c]
        rfl
      · simp only [if_neg c]
        rfl
theorem ok_answer_best (T : Txt K mg base) : DefOk P w K mg base 6 (He.ga K "answer_best") ["machine", "address"] (sp_answer_best K) := by
  obtain ⟨fd, F⟩ := T.fd_answer_best
  exact ⟨fd, okF_answer_best T F, F.bindsN fun _ _ _ _ _ _ us hl => match us, hl with | [_, _], _ => rfl, F.kp⟩
end
end Lp
set_option maxHeartbeats 400000000
namespace Lp
open PySem PySem.Spec PyProof.Rows L2 Evl
/-- [k] + (what moves the machine and gives a list) -/
theorem x_front {K : PySem.W.Frag} {tb : TE} {σ : L2.St} {H0 H : Hp} {m : Addr} {n n' : Sv62.Net} {f : Foot} {k : Int} {ans : List Int} (M : MachAt K H0 m n f) (e0 : Ex H0 H) (hl : ans.length ≤ 15000000)
    (hb : ∀ p H1, H p = none → Ex H H1 → H1 p = some (.lst [.int k]) → EvX tb σ H1 fun z H' => ∃ r, z = .ref r ∧ Done K H0 m f n' ans r H' ∧ H' p = some (.lst [.int k])) :
    EvX (tOp rCat (tLst (tCons (tC (.int k)) tNil)) tb) σ H fun z H' => ∃ p, z = .ref p ∧ Done K H0 m f n' (k :: ans) p H' := by
  refine x_cat (el_lst (ea_cons ev_c ea_nil) (by show 1 ≤ 100000; decide)) hb fun p z H2 ⟨r, hz, ⟨f', mv, _, _, hr⟩, hp⟩ => ?_
  refine ⟨r, ans.map V.int, hz, hp, hr, line_le (by rw [List.length_map]; show 1 + ans.length ≤ _; omega), fun t nt => ⟨t, rfl, ?_⟩⟩
  exact mv.done (Ex.new nt) nt upd_same
/-- .. where the first list stays because it is new to the machine -/
theorem x_front' {K : PySem.W.Frag} {tb : TE} {σ : L2.St} {H : Hp} {m : Addr} {n n' : Sv62.Net} {f : Foot} {k : Int} {ans : List Int} (M : MachAt K H m n f) (hl : ans.length ≤ 15000000)
    (hb : ∀ H1, Ex H H1 → EvX tb σ H1 fun z H' => ∃ r, z = .ref r ∧ Done K H1 m f n' ans r H') :
    EvX (tOp rCat (tLst (tCons (tC (.int k)) tNil)) tb) σ H fun z H' => ∃ p, z = .ref p ∧ Done K H m f n' (k :: ans) p H' := by
  refine x_front M (Ex.refl H) hl fun p H1 np e1 h1 Q q => hb H1 e1 Q fun z H2 ⟨r, hz, d⟩ => q z H2 ⟨r, hz, d.after e1, ?_⟩
  obtain ⟨f', mv, _⟩ := d
  exact mv.keep p _ h1 (M.fresh np) rfl
theorem ev_getK {td ty : TE} {σ : L2.St} {H : Hp} {d : Addr} {kvs : List (L2.Key × V)} {k : L2.Key} {v : V} (h1 : Ev td σ H (.ref d)) (h2 : Ev ty σ H (kV k)) (hd : H d = some (.dK kvs)) (hv : valV kvs k = some v) : Ev (tDGet td ty) σ H v := fun H1 e Q q =>
  h1 H1 e _ fun H2 e2 => h2 H2 (e.trans e2) _ fun H3 e3 => ⟨d, v, rfl, by rw [← hv]; exact DGet.k (e3 _ _ (e2 _ _ (e _ _ hd))), q H3 (e2.trans e3)⟩
theorem dOf_len {K : PySem.W.Frag} {H : Hp} {S : List Addr} {gs : List (Addr × Addr)} {xs : List Sv62.Part} (h : Paired (GathAt K H S) gs xs) : (dOf gs xs).length = xs.length := by
  unfold dOf
  rw [List.length_zipWith, h.length, Nat.min_self]
theorem err_len (n : Sv62.Net) (kind number : Nat) (p : Sv62.Packet) (b : Sv62.Bytes) : ((n.error kind number p b).2.flatMap Sv62Neutral.wanted).length ≤ 1000 := by
  have elen : (Sv62.errorBody kind number b).length ≤ 36 := by
    rw [← errB_eq, errB_len, List.length_take]
    omega
  unfold Sv62.Net.error
  by_cases c : p.what = 1 ∨ p.place ≠ 0 ∨ p.to = Sv62.EVERYBODY
  · rw [if_pos c]
    simp
  · rw [if_neg c]
    by_cases c2 : n.own p.from_ = true
    · rw [if_pos c2]
      simp only [List.flatMap_cons, List.flatMap_nil, List.append_nil, up_len]
      have : (Sv62.Packet.head (⟨64, 1, false, false, n.name, 0, p.from_, p.from_, Sv62.errorBody kind number b⟩ : Sv62.Packet)).length = 20 := headOf_len _ _
      omega
    · rw [if_neg c2]
      cases n.best p.from_ with
      | none => simp
      | some w =>
        cases hl : n.link w.link with
        | none =>
          simp only [hl]
          simp
        | some l =>
          have := out_len w.link w.next l ⟨64, 1, false, false, n.name, 0, l.address, p.from_, Sv62.errorBody kind number b⟩
          simp only [hl]
          dsimp only at this ⊢
          omega
section
variable {P : Program} {w : World} {K : PySem.W.Frag} {mg : Str → Option Value} {base : Heap}
/-! ### told -/
def A_told (_ : Hp) (_ : List Addr) (rest : List V) (c : Sv62Neutral.Call) : Prop := rest = [] ∧ c = [[10]]
abbrev sp_answer_told (K : PySem.W.Frag) : Sp := spCall K A_told
theorem len_answer_told {vs : List V} {H : Hp} {Q : VK} {E : XK} (h : sp_answer_told K vs H Q E) : vs.length = 1 := by
  obtain ⟨m, n, f, rest, c, rfl, _, ⟨rfl, _⟩, _⟩ := h
  rfl
theorem step_told (n : Sv62.Net) : Sv62Neutral.step n [[10]] = (n, [0, (n.ways.length : Int), (n.parts.length : Int), (n.name : Int), (n.told : Int), (n.passed : Int), (n.dropped : Int)]) := rfl
theorem sc_answer_told : FnScope ["machine", "taken", "kept"] ["machine"] (defScope s_answer_told) := ⟨rfl, rfl, rfl, by decide +kernel, rfl, by decide +kernel, by decide +kernel⟩
theorem okF_answer_told (T : Txt K mg base) {fd : FuncData} (F : FunD K d_answer_told.name d_answer_told.qual d_answer_told.params d_answer_told.body d_answer_told.scope [] [] (He.fAd K d_answer_told.at_) fd) : FnOk P w K mg base CX0 1 (He.ga K "answer_told") fd ["machine"] (sp_answer_told K) := by
  refine F.ok sc_answer_told (fun vs H Q E h => len_answer_told h) (fun cdv Ar outer s H vs Q E hr h => ?_)
  refine ⟨_, PSs.nox (pss_cons (ps_set (i := 1) sc_answer_told.nd rfl (Or.inl rfl) (pe_fld (pv 0) rfl))
      (pss_cons (ps_set (i := 2) sc_answer_told.nd rfl (Or.inl rfl) (pe_lst (pa_cons (pe_callB call_len_dT (by rfl) T.f_len PySem.boot_len (pa_cons (pe_fld (pv 0) rfl) pa_nil)) (pa_cons (pe_callB call_len_dT (by rfl) T.f_len PySem.boot_len (pa_cons (pe_fld (pv 0) rfl) pa_nil)) (pa_cons (pe_fld (pv 0) rfl) pa_nil)))))
      (pss_one (ps_ret (pe_op op_cat (pe_op op_cat (pe_lst (pa_cons pe_int pa_nil)) (pv 2)) (pe_lst (pa_cons (pe_dget (hu_of hr) (pv 1) (pe_gi rfl T.c_TOLD_UPWARD) (fun _ _ => rfl)) (pa_cons (pe_dget (hu_of hr) (pv 1) (pe_gi rfl T.c_PASSED_ON) (fun _ _ => rfl)) (pa_cons (pe_op op_add (pe_dget (hu_of hr) (pv 1) (pe_gi rfl T.c_ERROR_BACK) (fun _ _ => rfl)) (pe_dget (hu_of hr) (pv 1) (pe_gi rfl T.c_DROPPED) (fun _ _ => rfl))) pa_nil))))))))), ?_⟩
  obtain ⟨m, n, f, _, _, rfl, M, ⟨rfl, rfl⟩, q⟩ := h
  rw [step_told] at q
  obtain ⟨dm, om⟩ := M.obj
  obtain ⟨a, b, c, ot, hbc⟩ := M.tks
  obtain ⟨kvs, ow, pw⟩ := M.wys
  refine sq_set (ev_fld (ev_var rfl) om T.cl_Machine T.n_Machine_taken F_Machine_taken) fun H1 e1 => ?_
  have om1 := e1 _ _ om
  refine sq_setEL (xs := [.int (n.ways.length : Int), .int (n.parts.length : Int), .int (n.name : Int)]) ?_ fun kp H2 nk e2 k2 => ?_
  · rw [← pw.length, ← dOf_len M.gat]
    exact el_lst (ea_cons (ev_lenT (ev_fld (ev_var rfl) om1 T.cl_Machine T.n_Machine_ways F_Machine_ways) (e1 _ _ ow)) (ea_cons (ev_lenT (ev_fld (ev_var rfl) om1 T.cl_Machine T.n_Machine_gatherings F_Machine_gatherings) (e1 _ _ M.gas)) (ea_cons (ev_fld (ev_var rfl) om1 T.cl_Machine T.n_Machine_next_name F_Machine_next_name) ea_nil))) (by show 3 ≤ 100000; decide)
  have ot2 := (e1.trans e2) _ _ ot
  have z := el_cat (es_el (el_cat (es_el (el_lst (H := H2) (σ := [some (.ref m), some (.ref f.tk), some (.ref kp)]) (ea_cons (ev_c (v := V.int 0)) ea_nil) (by show 1 ≤ 100000; decide))) (es_at (ev_var (i := 2) rfl) k2) (by show 1 + 3 ≤ sizeLine; decide)))
    (es_el (el_lst (ea_cons (ev_getK (k := .inl 1) (ev_var (i := 1) rfl) (ev_c (v := V.int 1)) ot2 rfl) (ea_cons (ev_getK (k := .inl 2) (ev_var (i := 1) rfl) (ev_c (v := V.int 2)) ot2 rfl) (ea_cons (ev_op (r := rI0 fun i j => .int (i + j)) (ev_getK (k := .inl 4) (ev_var (i := 1) rfl) (ev_c (v := V.int 4)) ot2 rfl) (ev_getK (k := .inl 5) (ev_var (i := 1) rfl) (ev_c (v := V.int 5)) ot2 rfl) rv_I0) ea_nil))) (by show 3 ≤ 100000; decide))) (by show 1 + 3 + 3 ≤ sizeLine; decide)
  refine ret_el z fun p H3 np e3 k3 => q p H3 (Done.same M ((e1.trans e2).trans e3) (fresh_back (e1.trans e2) np) ?_)
  rw [k3, ← hbc]
  rfl
theorem ok_answer_told (T : Txt K mg base) : DefOk P w K mg base 1 (He.ga K "answer_told") ["machine"] (sp_answer_told K) := by
  obtain ⟨fd, F⟩ := T.fd_answer_told
  exact ⟨fd, okF_answer_told T F, F.bindsN fun _ _ _ _ _ _ us hl => match us, hl with | [_], _ => rfl, F.kp⟩
/-! ### error -/
def A_error (H : Hp) (S : List Addr) (rest : List V) (c : Sv62Neutral.Call) : Prop := ∃ (kind : Int) (z : Nat) (d : Addr) (b : Sv62.Bytes), rest = [.int kind, .int (z : Int), .ref d] ∧ H d = some (.lst (bv b)) ∧ d ∉ S ∧ b.length ≤ 15900 ∧ c = [[8, kind, (z : Int)], Sv62Neutral.ofOctets b]
abbrev sp_answer_error (K : PySem.W.Frag) : Sp := spCall K A_error
theorem len_answer_error {vs : List V} {H : Hp} {Q : VK} {E : XK} (h : sp_answer_error K vs H Q E) : vs.length = 4 := by
  obtain ⟨m, n, f, rest, c, rfl, _, ⟨kind, z, d, b, rfl, _⟩, _⟩ := h
  rfl
theorem step_error (n : Sv62.Net) (kind z : Int) (b : Sv62.Bytes) : Sv62Neutral.step n [[8, kind, z], Sv62Neutral.ofOctets b] = if (Sv62.within kind 1 5 && Sv62.within z 0 4294967295) = false ∨ Sv62.wide b = true then (n, [-1]) else match Sv62.firstOf b with
    | none => (n, [-3])
    | some (p, k) => if k < b.length then (n, [-3]) else ((n.error kind.toNat z.toNat p b).1, 0 :: (n.error kind.toNat z.toNat p b).2.flatMap Sv62Neutral.wanted) := by
  have e : Sv62Neutral.step n [[8, kind, z], Sv62Neutral.ofOctets b] = ((Sv62.does n (.error kind z (Sv62Neutral.octets (Sv62Neutral.ofOctets b)))).1, (Sv62.does n (.error kind z (Sv62Neutral.octets (Sv62Neutral.ofOctets b)))).2.v :: (Sv62Neutral.ints (Sv62.does n (.error kind z (Sv62Neutral.octets (Sv62Neutral.ofOctets b)))).2.numbers ++ (Sv62.does n (.error kind z (Sv62Neutral.octets (Sv62Neutral.ofOctets b)))).2.wants.flatMap Sv62Neutral.wanted)) := rfl
  rw [e, octets_off]
  unfold Sv62.does
  by_cases c : (Sv62.within kind 1 5 && Sv62.within z 0 4294967295) = false ∨ Sv62.wide b = true
  · simp only [if_pos c]
    rfl
  · simp only [if_neg c]
    cases Sv62.firstOf b with
    | none => rfl
    | some pk =>
      obtain ⟨p, k⟩ := pk
      by_cases c2 : k < b.length
      · simp only [if_pos c2]
        rfl
      · simp only [if_neg c2]
        rfl
theorem not_wide {b : Sv62.Bytes} (h : b.length ≤ 65535) : Sv62.wide b = false := by
  unfold Sv62.wide
  rw [decide_eq_false_iff_not]
  omega
theorem sc_answer_error : FnScope ["machine", "kind", "number", "data", "head"] ["machine", "kind", "number", "data"] (defScope s_answer_error) := ⟨rfl, rfl, rfl, by decide +kernel, rfl, by decide +kernel, by decide +kernel⟩
theorem okF_answer_error (T : Txt K mg base) {fd : FuncData} (F : FunD K d_answer_error.name d_answer_error.qual d_answer_error.params d_answer_error.body d_answer_error.scope [] [] (He.fAd K d_answer_error.at_) fd) : FnOk P w K mg base CX0 7 (He.ga K "answer_error") fd ["machine", "kind", "number", "data"] (sp_answer_error K) := by
  obtain ⟨fd_error_back, G_error_back, b_error_back, k_error_back⟩ := ok_error_back (P := P) (w := w) (base := base) T
  obtain ⟨fd_read_head, G_read_head, b_read_head, k_read_head⟩ := ok_read_head (P := P) (w := w) (base := base) T
  obtain ⟨fd_is_number, G_is_number, b_is_number, k_is_number⟩ := ok_is_number (P := P) (w := w) (base := base) T
  obtain ⟨fd_is_kind, G_is_kind, b_is_kind, k_is_kind⟩ := ok_is_kind (P := P) (w := w) (base := base) T
  refine F.ok sc_answer_error (fun vs H Q E h => len_answer_error h) (fun cdv Ar outer s H vs Q E hr h => ?_)
  refine ⟨_, PSs.nox (pss_cons (ps_if (PW.pt (pw_or (pt_not (pt_val (pe_call G_is_kind (hr.mono (by decide)) rfl T.g_is_kind k_is_kind b_is_kind .nil pass0 (pa_cons (pv 1) pa_nil)))) (pw_or (pt_not (pt_val (pe_call G_is_number (hr.mono (by decide)) rfl T.g_is_number k_is_number b_is_number .nil pass0 (pa_cons (pv 2) pa_nil)))) (pw_or1 (pt_cmpR op_gt (pe_callB call_len_seq (by rfl) T.f_len PySem.boot_len (pa_cons (pv 3) pa_nil)) (pe_gi rfl T.c_MOST_LENGTH) (nomark _)))))) (pss_one (ps_ret (pe_lst (pa_cons (pe_gi rfl T.c_WRONG_ARGUMENTS) pa_nil)))) pss_nil)
      (pss_cons (ps_set (i := 4) sc_answer_error.nd rfl (Or.inl rfl) (pe_call G_read_head (hr.mono (by decide)) rfl T.g_read_head k_read_head b_read_head .nil pass0 (pa_cons (pv 3) pa_nil)))
      (pss_cons (ps_if (PW.pt (pw_or (pt_cmpR op_isN (pv 4) pe_non (nomark _)) (pw_or1 (pt_cmpR op_gt (pe_callB call_len_seq (by rfl) T.f_len PySem.boot_len (pa_cons (pv 3) pa_nil)) (pe_fld (pv 4) rfl) (nomark _))))) (pss_one (ps_ret (pe_lst (pa_cons (pe_gi rfl T.c_NOT_AS_TOLD) pa_nil)))) pss_nil)
      (pss_one (ps_ret (pe_op op_cat (pe_lst (pa_cons pe_int pa_nil)) (pe_call G_error_back (hr.mono (by decide)) rfl T.g_error_back k_error_back b_error_back .nil pass0 (pa_cons (pv 0) (pa_cons (pv 1) (pa_cons (pv 2) (pa_cons (pv 4) (pa_cons (pv 3) pa_nil)))))))))))), ?_⟩
  obtain ⟨m, n, f, _, _, rfl, M, ⟨kind, z, d, b, rfl, hd, nd, hlb, rfl⟩, q⟩ := h
  rw [step_error, not_wide (by omega)] at q
  refine sq_if (b := !Sv62.within kind 1 5 || (!Sv62.within (z : Int) 0 4294967295 || false)) ?_ (fun hb H1 e1 => ?_) (fun hb H1 e1 => ?_)
  · refine et_or (et_not (et_B (ev_call (ea_cons (ev_var rfl) ea_nil) (spZ_v ⟨kind, rfl, rfl⟩)))) fun _ => et_or (et_not (et_B (ev_call (ea_cons (ev_var rfl) ea_nil) (spZ_v ⟨_, rfl, rfl⟩)))) fun _ => et_is (et_test (ev_op (ev_len (K := K) (ev_var rfl) (sq_of hd)) ev_c rv_I0)) ?_
    rw [bv_len, decide_eq_false_iff_not]
    omega
  · have c : (Sv62.within kind 1 5 && Sv62.within (z : Int) 0 4294967295) = false ∨ false = true := by
      refine .inl ?_
      cases h1 : Sv62.within kind 1 5 <;> cases h2 : Sv62.within (z : Int) 0 4294967295 <;> rw [h1, h2] at hb <;> first | rfl | cases hb
    rw [if_pos c] at q
    exact ret_el (el_lst (ea_cons ev_c ea_nil) (by show 1 ≤ 100000; decide)) fun p H2 np e2 h2 => q p H2 (Done.same M (e1.trans e2) (fresh_back e1 np) h2)
  · have c1 : Sv62.within kind 1 5 = true ∧ Sv62.within (z : Int) 0 4294967295 = true := by
      cases h1 : Sv62.within kind 1 5 <;> cases h2 : Sv62.within (z : Int) 0 4294967295 <;> rw [h1, h2] at hb <;> first | exact ⟨rfl, rfl⟩ | cases hb
    rw [if_neg (by rw [c1.1, c1.2]; decide)] at q
    have hk := within_iff.mp c1.1
    obtain ⟨kn, rfl⟩ : ∃ j : Nat, kind = (j : Int) := ⟨kind.toNat, by omega⟩
    rw [Int.toNat_natCast, Int.toNat_natCast] at q
    have hd1 := e1 _ _ hd
    have M1 := M.ex e1
    refine sq_setR (R := fun z H2 => match Sv62.firstOf b with | none => z = .non | some (p, k) => ∃ a, z = .ref a ∧ H1 a = none ∧ HeadAt K H2 a (hdOf p k)) (fun H2 e2 Q2 q2 => (ea_cons (ev_var (i := 3) rfl) ea_nil) H2 e2 _ fun H3 e3 => ⟨d, b, rfl, (e2.trans e3) _ _ hd1, fun hn H4 e4 => q2 _ H4 (e3.trans e4) ?_, fun p k hs a H4 na e4 hA => q2 _ H4 (e3.trans e4) ?_⟩) fun z H2 e2 hz => ?_
    · rw [hn]
    · rw [hs]
      exact ⟨a, rfl, fresh_back (e2.trans e3) na, hA⟩
    have e12 := e1.trans e2
    have M2 := M.ex e12
    have hd2 := e2 _ _ hd1
    cases hf : Sv62.firstOf b with
    | none =>
      simp only [hf] at hz q
      subst hz
      refine sq_if (b := true || false) (et_or (a := true) (et_is (et_test (ev_isN (ev_var rfl))) rfl) (fun z => Bool.noConfusion z)) (fun _ H3 e3 => ?_) (fun z => Bool.noConfusion z)
      exact ret_el (el_lst (ea_cons ev_c ea_nil) (by show 1 ≤ 100000; decide)) fun p H4 np e4 h4 => q p H4 (Done.same M ((e12.trans e3).trans e4) (fresh_back (e12.trans e3) np) h4)
    | some pk =>
      obtain ⟨p, k⟩ := pk
      simp only [hf] at hz q
      obtain ⟨a, rfl, na, hA⟩ := hz
      obtain ⟨pok, _⟩ := firstOf_ok hf
      refine sq_if (b := false || decide (k < b.length)) (et_or (a := false) (et_is (et_test (ev_isN (ev_var rfl))) rfl) fun _ => et_is (et_test (ev_op (ev_len (K := K) (ev_var rfl) (sq_of hd2)) (fl_length T (i := 4) rfl hA) rv_I0)) ?_) (fun hc H3 e3 => ?_) (fun hc H3 e3 => ?_)
      · rw [bv_len]
        show decide ((k : Int) < (b.length : Int)) = _
        apply decide_eq_decide.mpr
        omega
      · rw [Bool.false_or, decide_eq_true_eq] at hc
        rw [if_pos hc] at q
        exact ret_el (el_lst (ea_cons ev_c ea_nil) (by show 1 ≤ 100000; decide)) fun p H4 np e4 h4 => q p H4 (Done.same M ((e12.trans e3).trans e4) (fresh_back (e12.trans e3) np) h4)
      · rw [Bool.false_or, decide_eq_false_iff_not] at hc
        rw [if_neg hc] at q
        have M3 := M2.ex e3
        refine ret_x (x_front' (n' := (n.error kn z p b).1) (ans := (n.error kn z p b).2.flatMap Sv62Neutral.wanted) M3 (Nat.le_trans (err_len n kn z p b) (by decide)) fun H4 e4 => x_call (R := fun z' H' => ∃ r, z' = .ref r ∧ Done K H4 m f (n.error kn z p b).1 ((n.error kn z p b).2.flatMap Sv62Neutral.wanted) r H') (ea_cons (ev_var (i := 0) rfl) (ea_cons (ev_var (i := 1) rfl) (ea_cons (ev_var (i := 2) rfl) (ea_cons (ev_var (i := 4) rfl) (ea_cons (ev_var (i := 3) rfl) ea_nil))))) fun H5 e5 Q5 E5 q5 => ?_) fun z' H' ⟨r, hz', dn⟩ => ?_
        · have M1a : a ∉ f.all m := M1.fresh na
          exact ⟨m, n, f, kn, z, a, p, k, d, b, rfl, M3.ex (e4.trans e5), by omega, hA.ex ((e3.trans e4).trans e5), M1a, ((e3.trans e4).trans e5) _ _ hd2, nd, pok.from_.1, pok.from_.2, fun r H6 dn => q5 _ _ ⟨r, rfl, dn.after e5⟩⟩
        · subst hz'
          exact q r H' (dn.after (e12.trans e3))
theorem ok_answer_error (T : Txt K mg base) : DefOk P w K mg base 7 (He.ga K "answer_error") ["machine", "kind", "number", "data"] (sp_answer_error K) := by
  obtain ⟨fd, F⟩ := T.fd_answer_error
  exact ⟨fd, okF_answer_error T F, F.bindsN fun _ _ _ _ _ _ us hl => match us, hl with | [_, _, _, _], _ => rfl, F.kp⟩
end
end Lp
set_option maxHeartbeats 400000000
namespace Lp
open PySem PySem.Spec PyProof.Rows L2 Evl
/-! ### a machine that's new -/
theorem sq_fldX {K : PySem.W.Frag} {i : Nat} {tv : TE} {u : TS} {D : Ends} {σ : L2.St} {H : Hp} {a : Addr} {f : Str} {R : V → Hp → Prop} (hv : EvX tv σ H R) (hs : σ[i]? = some (some (.ref a)))
    (k : ∀ z H', R z H' → ∃ C dx fs, H' a = some (.ins C dx fs) ∧ Cls K C ∧ NoAttr K C f ∧ fs.length < 1000 ∧ u D σ (upd H' a (.ins C dx (putF f z fs)))) : tSeq (sFld K (tVar i) tv f) u D σ H :=
  hv _ fun z H1 r => ⟨_, hs, by
    obtain ⟨C, dx, fs, h1, h2, h3, h4, h5⟩ := k z H1 r
    exact ⟨a, C, dx, fs, rfl, h1, h2, h3, h4, h5⟩⟩
theorem s_fldX {K : PySem.W.Frag} {i : Nat} {tv : TE} {D : Ends} {σ : L2.St} {H : Hp} {a : Addr} {f : Str} {R : V → Hp → Prop} (hv : EvX tv σ H R) (hs : σ[i]? = some (some (.ref a)))
    (k : ∀ z H', R z H' → ∃ C dx fs, H' a = some (.ins C dx fs) ∧ Cls K C ∧ NoAttr K C f ∧ fs.length < 1000 ∧ D.nx σ (upd H' a (.ins C dx (putF f z fs)))) : sFld K (tVar i) tv f D σ H :=
  hv _ fun z H1 r => ⟨_, hs, by
    obtain ⟨C, dx, fs, h1, h2, h3, h4, h5⟩ := k z H1 r
    exact ⟨a, C, dx, fs, rfl, h1, h2, h3, h4, h5⟩⟩
theorem x_rep {σ : L2.St} {H : Hp} : EvX (tOp rRep (tLst (tCons (tC .non) tNil)) (tC (.int 4))) σ H fun z H' => ∃ p, z = .ref p ∧ H p = none ∧ Ex H H' ∧ H' p = some (.lst [.non, .non, .non, .non]) := fun Q q =>
  (el_lst (vs := [.non]) (ea_cons ev_c ea_nil) (by show 1 ≤ 100000; decide)) H (Ex.refl H) _ fun p H1 np e1 h1 => ⟨p, 4, [.non], rfl, rfl, h1, by decide, by decide, by decide, fun r nr => q _ _ ⟨r, rfl, fresh_back e1 nr, e1.trans (Ex.new nr), upd_same⟩⟩
theorem x_dT {σ : L2.St} {H : Hp} : EvX tDNewT σ H fun z H' => ∃ p, z = .ref p ∧ H p = none ∧ Ex H H' ∧ H' p = some (.dT []) := fun Q q p np => q _ _ ⟨p, rfl, np, Ex.new np, upd_same⟩
theorem x_disp {σ : L2.St} {H : Hp} : EvX (tDisp [(tC (.int 1), tC (.int 0)), (tC (.int 2), tC (.int 0)), (tC (.int 3), tC (.int 0)), (tC (.int 4), tC (.int 0)), (tC (.int 5), tC (.int 0))]) σ H fun z H' => ∃ p, z = .ref p ∧ H p = none ∧ Ex H H' ∧ H' p = some (.dK (tkv 0 0 0 0 0)) := fun Q q p np =>
  ⟨upd_same, [(.inl 1, .int 0), (.inl 2, .int 0), (.inl 3, .int 0), (.inl 4, .int 0), (.inl 5, .int 0)], rfl, by decide, q _ _ ⟨p, rfl, np, fun b o hb => by
    have c : b ≠ p := ne_of_none hb np
    rw [upd_ne c, upd_ne c]
    exact hb, by rw [upd_same]; rfl⟩⟩
/-- all but one thing stays -/
def ExB (m : Addr) (H H' : Hp) : Prop := ∀ b o, H b = some o → b ≠ m → H' b = some o
theorem ExB.of {m : Addr} {H H' : Hp} (e : Ex H H') : ExB m H H' := fun b o h _ => e b o h
theorem ExB.trans {m : Addr} {H H1 H2 : Hp} (a : ExB m H H1) (b : ExB m H1 H2) : ExB m H H2 := fun x o h n => b x o (a x o h n) n
theorem ExB.upd {m : Addr} {H : Hp} {o : HO} : ExB m H (upd H m o) := fun b u h n => by
  rw [upd_ne n]
  exact h
def isM (fs : List (Str × V)) : Prop := fs = [] ∨ ∃ a b c d e g h, fs = F_Machine a b c d e g h
/-- what renew leaves -/
structure Fresh (K : PySem.W.Frag) (H : Hp) (m dx : Addr) (H' : Hp) (lk wy ga tk : Addr) : Prop where
  obj : H' m = some (.ins (He.ga K "Machine") dx (F_Machine (.ref lk) (.ref wy) (.bl false) (.ref ga) (.int 0) (.int 0) (.ref tk)))
  l : H' lk = some (.lst [.non, .non, .non, .non])
  w : H' wy = some (.dT [])
  g : H' ga = some (.dT [])
  t : H' tk = some (.dK (tkv 0 0 0 0 0))
  keep : ExB m H H'
  nl : H lk = none
  nw : H wy = none
  ng : H ga = none
  nt : H tk = none
  lw : lk ≠ wy
  lg : lk ≠ ga
  lt : lk ≠ tk
  wg : wy ≠ ga
  wt : wy ≠ tk
  gt : ga ≠ tk
theorem tabS_exB {H H' : Hp} {P m : Addr} {q : Str} (h : LamX.TabS H P q) (e : ExB m H H') (nP : P ≠ m) (hb : ∀ c, H m ≠ some (LamX.CodeO c q)) : LamX.TabS H' P q := by
  obtain ⟨ps, h1, h2, h3⟩ := h
  refine ⟨ps, e _ _ h1 nP, h2, fun pos cv hc => ?_⟩
  obtain ⟨c, e1, e2⟩ := h3 pos cv hc
  exact ⟨c, e1, e _ _ e2 fun z => hb c (by rw [← z]; exact e2)⟩
theorem good_fresh : Good Sv62.fresh := ⟨rfl, fun l h => by simp [Sv62.fresh] at h, fun w h => by simp [Sv62.fresh] at h, by simp [Sv62.fresh], by simp [Sv62.fresh]⟩
theorem Fresh.mach {K : PySem.W.Frag} {H H' : Hp} {m dx lk wy ga tk : Addr} (F : Fresh K H m dx H' lk wy ga tk) (tb : LamX.TabS H (lamP K) qW) (hm : ∃ o, H m = some o ∧ ∀ c, o ≠ LamX.CodeO c qW) (nP : lamP K ≠ m) {av : List Addr} (avs : ∀ b ∈ av, ∃ o, H b = some o ∧ ntb o = true) (avm : m ∉ av) (avP : lamP K ∉ av) (avn : av.Nodup) : MachAt K H' m Sv62.fresh ⟨lk, wy, ga, tk, lamP K, [], av⟩ := by
  obtain ⟨om, hom, hco⟩ := hm
  obtain ⟨ps, hP, _⟩ := id tb
  have ml := ne_of_none hom F.nl
  have mw := ne_of_none hom F.nw
  have mg := ne_of_none hom F.ng
  have mt := ne_of_none hom F.nt
  have pl := ne_of_none hP F.nl
  have pw := ne_of_none hP F.nw
  have pg := ne_of_none hP F.ng
  have pt := ne_of_none hP F.nt
  refine ⟨?_, ⟨dx, F.obj⟩, ⟨_, F.l, .cons rfl (.cons rfl (.cons rfl (.cons rfl .nil)))⟩, ⟨_, F.w, .nil⟩, F.g, .nil, ⟨0, 0, 0, F.t, rfl⟩, rfl, tabS_exB tb F.keep nP (fun c z => hco c (by rw [hom] at z; exact Option.some.inj z)), good_fresh, ⟨by simp [Sv62.fresh], by simp [Sv62.fresh], by simp [Sv62.fresh]⟩, avs_go avs fun b hb o h _ => F.keep b o h fun z => avm (by rw [← z]; exact hb)⟩
  have na : ∀ {c : Addr}, H c = none → c ∉ av := fun {c} hc hb => by
    obtain ⟨o, ho, _⟩ := avs c hb
    rw [hc] at ho
    cases ho
  simp only [Foot.all, List.map_nil, List.nil_append, List.nodup_cons, List.mem_cons, not_or]
  exact ⟨⟨ml, mw, mg, mt, nP.symm, avm⟩, ⟨F.lw, F.lg, F.lt, pl.symm, na F.nl⟩, ⟨F.wg, F.wt, pw.symm, na F.nw⟩, ⟨F.gt, pg.symm, na F.ng⟩, ⟨pt.symm, na F.nt⟩, avP, avn⟩
section
variable {P : Program} {w : World} {K : PySem.W.Frag} {mg : Str → Option Value} {base : Heap}
def sp_Machine__renew (K : PySem.W.Frag) : Sp := fun vs H Q _ => ∃ (m dx : Addr) (fs : List (Str × V)), vs = [.ref m] ∧ H m = some (.ins (He.ga K "Machine") dx fs) ∧ isM fs ∧ ∀ H' lk wy ga tk, Fresh K H m dx H' lk wy ga tk → Q .non H'
theorem len_Machine__renew {vs : List V} {H : Hp} {Q : VK} {E : XK} (h : sp_Machine__renew K vs H Q E) : vs.length = 1 := by
  obtain ⟨m, dx, fs, rfl, _⟩ := h
  rfl
theorem sc_Machine__renew : FnScope ["self"] ["self"] (defScope s_Machine__renew) := ⟨rfl, rfl, rfl, by decide +kernel, rfl, by decide +kernel, by decide +kernel⟩
theorem okF_Machine__renew (T : Txt K mg base) {fd : FuncData} (F : FunD K d_Machine__renew.name d_Machine__renew.qual d_Machine__renew.params d_Machine__renew.body d_Machine__renew.scope [] [] (He.fAd K d_Machine__renew.at_) fd) : FnOk P w K mg base CX0 1 (He.ma K (He.ga K "Machine") "renew") fd ["self"] (sp_Machine__renew K) := by
  refine F.ok sc_Machine__renew (fun vs H Q E h => len_Machine__renew h) (fun cdv Ar outer s H vs Q E hr h => ?_)
  refine ⟨_, PSs.nox (pss_cons (ps_fld (pv 0) (pe_op op_rep (pe_lst (pa_cons pe_non pa_nil)) (pe_gi rfl T.c_LINK_COUNT)) rfl)
      (pss_cons (ps_fld (pv 0) pe_dnewT rfl)
      (pss_cons (ps_fld (pv 0) pe_bl rfl)
      (pss_cons (ps_fld (pv 0) pe_dnewT rfl)
      (pss_cons (ps_fld (pv 0) pe_int rfl)
      (pss_cons (ps_fld (pv 0) pe_int rfl)
      (pss_one (ps_fld (pv 0) (pe_disp (pps_cons pe_int pe_int (pps_cons pe_int pe_int (pps_cons pe_int pe_int (pps_cons pe_int pe_int (pps_cons pe_int pe_int pps_nil))))) (by rfl) (by rfl) (fun z => by cases z) (by decide)) rfl)))))))), ?_⟩
  obtain ⟨m, dx, fs, rfl, hm, hfs, q⟩ := h
  -- how the fields come, in either case
  have put : ∀ a b c d e g h : V, fs.length < 1000 ∧ (putF "links" a fs).length < 1000 ∧ (putF "ways" b (putF "links" a fs)).length < 1000 ∧ (putF "passes_on" c (putF "ways" b (putF "links" a fs))).length < 1000 ∧ (putF "gatherings" d (putF "passes_on" c (putF "ways" b (putF "links" a fs)))).length < 1000 ∧
      (putF "time" e (putF "gatherings" d (putF "passes_on" c (putF "ways" b (putF "links" a fs))))).length < 1000 ∧ (putF "next_name" g (putF "time" e (putF "gatherings" d (putF "passes_on" c (putF "ways" b (putF "links" a fs)))))).length < 1000 ∧
      putF "taken" h (putF "next_name" g (putF "time" e (putF "gatherings" d (putF "passes_on" c (putF "ways" b (putF "links" a fs)))))) = F_Machine a b c d e g h := by
    intro a b c d e g h
    rcases hfs with rfl | ⟨x0, x1, x2, x3, x4, x5, x6, rfl⟩
    · rw [F_Machine_new_links, F_Machine_new_ways, F_Machine_new_passes_on, F_Machine_new_gatherings, F_Machine_new_time, F_Machine_new_next_name, F_Machine_new_taken]
      refine ⟨?_, ?_, ?_, ?_, ?_, ?_, ?_, rfl⟩ <;> simp
    · rw [F_Machine_put_links, F_Machine_put_ways, F_Machine_put_passes_on, F_Machine_put_gatherings, F_Machine_put_time, F_Machine_put_next_name, F_Machine_put_taken]
      refine ⟨?_, ?_, ?_, ?_, ?_, ?_, ?_, rfl⟩ <;> (show 7 < 1000; decide)
  refine sq_fldX (i := 0) (a := m) x_rep rfl fun z H1 ⟨lk, hz, nl, e1, k1⟩ => ⟨_, dx, fs, e1 _ _ hm, T.cl_Machine, T.n_Machine_links, (put .non .non .non .non .non .non .non).1, ?_⟩
  subst hz
  have ml : lk ≠ m := (ne_of_none hm nl).symm
  have b1 : ExB m H (upd H1 m (.ins (He.ga K "Machine") dx (putF "links" (.ref lk) fs))) := (ExB.of e1).trans .upd
  have l1 : upd H1 m (.ins (He.ga K "Machine") dx (putF "links" (.ref lk) fs)) lk = some (.lst [.non, .non, .non, .non]) := by rw [upd_ne ml]; exact k1
  generalize hg1 : upd H1 m (.ins (He.ga K "Machine") dx (putF "links" (.ref lk) fs)) = G1 at b1 l1
  have o1 : G1 m = some (.ins (He.ga K "Machine") dx (putF "links" (.ref lk) fs)) := by rw [← hg1]; exact upd_same
  refine sq_fldX (i := 0) (a := m) x_dT rfl fun z H2 ⟨wy, hz, nw, e2, k2⟩ => ⟨_, dx, _, e2 _ _ o1, T.cl_Machine, T.n_Machine_ways, (put (.ref lk) .non .non .non .non .non .non).2.1, ?_⟩
  subst hz
  have mw : wy ≠ m := (ne_of_none o1 nw).symm
  have lw : lk ≠ wy := ne_of_none l1 nw
  have b2 : ExB m G1 (upd H2 m (.ins (He.ga K "Machine") dx (putF "ways" (.ref wy) (putF "links" (.ref lk) fs)))) := (ExB.of e2).trans .upd
  have w2 : upd H2 m (.ins (He.ga K "Machine") dx (putF "ways" (.ref wy) (putF "links" (.ref lk) fs))) wy = some (.dT []) := by rw [upd_ne mw]; exact k2
  generalize hg2 : upd H2 m (.ins (He.ga K "Machine") dx (putF "ways" (.ref wy) (putF "links" (.ref lk) fs))) = G2 at b2 w2
  have o2 : G2 m = some (.ins (He.ga K "Machine") dx (putF "ways" (.ref wy) (putF "links" (.ref lk) fs))) := by rw [← hg2]; exact upd_same
  refine sq_fldX (i := 0) (a := m) (x_ev ev_c) rfl fun z H3 ⟨hz, e3⟩ => ⟨_, dx, _, e3 _ _ o2, T.cl_Machine, T.n_Machine_passes_on, (put (.ref lk) (.ref wy) .non .non .non .non .non).2.2.1, ?_⟩
  subst hz
  have b3 : ExB m G2 (upd H3 m (.ins (He.ga K "Machine") dx (putF "passes_on" (.bl false) (putF "ways" (.ref wy) (putF "links" (.ref lk) fs))))) := (ExB.of e3).trans .upd
  generalize hg3 : upd H3 m (.ins (He.ga K "Machine") dx (putF "passes_on" (.bl false) (putF "ways" (.ref wy) (putF "links" (.ref lk) fs)))) = G3 at b3
  have o3 : G3 m = some (.ins (He.ga K "Machine") dx (putF "passes_on" (.bl false) (putF "ways" (.ref wy) (putF "links" (.ref lk) fs)))) := by rw [← hg3]; exact upd_same
  have l3 := b3 _ _ (b2 _ _ l1 ml) ml
  have w3 := b3 _ _ w2 mw
  refine sq_fldX (i := 0) (a := m) x_dT rfl fun z H4 ⟨ga, hz, ng, e4, k4⟩ => ⟨_, dx, _, e4 _ _ o3, T.cl_Machine, T.n_Machine_gatherings, (put (.ref lk) (.ref wy) (.bl false) .non .non .non .non).2.2.2.1, ?_⟩
  subst hz
  have mg2 : ga ≠ m := (ne_of_none o3 ng).symm
  have lg : lk ≠ ga := ne_of_none l3 ng
  have wg : wy ≠ ga := ne_of_none w3 ng
  have b4 : ExB m G3 (upd H4 m (.ins (He.ga K "Machine") dx (putF "gatherings" (.ref ga) (putF "passes_on" (.bl false) (putF "ways" (.ref wy) (putF "links" (.ref lk) fs)))))) := (ExB.of e4).trans .upd
  have g4 : upd H4 m (.ins (He.ga K "Machine") dx (putF "gatherings" (.ref ga) (putF "passes_on" (.bl false) (putF "ways" (.ref wy) (putF "links" (.ref lk) fs))))) ga = some (.dT []) := by rw [upd_ne mg2]; exact k4
  generalize hg4 : upd H4 m (.ins (He.ga K "Machine") dx (putF "gatherings" (.ref ga) (putF "passes_on" (.bl false) (putF "ways" (.ref wy) (putF "links" (.ref lk) fs))))) = G4 at b4 g4
  have o4 : G4 m = some (.ins (He.ga K "Machine") dx (putF "gatherings" (.ref ga) (putF "passes_on" (.bl false) (putF "ways" (.ref wy) (putF "links" (.ref lk) fs))))) := by rw [← hg4]; exact upd_same
  refine sq_fldX (i := 0) (a := m) (x_ev ev_c) rfl fun z H5 ⟨hz, e5⟩ => ⟨_, dx, _, e5 _ _ o4, T.cl_Machine, T.n_Machine_time, (put (.ref lk) (.ref wy) (.bl false) (.ref ga) .non .non .non).2.2.2.2.1, ?_⟩
  subst hz
  have b5 : ExB m G4 (upd H5 m (.ins (He.ga K "Machine") dx (putF "time" (.int 0) (putF "gatherings" (.ref ga) (putF "passes_on" (.bl false) (putF "ways" (.ref wy) (putF "links" (.ref lk) fs))))))) := (ExB.of e5).trans .upd
  generalize hg5 : upd H5 m (.ins (He.ga K "Machine") dx (putF "time" (.int 0) (putF "gatherings" (.ref ga) (putF "passes_on" (.bl false) (putF "ways" (.ref wy) (putF "links" (.ref lk) fs)))))) = G5 at b5
  have o5 : G5 m = some (.ins (He.ga K "Machine") dx (putF "time" (.int 0) (putF "gatherings" (.ref ga) (putF "passes_on" (.bl false) (putF "ways" (.ref wy) (putF "links" (.ref lk) fs)))))) := by rw [← hg5]; exact upd_same
  refine sq_fldX (i := 0) (a := m) (x_ev ev_c) rfl fun z H6 ⟨hz, e6⟩ => ⟨_, dx, _, e6 _ _ o5, T.cl_Machine, T.n_Machine_next_name, (put (.ref lk) (.ref wy) (.bl false) (.ref ga) (.int 0) .non .non).2.2.2.2.2.1, ?_⟩
  subst hz
  have b6 : ExB m G5 (upd H6 m (.ins (He.ga K "Machine") dx (putF "next_name" (.int 0) (putF "time" (.int 0) (putF "gatherings" (.ref ga) (putF "passes_on" (.bl false) (putF "ways" (.ref wy) (putF "links" (.ref lk) fs)))))))) := (ExB.of e6).trans .upd
  generalize hg6 : upd H6 m (.ins (He.ga K "Machine") dx (putF "next_name" (.int 0) (putF "time" (.int 0) (putF "gatherings" (.ref ga) (putF "passes_on" (.bl false) (putF "ways" (.ref wy) (putF "links" (.ref lk) fs))))))) = G6 at b6
  have o6 : G6 m = some (.ins (He.ga K "Machine") dx (putF "next_name" (.int 0) (putF "time" (.int 0) (putF "gatherings" (.ref ga) (putF "passes_on" (.bl false) (putF "ways" (.ref wy) (putF "links" (.ref lk) fs))))))) := by rw [← hg6]; exact upd_same
  have b46 := (b4.trans b5).trans b6
  have l6 := b46 _ _ l3 ml
  have w6 := b46 _ _ w3 mw
  have g6 := (b5.trans b6) _ _ g4 mg2
  refine s_fldX (i := 0) (a := m) x_disp rfl fun z H7 ⟨tk, hz, nt, e7, k7⟩ => ⟨_, dx, _, e7 _ _ o6, T.cl_Machine, T.n_Machine_taken, (put (.ref lk) (.ref wy) (.bl false) (.ref ga) (.int 0) (.int 0) .non).2.2.2.2.2.2.1, ?_⟩
  subst hz
  rw [(put (.ref lk) (.ref wy) (.bl false) (.ref ga) (.int 0) (.int 0) (.ref tk)).2.2.2.2.2.2.2]
  have mt : tk ≠ m := (ne_of_none o6 nt).symm
  have b06 := ((b1.trans b2).trans b3).trans b46
  have back : ∀ {x : Addr}, x ≠ m → ∀ {G : Hp}, ExB m H G → G x = none → H x = none := fun {x} hx {G} eb hn => by
    cases e : H x with
    | none => rfl
    | some o =>
      rw [eb _ _ e hx] at hn
      cases hn
  refine q _ lk wy ga tk ⟨upd_same, ?_, ?_, ?_, ?_, (b06.trans (.of e7)).trans .upd, nl, back mw b1 nw, back mg2 ((b1.trans b2).trans b3) ng, back mt b06 nt, lw, lg, ne_of_none l6 nt, wg, ne_of_none w6 nt, ne_of_none g6 nt⟩
  · rw [upd_ne ml]; exact e7 _ _ l6
  · rw [upd_ne mw]; exact e7 _ _ w6
  · rw [upd_ne mg2]; exact e7 _ _ g6
  · rw [upd_ne mt]; exact k7
theorem ok_Machine__renew (T : Txt K mg base) : DefOk P w K mg base 1 (He.ma K (He.ga K "Machine") "renew") ["self"] (sp_Machine__renew K) := by
  obtain ⟨fd, F⟩ := T.fd_Machine__renew
  exact ⟨fd, okF_Machine__renew T F, F.bindsN fun _ _ _ _ _ _ us hl => match us, hl with | [_], _ => rfl, F.kp⟩
def sp_Machine__init (K : PySem.W.Frag) : Sp := fun vs H Q _ => ∃ (m dx : Addr), vs = [.ref m] ∧ H m = some (.ins (He.ga K "Machine") dx []) ∧ ∀ H' lk wy ga tk, Fresh K H m dx H' lk wy ga tk → Q .non H'
theorem len_Machine__init {vs : List V} {H : Hp} {Q : VK} {E : XK} (h : sp_Machine__init K vs H Q E) : vs.length = 1 := by
  obtain ⟨m, dx, rfl, _⟩ := h
  rfl
theorem sc_Machine__init : FnScope ["self"] ["self"] (defScope s_Machine__init) := ⟨rfl, rfl, rfl, by decide +kernel, rfl, by decide +kernel, by decide +kernel⟩
theorem okF_Machine__init (T : Txt K mg base) {fd : FuncData} (F : FunD K d_Machine__init.name d_Machine__init.qual d_Machine__init.params d_Machine__init.body d_Machine__init.scope [] [] (He.fAd K d_Machine__init.at_) fd) : FnOk P w K mg base CX0 2 (He.ma K (He.ga K "Machine") "__init__") fd ["self"] (sp_Machine__init K) := by
  obtain ⟨fd_Machine__renew, G_Machine__renew, b_Machine__renew, k_Machine__renew⟩ := ok_Machine__renew (P := P) (w := w) (base := base) T
  refine F.ok sc_Machine__init (fun vs H Q E h => len_Machine__init h) (fun cdv Ar outer s H vs Q E hr h => ?_)
  refine ⟨_, PSs.nox (pss_one (ps_expr (pe_meth0 (pv 0) T.cl_Machine T.me_Machine_renew G_Machine__renew (hr.mono (by decide)) b_Machine__renew .nil pass0))), ?_⟩
  obtain ⟨m, dx, rfl, hm, q⟩ := h
  exact x_meth (K := K) (R := fun z H' => z = .non ∧ ∃ lk wy ga tk, Fresh K H m dx H' lk wy ga tk) (ev_var (i := 0) (σ := [some (.ref m)]) rfl) hm rfl (fun H1 e1 Q1 E1 q1 => ⟨m, dx, [], rfl, e1 _ _ hm, .inl rfl, fun H' lk wy ga tk F => q1 _ _ ⟨rfl, lk, wy, ga, tk, { F with keep := (ExB.of e1).trans F.keep, nl := fresh_back e1 F.nl, nw := fresh_back e1 F.nw, ng := fresh_back e1 F.ng, nt := fresh_back e1 F.nt }⟩⟩) _ fun z H' ⟨hz, lk, wy, ga, tk, F⟩ => q H' lk wy ga tk F
theorem ok_Machine__init (T : Txt K mg base) : DefOk P w K mg base 2 (He.ma K (He.ga K "Machine") "__init__") ["self"] (sp_Machine__init K) := by
  obtain ⟨fd, F⟩ := T.fd_Machine__init
  exact ⟨fd, okF_Machine__init T F, F.bindsN fun _ _ _ _ _ _ us hl => match us, hl with | [_], _ => rfl, F.kp⟩
def A_new (_ : Hp) (_ : List Addr) (rest : List V) (c : Sv62Neutral.Call) : Prop := rest = [] ∧ c = [[0]]
abbrev sp_answer_new (K : PySem.W.Frag) : Sp := spCall K A_new
theorem len_answer_new {vs : List V} {H : Hp} {Q : VK} {E : XK} (h : sp_answer_new K vs H Q E) : vs.length = 1 := by
  obtain ⟨m, n, f, rest, c, rfl, _, ⟨rfl, _⟩, _⟩ := h
  rfl
theorem step_new (n : Sv62.Net) : Sv62Neutral.step n [[0]] = (Sv62.fresh, [0]) := rfl
theorem sc_answer_new : FnScope ["machine"] ["machine"] (defScope s_answer_new) := ⟨rfl, rfl, rfl, by decide +kernel, rfl, by decide +kernel, by decide +kernel⟩
theorem okF_answer_new (T : Txt K mg base) {fd : FuncData} (F : FunD K d_answer_new.name d_answer_new.qual d_answer_new.params d_answer_new.body d_answer_new.scope [] [] (He.fAd K d_answer_new.at_) fd) : FnOk P w K mg base CX0 2 (He.ga K "answer_new") fd ["machine"] (sp_answer_new K) := by
  obtain ⟨fd_Machine__renew, G_Machine__renew, b_Machine__renew, k_Machine__renew⟩ := ok_Machine__renew (P := P) (w := w) (base := base) T
  refine F.ok sc_answer_new (fun vs H Q E h => len_answer_new h) (fun cdv Ar outer s H vs Q E hr h => ?_)
  refine ⟨_, PSs.nox (pss_cons (ps_expr (pe_meth0 (pv 0) T.cl_Machine T.me_Machine_renew G_Machine__renew (hr.mono (by decide)) b_Machine__renew .nil pass0))
      (pss_one (ps_ret (pe_lst (pa_cons pe_int pa_nil))))), ?_⟩
  obtain ⟨m, n, f, _, _, rfl, M, ⟨rfl, rfl⟩, q⟩ := h
  rw [step_new] at q
  obtain ⟨dm, om⟩ := M.obj
  refine sq_dropX (x_meth (K := K) (R := fun z H' => ∃ f', Moved K H m f Sv62.fresh H' f') (ev_var (i := 0) rfl) om F_Machine_no_renew fun H1 e1 Q1 E1 q1 => ⟨m, dm, _, rfl, e1 _ _ om, .inr ⟨_, _, _, _, _, _, _, rfl⟩, fun H' lk wy ga tk F => q1 _ _ ⟨⟨lk, wy, ga, tk, lamP K, [], f.av⟩, ?_⟩⟩) fun z H2 ⟨f', mv⟩ => ?_
  · have N := footNe M.nd
    have M1 := M.ex e1
    refine ⟨F.mach (by rw [← M.tbe]; exact M1.tab) ⟨_, e1 _ _ om, fun c => codeO_ins⟩ (by rw [← M.tbe]; exact N.m_tb.symm) M1.avs (fun z => (N.av m z).1 rfl) (by rw [← M.tbe]; exact fun z => (N.av _ z).2.2.2.2.2 rfl) ?_, fun b hb => ?_, fun b o hb hn t => F.keep b o (e1 _ _ hb) fun z => hn (by rw [z]; simp [Foot.all]), rfl, fun b hb o h _ => F.keep b o (e1 _ _ h) fun z => (N.av b hb).1 z.symm⟩
    · have := M.nd
      unfold Foot.all at this
      simp only [List.nodup_cons] at this
      exact (List.nodup_append.mp (List.nodup_append.mp this.2.2.2.2.2.2).2.1).2.1
    simp only [Foot.all, List.map_nil, List.nil_append, List.mem_cons] at hb
    rcases hb with rfl | rfl | rfl | rfl | rfl | rfl | hb
    · exact .inl (by simp [Foot.all])
    · exact .inr (.of (fresh_back e1 F.nl))
    · exact .inr (.of (fresh_back e1 F.nw))
    · exact .inr (.of (fresh_back e1 F.ng))
    · exact .inr (.of (fresh_back e1 F.nt))
    · exact .inl (by rw [← M.tbe]; simp [Foot.all])
    · exact .inl (by simp [Foot.all, hb])
  · exact ret_el (el_lst (ea_cons ev_c ea_nil) (by show 1 ≤ 100000; decide)) fun p H3 np e3 h3 => q p H3 (mv.done e3 np h3)
theorem ok_answer_new (T : Txt K mg base) : DefOk P w K mg base 2 (He.ga K "answer_new") ["machine"] (sp_answer_new K) := by
  obtain ⟨fd, F⟩ := T.fd_answer_new
  exact ⟨fd, okF_answer_new T F, F.bindsN fun _ _ _ _ _ _ us hl => match us, hl with | [_], _ => rfl, F.kp⟩
end
end Lp
set_option maxHeartbeats 400000000
namespace Lp
open PySem PySem.Spec PyProof.Rows L2 Evl
/-! ### send -/
/-- what sending by a way comes to -/
def sendRes (n : Sv62.Net) (o : Option Way3) (p : Sv62.Packet) : Sv62.Net × List Int := match o with
  | none => (n, [-2])
  | some w => match n.link w.2.1 with
    | none => (n, [-2])
    | some l => if p.uncut = true ∧ l.fits < 20 + p.body.length then (n, [-7]) else (n.named, 0 :: (Sv62.outBy w.2.1 w.2.2 l { p with from_ := if p.from_ = 0 then l.address else p.from_ }).flatMap Sv62Neutral.wanted)
theorem hdF_sender (h : Hd) (s : Nat) : putF "sender" (.int (s : Int)) (hdF h) = hdF { h with sender := s } := F_Head_put_sender
theorem hw_ne {a b c d e f g h x y z : V} : F_Way x y z ≠ F_Head a b c d e f g h := fun q => by
  have := congrArg List.length q
  simp [F_Way, F_Head] at this
/-- a head that's new to the machine -/
structure NewHead (K : PySem.W.Frag) (H0 H : Hp) (m : Addr) (n : Sv62.Net) (f : Foot) (a : Addr) (p : Sv62.Packet) (d : Addr) : Prop where
  at_ : MachAt K H0 m n f
  ex : Ex H0 H
  new : H0 a = none
  hd : HeadAt K H a (hdOf p (20 + p.body.length))
  bd : H d = some (.lst (bv p.body))
  bn : d ∉ f.all m
  hops : p.hops < 256
  what : p.what < 256
  len : p.body.length ≤ 65515
theorem NewHead.more {K : PySem.W.Frag} {H0 H H' : Hp} {m : Addr} {n : Sv62.Net} {f : Foot} {a : Addr} {p : Sv62.Packet} {d : Addr} (x : NewHead K H0 H m n f a p d) (e : Ex H H') : NewHead K H0 H' m n f a p d :=
  ⟨x.at_, x.ex.trans e, x.new, x.hd.ex e, e _ _ x.bd, x.bn, x.hops, x.what, x.len⟩
theorem NewHead.out {K : PySem.W.Frag} {H0 H : Hp} {m : Addr} {n : Sv62.Net} {f : Foot} {a : Addr} {p : Sv62.Packet} {d : Addr} (x : NewHead K H0 H m n f a p d) : a ∉ f.all m := x.at_.fresh x.new
theorem NewHead.ne {K : PySem.W.Frag} {H0 H : Hp} {m : Addr} {n : Sv62.Net} {f : Foot} {a : Addr} {p : Sv62.Packet} {d : Addr} (x : NewHead K H0 H m n f a p d) : d ≠ a := by
  obtain ⟨dx, h⟩ := x.hd
  exact ne_of x.bd h fun z => nomatch z
/-- its sender is set -/
theorem NewHead.sender {K : PySem.W.Frag} {H0 H : Hp} {m : Addr} {n : Sv62.Net} {f : Foot} {a dx : Addr} {p : Sv62.Packet} {d : Addr} (x : NewHead K H0 H m n f a p d) (s : Nat) : NewHead K H0 (upd H a (.ins (He.ga K "Head") dx (hdF { hdOf p (20 + p.body.length) with sender := s }))) m n f a { p with from_ := s } d :=
  ⟨x.at_, Ex.mut x.ex x.new, x.new, ⟨dx, upd_same⟩, by rw [upd_ne x.ne]; exact x.bd, x.bn, x.hops, x.what, x.len⟩
section
variable {P : Program} {w : World} {K : PySem.W.Frag} {mg : Str → Option Value} {base : Heap}
def sp_send_by_way (K : PySem.W.Frag) : Sp := fun vs H Q _ => ∃ (m : Addr) (n : Sv62.Net) (f : Foot) (v : V) (o : Option Way3) (a : Addr) (p : Sv62.Packet) (d : Addr) (H0 : Hp), vs = [.ref m, v, .ref a, .ref d] ∧ NewHead K H0 H m n f a p d ∧ WayO K H (f.all m) v o ∧ (∀ w, o = some w → w.2.1 < 4 ∧ ∃ l, n.link w.2.1 = some l) ∧
  ∀ q H', Done K H0 m f (sendRes n o p).1 (sendRes n o p).2 q H' → Q (.ref q) H'
theorem len_send_by_way {vs : List V} {H : Hp} {Q : VK} {E : XK} (h : sp_send_by_way K vs H Q E) : vs.length = 4 := by
  obtain ⟨m, n, f, v, o, a, p, d, H0, rfl, _⟩ := h
  rfl
theorem un_x (T : Txt K mg base) {σ : L2.St} {H : Hp} {m : Addr} {n : Sv62.Net} {f : Foot} {i : Nat} {E : XK} (hs : σ[i]? = some (some (.ref m))) (M : MachAt K H m n f) : EvX (tMeth (He.ga K "Machine") "use_name" (sp_Machine__use_name K) [] E (tVar i) tNil) σ H fun z H' => Moved K H m f n.named H' f := by
  obtain ⟨dm, om⟩ := M.obj
  exact x_meth (K := K) (ev_var hs) om F_Machine_no_use_name fun H1 e1 Q1 E1 q1 => ⟨m, n, f, rfl, M.ex e1, fun H' mv => q1 _ _ (mv.after e1)⟩
theorem sc_send_by_way : FnScope ["machine", "way", "head", "body"] ["machine", "way", "head", "body"] (defScope s_send_by_way) := ⟨rfl, rfl, rfl, by decide +kernel, rfl, by decide +kernel, by decide +kernel⟩
theorem okF_send_by_way (T : Txt K mg base) {fd : FuncData} (F : FunD K d_send_by_way.name d_send_by_way.qual d_send_by_way.params d_send_by_way.body d_send_by_way.scope [] [] (He.fAd K d_send_by_way.at_) fd) : FnOk P w K mg base CX0 6 (He.ga K "send_by_way") fd ["machine", "way", "head", "body"] (sp_send_by_way K) := by
  obtain ⟨fd_sent_by, G_sent_by, b_sent_by, k_sent_by⟩ := ok_sent_by (P := P) (w := w) (base := base) T
  obtain ⟨fd_Machine__use_name, G_Machine__use_name, b_Machine__use_name, k_Machine__use_name⟩ := ok_Machine__use_name (P := P) (w := w) (base := base) T
  obtain ⟨fd_is_stuck, G_is_stuck, b_is_stuck, k_is_stuck⟩ := ok_is_stuck (P := P) (w := w) (base := base) T
  refine F.ok sc_send_by_way (fun vs H Q E h => len_send_by_way h) (fun cdv Ar outer s H vs Q E hr h => ?_)
  refine ⟨_, PSs.nox (pss_cons (ps_if (pt_cmpR op_isN (pv 1) pe_non (nomark _)) (pss_one (ps_ret (pe_lst (pa_cons (pe_gi rfl T.c_NOT_THERE) pa_nil)))) pss_nil)
      (pss_cons (ps_if (pt_val (pe_call G_is_stuck (hr.mono (by decide)) rfl T.g_is_stuck k_is_stuck b_is_stuck .nil pass0 (pa_cons (pv 0) (pa_cons (pv 1) (pa_cons (pv 2) pa_nil))))) (pss_one (ps_ret (pe_lst (pa_cons (pe_gi rfl T.c_TOO_LONG) pa_nil)))) pss_nil)
      (pss_cons (ps_if (pt_cmpR op_eq (pe_fld (pv 2) rfl) (pe_gi rfl T.c_NOBODY) (nomark _)) (pss_one (ps_fld (pv 2) (pe_fld (pe_ix ix_list (pe_fld (pv 0) rfl) (pe_fld (pv 1) rfl) (fun _ _ => rfl)) rfl) rfl)) pss_nil)
      (pss_cons (ps_expr (pe_meth0 (pv 0) T.cl_Machine T.me_Machine_use_name G_Machine__use_name (hr.mono (by decide)) b_Machine__use_name .nil pass0))
      (pss_one (ps_ret (pe_op op_cat (pe_lst (pa_cons pe_int pa_nil)) (pe_call G_sent_by (hr.mono (by decide)) rfl T.g_sent_by k_sent_by b_sent_by .nil pass0 (pa_cons (pv 0) (pa_cons (pv 1) (pa_cons (pv 2) (pa_cons (pv 3) pa_nil)))))))))))), ?_⟩
  obtain ⟨m, n, f, v, o, a, p, d, H0, rfl, X0, W, hw, q⟩ := h
  cases o with
  | none =>
    have z0 : v = .non := W
    subst z0
    refine sq_if (b := true) (et_is (et_test (ev_isN (ev_var rfl))) rfl) (fun _ H1 e1 => ?_) (fun z => Bool.noConfusion z)
    exact ret_el (el_lst (ea_cons ev_c ea_nil) (by show 1 ≤ 100000; decide)) fun r H2 nr e2 h2 => q r H2 (Done.same X0.at_ ((X0.ex.trans e1).trans e2) (fresh_back (X0.ex.trans e1) nr) h2)
  | some w3 =>
    obtain ⟨hw4, l, hl⟩ := hw w3 rfl
    have eR : sendRes n (some w3) p = if p.uncut = true ∧ l.fits < 20 + p.body.length then (n, [-7]) else (n.named, 0 :: (Sv62.outBy w3.2.1 w3.2.2 l { p with from_ := if p.from_ = 0 then l.address else p.from_ }).flatMap Sv62Neutral.wanted) := by
      unfold sendRes
      simp only [hl]
    rw [eR] at q
    have W' : WayV K H (f.all m) v w3 := W
    obtain ⟨wp, wdx, rfl, wn, wo⟩ := W
    refine sq_if (b := false) (et_is (et_test (ev_isN (ev_var rfl))) rfl) (fun z => Bool.noConfusion z) (fun _ H1 e1 => ?_)
    have X1 := X0.more e1
    have M1 := X1.at_.ex X1.ex
    have W1 := W'.ex e1
    refine sq_if (b := p.uncut && decide (l.fits < 20 + p.body.length)) (et_B (ev_call (ea_cons (ev_var rfl) (ea_cons (ev_var rfl) (ea_cons (ev_var rfl) ea_nil))) fun H2 e2 Q2 q2 _ => ⟨m, n, f, .ref wp, f.all m, w3, l, a, _, p.more, p.uncut, rfl, M1.ex e2, W1.ex e2, hw4, hl, X1.hd.ex e2, rfl, q2⟩)) (fun hc H2 e2 => ?_) (fun hc H2 e2 => ?_)
    · rw [Bool.and_eq_true, decide_eq_true_eq] at hc
      rw [if_pos hc] at q
      exact ret_el (el_lst (ea_cons ev_c ea_nil) (by show 1 ≤ 100000; decide)) fun r H3 nr e3 h3 => q r H3 (Done.same X0.at_ ((X1.ex.trans e2).trans e3) (fresh_back (X1.ex.trans e2) nr) h3)
    · have hc2 : ¬ (p.uncut = true ∧ l.fits < 20 + p.body.length) := by
        rw [← decide_eq_true_eq (p := l.fits < 20 + p.body.length), ← Bool.and_eq_true, hc]
        decide
      rw [if_neg hc2] at q
      have X2 := X1.more e2
      have M2 := X2.at_.ex X2.ex
      have W2 := W1.ex e2
      obtain ⟨hdx, ho⟩ := X2.hd
      -- the sender, set or not
      have fin : ∀ H3, NewHead K H0 H3 m n f a { p with from_ := if p.from_ = 0 then l.address else p.from_ } d → WayV K H3 (f.all m) (.ref wp) w3 →
          tSeq (tDrop (tMeth (He.ga K "Machine") "use_name" (sp_Machine__use_name K) [] E0 (tVar 0) tNil)) (tRet (tOp rCat (tLst (tCons (tC (.int 0)) tNil)) (tCall (sp_sent_by K) [] E0 (tCons (tVar 0) (tCons (tVar 1) (tCons (tVar 2) (tCons (tVar 3) tNil))))))) { nx := fun _ H' => Q .non H', rt := Q } [some (.ref m), some (.ref wp), some (.ref a), some (.ref d)] H3 := by
        intro H3 X3 W3
        have M3 := X3.at_.ex X3.ex
        refine sq_dropX (un_x T rfl M3) fun _ H4 mv => ?_
        have mv0 : Moved K H0 m f n.named H4 f := mv.after X3.ex
        have ol := out_len w3.2.1 w3.2.2 l { p with from_ := if p.from_ = 0 then l.address else p.from_ }
        have hA4 := X3.hd.keep mv.keep X3.out
        have hb4 := mv.keep _ _ X3.bd X3.bn rfl
        have W4 := W3.keep mv.keep mv.sub
        have lb := X3.len
        have lb2 : p.body.length ≤ 65515 := lb
        refine ret_x (x_front' (K := K) (k := 0) (n' := n.named) (ans := (Sv62.outBy w3.2.1 w3.2.2 l { p with from_ := if p.from_ = 0 then l.address else p.from_ }).flatMap Sv62Neutral.wanted) mv.at_ (by dsimp only at ol; omega) fun H5 e5 => x_call (R := fun z H' => ∃ r, z = .ref r ∧ Done K H5 m f n.named ((Sv62.outBy w3.2.1 w3.2.2 l { p with from_ := if p.from_ = 0 then l.address else p.from_ }).flatMap Sv62Neutral.wanted) r H') (ea_cons (ev_var (i := 0) rfl) (ea_cons (ev_var (i := 1) rfl) (ea_cons (ev_var (i := 2) rfl) (ea_cons (ev_var (i := 3) rfl) ea_nil)))) fun H6 e6 Q6 E6 q6 => ?_) fun z H' ⟨r, hz, dn⟩ => ?_
        · refine ⟨m, n.named, f, .ref wp, f.all m, w3, l, a, { p with from_ := if p.from_ = 0 then l.address else p.from_ }, _, d, rfl, (mv.at_.ex e5).ex e6, (W4.ex e5).ex e6, hw4, hl, (hA4.ex e5).ex e6, e6 _ _ (e5 _ _ hb4), X3.hops, X3.what, lb2, fun r H7 nr e7 k7 => q6 _ _ ⟨r, rfl, Done.after e6 (Done.same ((mv.at_.ex e5).ex e6) e7 nr k7)⟩⟩
        · subst hz
          obtain ⟨f', d1, d2, d3, d4⟩ := dn
          refine q r H' ⟨f', mv0.trans d1, ?_, d3, d4⟩
          rcases d2 with d2 | d2
          · exact .inl d2
          · exact mv0.isNew d2
      by_cases cz : p.from_ = 0
      · have ef : { p with from_ := if p.from_ = 0 then l.address else p.from_ } = { p with from_ := l.address } := by rw [if_pos cz]
        rw [ef] at fin
        refine sq_if (b := true) ?_ (fun _ H3 e3 => ?_) (fun z => Bool.noConfusion z)
        · refine et_is (et_test (ev_op (fl_sender T rfl X2.hd) ev_c (rv_eq rfl))) ?_
          show decide (V.int (p.from_ : Int) = V.int 0) = true
          rw [cz]
          rfl
        have X3 := X2.more e3
        have M3 := X3.at_.ex X3.ex
        obtain ⟨dm, om⟩ := M3.obj
        obtain ⟨vs, ol, pl⟩ := M3.lks
        obtain ⟨lv, hlv, hl2⟩ := pr_get pl (link_at M3.good hw4)
        rw [hl] at hl2
        obtain ⟨lp, ldx, rfl, ln, lo⟩ := hl2
        refine s_fld (K := K) (y := .int (l.address : Int)) (ev_fld (ev_op (ev_fld (ev_var rfl) om T.cl_Machine T.n_Machine_links F_Machine_links) (ev_fld (ev_var rfl) ((e1.trans e2).trans e3 _ _ wo) T.cl_Way T.n_Way_link F_Way_link) (rv_ixL (sq_of ol) (atI_nat hlv))) lo T.cl_Link T.n_Link_address F_Link_address) (ev_var rfl) (e3 _ _ ho) T.cl_Head T.n_Head_sender (by show 8 < 1000; decide) fun H4 e4 => ?_
        rw [hdF_sender]
        have wa : wp ≠ a := ne_of wo ((X0.hd).choose_spec) (fun z => by
          injection z with _ _ z
          exact hw_ne z)
        refine fin _ ((X3.more e4).sender l.address) ⟨wp, wdx, rfl, wn, ?_⟩
        rw [upd_ne wa]
        exact e4 _ _ (e3 _ _ (e2 _ _ (e1 _ _ wo)))
      · have ef : { p with from_ := if p.from_ = 0 then l.address else p.from_ } = p := by rw [if_neg cz]
        rw [ef] at fin
        refine sq_if (b := false) ?_ (fun z => Bool.noConfusion z) (fun _ H3 e3 => ?_)
        · refine et_is (et_test (ev_op (fl_sender T rfl X2.hd) ev_c (rv_eq rfl))) ?_
          show decide (V.int (p.from_ : Int) = V.int 0) = false
          rw [decide_eq_false_iff_not, V.int.injEq]
          omega
        exact fin H3 (X2.more e3) (W2.ex e3)
theorem ok_send_by_way (T : Txt K mg base) : DefOk P w K mg base 6 (He.ga K "send_by_way") ["machine", "way", "head", "body"] (sp_send_by_way K) := by
  obtain ⟨fd, F⟩ := T.fd_send_by_way
  exact ⟨fd, okF_send_by_way T F, F.bindsN fun _ _ _ _ _ _ us hl => match us, hl with | [_, _, _, _], _ => rfl, F.kp⟩
def sp_send_upward (K : PySem.W.Frag) : Sp := fun vs H Q _ => ∃ (m : Addr) (n : Sv62.Net) (f : Foot) (a : Addr) (p : Sv62.Packet) (d : Addr) (H0 : Hp), vs = [.ref m, .ref a, .ref d] ∧ NewHead K H0 H m n f a p d ∧
  ∀ q H', Done K H0 m f n.named (0 :: Sv62Neutral.wanted (.up 4 ({ p with from_ := if p.from_ = 0 then p.to else p.from_ } : Sv62.Packet).head p.body)) q H' → Q (.ref q) H'
theorem len_send_upward {vs : List V} {H : Hp} {Q : VK} {E : XK} (h : sp_send_upward K vs H Q E) : vs.length = 3 := by
  obtain ⟨m, n, f, a, p, d, H0, rfl, _⟩ := h
  rfl
theorem sm_of {p : Sv62.Packet} {k : Nat} (h1 : p.hops < 256) (h2 : p.what < 256) : HdSm (hdOf p k) := ⟨h1, h2, flag_lt p.more p.uncut⟩
theorem sc_send_upward : FnScope ["machine", "head", "body"] ["machine", "head", "body"] (defScope s_send_upward) := ⟨rfl, rfl, rfl, by decide +kernel, rfl, by decide +kernel, by decide +kernel⟩
theorem okF_send_upward (T : Txt K mg base) {fd : FuncData} (F : FunD K d_send_upward.name d_send_upward.qual d_send_upward.params d_send_upward.body d_send_upward.scope [] [] (He.fAd K d_send_upward.at_) fd) : FnOk P w K mg base CX0 4 (He.ga K "send_upward") fd ["machine", "head", "body"] (sp_send_upward K) := by
  obtain ⟨fd_told_upward, G_told_upward, b_told_upward, k_told_upward⟩ := ok_told_upward (P := P) (w := w) (base := base) T
  obtain ⟨fd_Machine__use_name, G_Machine__use_name, b_Machine__use_name, k_Machine__use_name⟩ := ok_Machine__use_name (P := P) (w := w) (base := base) T
  refine F.ok sc_send_upward (fun vs H Q E h => len_send_upward h) (fun cdv Ar outer s H vs Q E hr h => ?_)
  refine ⟨_, PSs.nox (pss_cons (ps_if (pt_cmpR op_eq (pe_fld (pv 1) rfl) (pe_gi rfl T.c_NOBODY) (nomark _)) (pss_one (ps_fld (pv 1) (pe_fld (pv 1) rfl) rfl)) pss_nil)
      (pss_cons (ps_expr (pe_meth0 (pv 0) T.cl_Machine T.me_Machine_use_name G_Machine__use_name (hr.mono (by decide)) b_Machine__use_name .nil pass0))
      (pss_one (ps_ret (pe_op op_cat (pe_lst (pa_cons pe_int pa_nil)) (pe_call G_told_upward (hr.mono (by decide)) rfl T.g_told_upward k_told_upward b_told_upward .nil pass0 (pa_cons (pe_gi rfl T.c_NO_LINK) (pa_cons (pv 1) (pa_cons (pv 2) pa_nil))))))))), ?_⟩
  obtain ⟨m, n, f, a, p, d, H0, rfl, X0, q⟩ := h
  obtain ⟨hdx, ho⟩ := X0.hd
  have fin : ∀ H3, NewHead K H0 H3 m n f a { p with from_ := if p.from_ = 0 then p.to else p.from_ } d →
      tSeq (tDrop (tMeth (He.ga K "Machine") "use_name" (sp_Machine__use_name K) [] E0 (tVar 0) tNil)) (tRet (tOp rCat (tLst (tCons (tC (.int 0)) tNil)) (tCall (sp_told_upward K) [] E0 (tCons (tC (.int 4)) (tCons (tVar 1) (tCons (tVar 2) tNil)))))) { nx := fun _ H' => Q .non H', rt := Q } [some (.ref m), some (.ref a), some (.ref d)] H3 := by
    intro H3 X3
    have M3 := X3.at_.ex X3.ex
    refine sq_dropX (un_x T rfl M3) fun _ H4 mv => ?_
    have mv0 : Moved K H0 m f n.named H4 f := mv.after X3.ex
    have hA4 := X3.hd.keep mv.keep X3.out
    have hb4 := mv.keep _ _ X3.bd X3.bn rfl
    have lb := X3.len
    have lb2 : p.body.length ≤ 65515 := lb
    have ul := up_len 4 (({ p with from_ := if p.from_ = 0 then p.to else p.from_ } : Sv62.Packet).head) p.body
    have hlen : (({ p with from_ := if p.from_ = 0 then p.to else p.from_ } : Sv62.Packet).head).length = 20 := headOf_len _ _
    refine ret_x (x_front' (K := K) (k := 0) (n' := n.named) (ans := Sv62Neutral.wanted (.up 4 ({ p with from_ := if p.from_ = 0 then p.to else p.from_ } : Sv62.Packet).head p.body)) mv.at_ (by omega) fun H5 e5 => x_call (R := fun z H' => ∃ r, z = .ref r ∧ Done K H5 m f n.named (Sv62Neutral.wanted (.up 4 ({ p with from_ := if p.from_ = 0 then p.to else p.from_ } : Sv62.Packet).head p.body)) r H') (ea_cons ev_c (ea_cons (ev_var (i := 1) rfl) (ea_cons (ev_var (i := 2) rfl) ea_nil))) fun H6 e6 Q6 E6 q6 => ?_) fun z H' ⟨r, hz, dn⟩ => ?_
    · refine ⟨4, a, _, d, p.body, rfl, (hA4.ex e5).ex e6, sm_of X3.hops X3.what, e6 _ _ (e5 _ _ hb4), by omega, fun r H7 nr e7 k7 => q6 _ _ ⟨r, rfl, Done.after e6 (Done.same ((mv.at_.ex e5).ex e6) e7 nr ?_)⟩⟩
      rw [hdOf_bytes] at k7
      exact k7
    · subst hz
      obtain ⟨f', d1, d2, d3, d4⟩ := dn
      refine q r H' ⟨f', mv0.trans d1, ?_, d3, d4⟩
      rcases d2 with d2 | d2
      · exact .inl d2
      · exact mv0.isNew d2
  by_cases cz : p.from_ = 0
  · have ef : { p with from_ := if p.from_ = 0 then p.to else p.from_ } = { p with from_ := p.to } := by rw [if_pos cz]
    rw [ef] at fin
    refine sq_if (b := true) ?_ (fun _ H3 e3 => ?_) (fun z => Bool.noConfusion z)
    · refine et_is (et_test (ev_op (fl_sender T rfl X0.hd) ev_c (rv_eq rfl))) ?_
      show decide (V.int (p.from_ : Int) = V.int 0) = true
      rw [cz]
      rfl
    have X3 := X0.more e3
    refine s_fld (K := K) (y := .int (p.to : Int)) (fl_to T rfl X3.hd) (ev_var rfl) (e3 _ _ ho) T.cl_Head T.n_Head_sender (by show 8 < 1000; decide) fun H4 e4 => ?_
    rw [hdF_sender]
    exact fin _ ((X3.more e4).sender p.to)
  · have ef : { p with from_ := if p.from_ = 0 then p.to else p.from_ } = p := by rw [if_neg cz]
    rw [ef] at fin
    refine sq_if (b := false) ?_ (fun z => Bool.noConfusion z) (fun _ H3 e3 => ?_)
    · refine et_is (et_test (ev_op (fl_sender T rfl X0.hd) ev_c (rv_eq rfl))) ?_
      show decide (V.int (p.from_ : Int) = V.int 0) = false
      rw [decide_eq_false_iff_not, V.int.injEq]
      omega
    exact fin H3 (X0.more e3)
theorem ok_send_upward (T : Txt K mg base) : DefOk P w K mg base 4 (He.ga K "send_upward") ["machine", "head", "body"] (sp_send_upward K) := by
  obtain ⟨fd, F⟩ := T.fd_send_upward
  exact ⟨fd, okF_send_upward T F, F.bindsN fun _ _ _ _ _ _ us hl => match us, hl with | [_, _, _], _ => rfl, F.kp⟩
def sp_send_by_link (K : PySem.W.Frag) : Sp := fun vs H Q _ => ∃ (m : Addr) (n : Sv62.Net) (f : Foot) (k : Nat) (a : Addr) (p : Sv62.Packet) (d : Addr) (H0 : Hp), vs = [.ref m, .int (k : Int), .ref a, .ref d] ∧ k < 4 ∧ NewHead K H0 H m n f a p d ∧
  ∀ q H', Done K H0 m f (if n.link k = none then (n, [-4]) else sendRes n (some (0, k, 0)) p).1 (if n.link k = none then (n, [-4]) else sendRes n (some (0, k, 0)) p).2 q H' → Q (.ref q) H'
theorem len_send_by_link {vs : List V} {H : Hp} {Q : VK} {E : XK} (h : sp_send_by_link K vs H Q E) : vs.length = 4 := by
  obtain ⟨m, n, f, k, a, p, d, H0, rfl, _⟩ := h
  rfl
theorem sendRes_bits (n : Sv62.Net) (x y k j : Nat) (p : Sv62.Packet) : sendRes n (some (x, k, j)) p = sendRes n (some (y, k, j)) p := rfl
theorem sc_send_by_link : FnScope ["machine", "link", "head", "body"] ["machine", "link", "head", "body"] (defScope s_send_by_link) := ⟨rfl, rfl, rfl, by decide +kernel, rfl, by decide +kernel, by decide +kernel⟩
theorem okF_send_by_link (T : Txt K mg base) {fd : FuncData} (F : FunD K d_send_by_link.name d_send_by_link.qual d_send_by_link.params d_send_by_link.body d_send_by_link.scope [] [] (He.fAd K d_send_by_link.at_) fd) : FnOk P w K mg base CX0 7 (He.ga K "send_by_link") fd ["machine", "link", "head", "body"] (sp_send_by_link K) := by
  obtain ⟨fd_send_by_way, G_send_by_way, b_send_by_way, k_send_by_way⟩ := ok_send_by_way (P := P) (w := w) (base := base) T
  obtain ⟨fd_own_way, G_own_way, b_own_way, k_own_way⟩ := ok_own_way (P := P) (w := w) (base := base) T
  refine F.ok sc_send_by_link (fun vs H Q E h => len_send_by_link h) (fun cdv Ar outer s H vs Q E hr h => ?_)
  refine ⟨_, PSs.nox (pss_cons (ps_if (pt_cmpR op_isN (pe_ix ix_list (pe_fld (pv 0) rfl) (pv 1) (fun _ _ => rfl)) pe_non (nomark _)) (pss_one (ps_ret (pe_lst (pa_cons (pe_gi rfl T.c_NOT_NOW) pa_nil)))) pss_nil)
      (pss_one (ps_ret (pe_call G_send_by_way (hr.mono (by decide)) rfl T.g_send_by_way k_send_by_way b_send_by_way .nil pass0 (pa_cons (pv 0) (pa_cons (pe_call G_own_way (hr.mono (by decide)) rfl T.g_own_way k_own_way b_own_way .nil pass0 (pa_cons (pv 0) (pa_cons (pv 1) pa_nil))) (pa_cons (pv 2) (pa_cons (pv 3) pa_nil)))))))), ?_⟩
  obtain ⟨m, n, f, k, a, p, d, H0, rfl, hk, X0, q⟩ := h
  have M := X0.at_.ex X0.ex
  obtain ⟨dm, om⟩ := M.obj
  obtain ⟨vs, ol, pl⟩ := M.lks
  obtain ⟨lv, hlv, hl2⟩ := pr_get pl (link_at M.good hk)
  cases hl : n.link k with
  | none =>
    rw [hl] at hl2
    have lv0 : lv = .non := hl2
    subst lv0
    rw [if_pos hl] at q
    refine sq_if (b := true) (et_is (et_test (ev_isN (ev_op (ev_fld (ev_var rfl) om T.cl_Machine T.n_Machine_links F_Machine_links) (ev_var rfl) (rv_ixL (sq_of ol) (atI_nat hlv))))) rfl) (fun _ H1 e1 => ?_) (fun z => Bool.noConfusion z)
    exact ret_el (el_lst (ea_cons ev_c ea_nil) (by show 1 ≤ 100000; decide)) fun r H2 nr e2 h2 => q r H2 (Done.same X0.at_ ((X0.ex.trans e1).trans e2) (fresh_back (X0.ex.trans e1) nr) h2)
  | some l =>
    rw [hl] at hl2
    obtain ⟨lp, ldx, rfl, ln, lo⟩ := hl2
    rw [if_neg (by rw [hl]; exact fun z => nomatch z)] at q
    refine sq_if (b := false) (et_is (et_test (ev_isN (ev_op (ev_fld (ev_var rfl) om T.cl_Machine T.n_Machine_links F_Machine_links) (ev_var rfl) (rv_ixL (sq_of ol) (atI_nat hlv))))) rfl) (fun z => Bool.noConfusion z) (fun _ H1 e1 => ?_)
    have M1 := M.ex e1
    refine ret_of (call_of (cons_of (ev_go (v := V.ref m) (ev_var (i := 0) rfl) fun H2 e2 => cons_of ?_)))
    refine (er_call (R := fun z H' => WayV K H' (f.all m) z (l.bits, k, 0)) (ea_cons (ev_var (i := 0) rfl) (ea_cons (ev_var (i := 1) rfl) ea_nil)) fun H3 e3 Q3 E3 q3 => ⟨m, n, f, k, l, rfl, (M1.ex e2).ex e3, hk, hl, q3⟩) H2 (Ex.refl H2) _ fun z H3 e3 hz => ?_
    refine cons_of (ev_go (v := V.ref a) (ev_var (i := 2) rfl) fun H4 e4 => cons_of (ev_go (v := V.ref d) (ev_var (i := 3) rfl) fun H5 e5 => nil_of ?_))
    have eT := (((e1.trans e2).trans e3).trans e4).trans e5
    exact ⟨m, n, f, z, some (l.bits, k, 0), a, p, d, H0, rfl, X0.more eT, (WayV.ex (e4.trans e5) hz), fun w hw => by cases hw; exact ⟨hk, l, hl⟩, fun r H' dn => q r H' dn⟩
theorem ok_send_by_link (T : Txt K mg base) : DefOk P w K mg base 7 (He.ga K "send_by_link") ["machine", "link", "head", "body"] (sp_send_by_link K) := by
  obtain ⟨fd, F⟩ := T.fd_send_by_link
  exact ⟨fd, okF_send_by_link T F, F.bindsN fun _ _ _ _ _ _ us hl => match us, hl with | [_, _, _, _], _ => rfl, F.kp⟩
end
end Lp
set_option maxHeartbeats 400000000
namespace Lp
open PySem PySem.Spec PyProof.Rows L2 Evl
def sendOk (n : Sv62.Net) (what : Int) (s t : Nat) (hops uncut link : Int) (b : Sv62.Bytes) : Bool := Sv62.within what 1 4 && (((s : Int) == 0 || (Sv62.within (s : Int) 1 4294967294 && n.own s)) && (Sv62.within (t : Int) 1 4294967295 && (Sv62.within hops 1 255 && (Sv62.within uncut 0 1 && (Sv62.within link (-1) 3 && decide (b.length ≤ Sv62.MOST))))))
def sendPk (n : Sv62.Net) (what : Int) (s t : Nat) (hops uncut : Int) (b : Sv62.Bytes) : Sv62.Packet := ⟨hops.toNat, what.toNat, false, uncut == 1, n.name, 0, s, t, b⟩
def sendAll (n : Sv62.Net) (link : Int) (p : Sv62.Packet) : Sv62.Net × List Int :=
  if 0 ≤ link then (if n.link link.toNat = none then (n, [-4]) else sendRes n (some (0, link.toNat, 0)) p)
  else if p.to = Sv62.EVERYBODY then (n, [-2])
  else if n.own p.to = true then (n.named, 0 :: Sv62Neutral.wanted (.up 4 ({ p with from_ := if p.from_ = 0 then p.to else p.from_ } : Sv62.Packet).head p.body))
  else sendRes n ((n.best p.to).map three) p
theorem step_send (n : Sv62.Net) (G : Good n) (what : Int) (s t : Nat) (hops uncut link : Int) (b : Sv62.Bytes) : Sv62Neutral.step n [[6, what, (s : Int), (t : Int), hops, uncut, link], Sv62Neutral.ofOctets b] =
    if sendOk n what s t hops uncut link b = false then (n, [-1]) else sendAll n link (sendPk n what s t hops uncut b) := by
  have e : Sv62Neutral.step n [[6, what, (s : Int), (t : Int), hops, uncut, link], Sv62Neutral.ofOctets b] = ((Sv62.does n (.send what (s : Int) (t : Int) hops uncut link (Sv62Neutral.octets (Sv62Neutral.ofOctets b)))).1, (Sv62.does n (.send what (s : Int) (t : Int) hops uncut link (Sv62Neutral.octets (Sv62Neutral.ofOctets b)))).2.v :: (Sv62Neutral.ints (Sv62.does n (.send what (s : Int) (t : Int) hops uncut link (Sv62Neutral.octets (Sv62Neutral.ofOctets b)))).2.numbers ++ (Sv62.does n (.send what (s : Int) (t : Int) hops uncut link (Sv62Neutral.octets (Sv62Neutral.ofOctets b)))).2.wants.flatMap Sv62Neutral.wanted)) := rfl
  rw [e, octets_off]
  unfold Sv62.does
  have eo : (Sv62.within what 1 4 && (((s : Int) == 0 || (Sv62.within (s : Int) 1 4294967294 && n.own s)) && (Sv62.within (t : Int) 1 4294967295 && (Sv62.within hops 1 255 && (Sv62.within uncut 0 1 && (Sv62.within link (-1) 3 && decide (b.length ≤ Sv62.MOST))))))) = sendOk n what s t hops uncut link b := rfl
  have cast0 : ∀ x : Nat, (if (s : Int) = 0 then x else s) = if s = 0 then x else s := fun x => by
    by_cases c : s = 0
    · rw [if_pos c, if_pos (by omega)]
    · rw [if_neg c, if_neg (by omega)]
  have un : ∀ y : Prop, (uncut = 1 ∧ y) ↔ ((uncut == 1) = true ∧ y) := fun y => by rw [beq_iff_eq]
  simp only [Int.toNat_natCast]
  simp only [eo, cast0]
  by_cases c : sendOk n what s t hops uncut link b = false
  · simp only [if_pos c]
    rfl
  · simp only [if_neg c]
    unfold sendAll
    by_cases c1 : 0 ≤ link
    · simp only [if_pos c1]
      cases hl : n.link link.toNat with
      | none =>
        simp only [if_true]
        rfl
      | some l =>
        simp only [reduceCtorEq, if_false]
        unfold sendRes sendPk
        simp only [hl, un]
        by_cases c2 : (uncut == 1) = true ∧ l.fits < 20 + b.length
        · simp only [if_pos c2]
          rfl
        · simp only [if_neg c2]
          rfl
    · simp only [if_neg c1]
      have et : (sendPk n what s t hops uncut b).to = t := rfl
      rw [et]
      by_cases c2 : t = Sv62.EVERYBODY
      · simp only [if_pos c2]
        rfl
      · simp only [if_neg c2]
        by_cases c3 : n.own t = true
        · simp only [if_pos c3, List.flatMap_cons, List.flatMap_nil, List.append_nil]
          rfl
        · simp only [if_neg c3]
          cases hb : n.best t with
          | none => rfl
          | some w =>
            obtain ⟨_, l, hl⟩ := best_link G hb
            unfold sendRes sendPk
            have h3 : (three w).2.1 = w.link := rfl
            simp only [Option.map_some, h3, hl, un]
            by_cases c4 : (uncut == 1) = true ∧ l.fits < 20 + b.length
            · simp only [if_pos c4]
              rfl
            · simp only [if_neg c4]
              rfl
theorem own_range {n : Sv62.Net} (G : Good n) {s : Nat} (h : n.own s = true) : Sv62.within (s : Int) 1 4294967294 = true := by
  unfold Sv62.Net.own at h
  rw [List.any_eq_true] at h
  obtain ⟨o, ho, hm⟩ := h
  cases o with
  | none => cases hm
  | some l =>
    have e : l.address = s := by simpa using hm
    have := G.lok l ho
    rw [within_iff]
    omega
section
variable {P : Program} {w : World} {K : PySem.W.Frag} {mg : Str → Option Value} {base : Heap}
def A_send (H : Hp) (S : List Addr) (rest : List V) (c : Sv62Neutral.Call) : Prop := ∃ (what : Int) (s t : Nat) (hops uncut link : Int) (d : Addr) (b : Sv62.Bytes), rest = [.int what, .int (s : Int), .int (t : Int), .int hops, .int uncut, .int link, .ref d] ∧ H d = some (.lst (bv b)) ∧ d ∉ S ∧ b.length ≤ 15900 ∧ t < 4294967296 ∧
  c = [[6, what, (s : Int), (t : Int), hops, uncut, link], Sv62Neutral.ofOctets b]
abbrev sp_answer_send (K : PySem.W.Frag) : Sp := spCall K A_send
theorem len_answer_send {vs : List V} {H : Hp} {Q : VK} {E : XK} (h : sp_answer_send K vs H Q E) : vs.length = 8 := by
  obtain ⟨m, n, f, rest, c, rfl, _, ⟨what, s, t, hops, uncut, link, d, b, rfl, _⟩, _⟩ := h
  rfl
theorem in01 (u : Int) : inV (.int u) [.int 0, .int 1] = Sv62.within u 0 1 := by
  rw [Bool.eq_iff_iff, within_iff]
  show (((0 : Int) == u) || (((1 : Int) == u) || false)) = true ↔ _
  simp only [Bool.or_false, Bool.or_eq_true, beq_iff_eq]
  omega
theorem sc_answer_send : FnScope ["machine", "what", "sender", "to", "hops", "uncut", "link", "body", "head"] ["machine", "what", "sender", "to", "hops", "uncut", "link", "body"] (defScope s_answer_send) := ⟨rfl, rfl, rfl, by decide +kernel, rfl, by decide +kernel, by decide +kernel⟩
theorem okF_answer_send (T : Txt K mg base) {fd : FuncData} (F : FunD K d_answer_send.name d_answer_send.qual d_answer_send.params d_answer_send.body d_answer_send.scope [] [] (He.fAd K d_answer_send.at_) fd) : FnOk P w K mg base CX0 8 (He.ga K "answer_send") fd ["machine", "what", "sender", "to", "hops", "uncut", "link", "body"] (sp_answer_send K) := by
  obtain ⟨fd_send_by_way, G_send_by_way, b_send_by_way, k_send_by_way⟩ := ok_send_by_way (P := P) (w := w) (base := base) T
  obtain ⟨fd_way_to, G_way_to, b_way_to, k_way_to⟩ := ok_way_to (P := P) (w := w) (base := base) T
  obtain ⟨fd_is_own_address, G_is_own_address, b_is_own_address, k_is_own_address⟩ := ok_is_own_address (P := P) (w := w) (base := base) T
  obtain ⟨fd_send_upward, G_send_upward, b_send_upward, k_send_upward⟩ := ok_send_upward (P := P) (w := w) (base := base) T
  obtain ⟨fd_send_by_link, G_send_by_link, b_send_by_link, k_send_by_link⟩ := ok_send_by_link (P := P) (w := w) (base := base) T
  obtain ⟨fd_Head__init, G_Head__init, b_Head__init, k_Head__init⟩ := ok_Head__init (P := P) (w := w) (base := base) T
  obtain ⟨fd_is_link_or_none, G_is_link_or_none, b_is_link_or_none, k_is_link_or_none⟩ := ok_is_link_or_none (P := P) (w := w) (base := base) T
  obtain ⟨fd_is_sender, G_is_sender, b_is_sender, k_is_sender⟩ := ok_is_sender (P := P) (w := w) (base := base) T
  obtain ⟨fd_is_hops, G_is_hops, b_is_hops, k_is_hops⟩ := ok_is_hops (P := P) (w := w) (base := base) T
  obtain ⟨fd_is_to, G_is_to, b_is_to, k_is_to⟩ := ok_is_to (P := P) (w := w) (base := base) T
  obtain ⟨fd_is_what, G_is_what, b_is_what, k_is_what⟩ := ok_is_what (P := P) (w := w) (base := base) T
  refine F.ok sc_answer_send (fun vs H Q E h => len_answer_send h) (fun cdv Ar outer s H vs Q E hr h => ?_)
  refine ⟨_, PSs.nox (pss_cons (ps_if (PW.pt (pw_or (pt_not (pt_val (pe_call G_is_what (hr.mono (by decide)) rfl T.g_is_what k_is_what b_is_what .nil pass0 (pa_cons (pv 1) pa_nil)))) (pw_or (pt_not (pt_val (pe_call G_is_to (hr.mono (by decide)) rfl T.g_is_to k_is_to b_is_to .nil pass0 (pa_cons (pv 3) pa_nil)))) (pw_or (pt_not (pt_val (pe_call G_is_hops (hr.mono (by decide)) rfl T.g_is_hops k_is_hops b_is_hops .nil pass0 (pa_cons (pv 4) pa_nil)))) (pw_or1 (pt_cmpR op_gt (pe_callB call_len_seq (by rfl) T.f_len PySem.boot_len (pa_cons (pv 7) pa_nil)) (pe_gi rfl T.c_MOST_BODY) (nomark _))))))) (pss_one (ps_ret (pe_lst (pa_cons (pe_gi rfl T.c_WRONG_ARGUMENTS) pa_nil)))) pss_nil)
      (pss_cons (ps_if (PW.pt (pw_or (pt_not (pt_val (pe_call G_is_sender (hr.mono (by decide)) rfl T.g_is_sender k_is_sender b_is_sender .nil pass0 (pa_cons (pv 0) (pa_cons (pv 2) pa_nil))))) (pw_or (pt_cmpR op_notIn_seq (pv 5) (pe_tup (pa_cons pe_int (pa_cons pe_int pa_nil))) (by rfl)) (pw_or1 (pt_not (pt_val (pe_call G_is_link_or_none (hr.mono (by decide)) rfl T.g_is_link_or_none k_is_link_or_none b_is_link_or_none .nil pass0 (pa_cons (pv 6) pa_nil)))))))) (pss_one (ps_ret (pe_lst (pa_cons (pe_gi rfl T.c_WRONG_ARGUMENTS) pa_nil)))) pss_nil)
      (pss_cons (ps_set (i := 8) sc_answer_send.nd rfl (Or.inl rfl) (pe_make T.mk_Head G_Head__init (hr.mono (by decide)) rfl T.g_Head b_Head__init .nil pass0 (pa_cons (pv 4) (pa_cons (pv 1) (pa_cons (pe_op op_mul (pv 5) (pe_gi rfl T.c_UNCUT)) (pa_cons (pe_op op_add (pe_gi rfl T.c_HEAD_LENGTH) (pe_callB call_len_seq (by rfl) T.f_len PySem.boot_len (pa_cons (pv 7) pa_nil))) (pa_cons (pe_fld (pv 0) rfl) (pa_cons pe_int (pa_cons (pv 2) (pa_cons (pv 3) pa_nil))))))))))
      (pss_cons (ps_if (pt_cmpR op_ne (pv 6) (pe_gi rfl T.c_BY_WAY) (nomark _)) (pss_one (ps_ret (pe_call G_send_by_link (hr.mono (by decide)) rfl T.g_send_by_link k_send_by_link b_send_by_link .nil pass0 (pa_cons (pv 0) (pa_cons (pv 6) (pa_cons (pv 8) (pa_cons (pv 7) pa_nil))))))) pss_nil)
      (pss_cons (ps_if (pt_cmpR op_eq (pv 3) (pe_gi rfl T.c_EVERYBODY) (nomark _)) (pss_one (ps_ret (pe_lst (pa_cons (pe_gi rfl T.c_NOT_THERE) pa_nil)))) pss_nil)
      (pss_cons (ps_if (pt_val (pe_call G_is_own_address (hr.mono (by decide)) rfl T.g_is_own_address k_is_own_address b_is_own_address .nil pass0 (pa_cons (pv 0) (pa_cons (pv 3) pa_nil)))) (pss_one (ps_ret (pe_call G_send_upward (hr.mono (by decide)) rfl T.g_send_upward k_send_upward b_send_upward .nil pass0 (pa_cons (pv 0) (pa_cons (pv 8) (pa_cons (pv 7) pa_nil)))))) pss_nil)
      (pss_one (ps_ret (pe_call G_send_by_way (hr.mono (by decide)) rfl T.g_send_by_way k_send_by_way b_send_by_way .nil pass0 (pa_cons (pv 0) (pa_cons (pe_call G_way_to (hr.mono (by decide)) rfl T.g_way_to k_way_to b_way_to .nil pass0 (pa_cons (pv 0) (pa_cons (pv 3) pa_nil))) (pa_cons (pv 8) (pa_cons (pv 7) pa_nil))))))))))))), ?_⟩
  obtain ⟨m, n, f, _, _, rfl, M, ⟨what, s1, t, hops, uncut, link, d, b, rfl, hd, nd, hlb, ht32, rfl⟩, q⟩ := h
  rw [step_send n M.good] at q
  have no : ∀ {H' : Hp} {p : Addr}, Ex H H' → ∀ {H2 : Hp}, H' p = none → Ex H' H2 → H2 p = some (.lst [.int (-1)]) → sendOk n what s1 t hops uncut link b = false → Q (.ref p) H2 := fun {H' p} e {H2} np e2 h2 hf => by
    rw [if_pos hf] at q
    exact q p H2 (Done.same M (e.trans e2) (fresh_back e np) h2)
  refine sq_if (b := !Sv62.within what 1 4 || (!Sv62.within (t : Int) 1 4294967295 || (!Sv62.within hops 1 255 || false))) ?_ (fun hb H1 e1 => ?_) (fun hb H1 e1 => ?_)
  · refine et_or (et_not (et_B (ev_call (ea_cons (ev_var rfl) ea_nil) (spZ_v ⟨_, rfl, rfl⟩)))) fun _ => et_or (et_not (et_B (ev_call (ea_cons (ev_var rfl) ea_nil) (spZ_v ⟨_, rfl, rfl⟩)))) fun _ => et_or (et_not (et_B (ev_call (ea_cons (ev_var rfl) ea_nil) (spZ_v ⟨_, rfl, rfl⟩)))) fun _ => et_is (et_test (ev_op (ev_len (K := K) (ev_var rfl) (sq_of hd)) ev_c rv_I0)) ?_
    rw [bv_len, decide_eq_false_iff_not]
    omega
  · refine ret_el (el_lst (ea_cons ev_c ea_nil) (by show 1 ≤ 100000; decide)) fun p H2 np e2 h2 => no e1 np e2 h2 ?_
    unfold sendOk
    cases h1 : Sv62.within what 1 4 <;> cases h2 : Sv62.within (t : Int) 1 4294967295 <;> cases h3 : Sv62.within hops 1 255 <;> rw [h1, h2, h3] at hb <;> first | (simp; done) | cases hb
  · have c1 : Sv62.within what 1 4 = true ∧ Sv62.within (t : Int) 1 4294967295 = true ∧ Sv62.within hops 1 255 = true := by
      cases h1 : Sv62.within what 1 4 <;> cases h2 : Sv62.within (t : Int) 1 4294967295 <;> cases h3 : Sv62.within hops 1 255 <;> rw [h1, h2, h3] at hb <;> first | exact ⟨rfl, rfl, rfl⟩ | cases hb
    have M1 := M.ex e1
    have hd1 := e1 _ _ hd
    refine sq_if (b := !(s1 == 0 || n.own s1) || (!Sv62.within uncut 0 1 || !Sv62.within link (-1) 3)) ?_ (fun hc H2 e2 => ?_) (fun hc H2 e2 => ?_)
    · refine et_or (et_not (et_B (ev_call (ea_cons (ev_var rfl) (ea_cons (ev_var rfl) ea_nil)) fun H2 e2 Q2 q2 _ => ⟨m, n, f, s1, rfl, M1.ex e2, q2⟩))) fun _ => et_or (et_is (et_test (ev_niU (K := K) (xs := [.int 0, .int 1]) (ev_var rfl) (eu_tup (ea_cons ev_c (ea_cons ev_c ea_nil)) (by show 2 ≤ 100000; decide)) rfl rfl)) (congrArg _ (in01 uncut))) fun _ => et_not (et_B (ev_call (ea_cons (ev_var rfl) ea_nil) (spZ_v ⟨_, rfl, rfl⟩)))
    · refine ret_el (el_lst (ea_cons ev_c ea_nil) (by show 1 ≤ 100000; decide)) fun p H3 np e3 h3 => no (e1.trans e2) np e3 h3 ?_
      unfold sendOk
      rw [c1.1, c1.2.1, c1.2.2]
      cases h1 : (s1 == 0 || n.own s1) with
      | false =>
        rw [Bool.or_eq_false_iff] at h1
        have : ((s1 : Int) == 0) = false := by
          have := h1.1
          rw [beq_eq_false_iff_ne] at this ⊢
          omega
        rw [this, h1.2]
        simp
      | true =>
        rw [h1] at hc
        cases h2 : Sv62.within uncut 0 1 <;> cases h3 : Sv62.within link (-1) 3 <;> rw [h2, h3] at hc <;> first | (simp; done) | cases hc
    · have c2 : (s1 == 0 || n.own s1) = true ∧ Sv62.within uncut 0 1 = true ∧ Sv62.within link (-1) 3 = true := by
        cases h1 : (s1 == 0 || n.own s1) <;> cases h2 : Sv62.within uncut 0 1 <;> cases h3 : Sv62.within link (-1) 3 <;> rw [h1, h2, h3] at hc <;> first | exact ⟨rfl, rfl, rfl⟩ | cases hc
      have hs : (((s1 : Int) == 0) || (Sv62.within (s1 : Int) 1 4294967294 && n.own s1)) = true := by
        have := c2.1
        rw [Bool.or_eq_true] at this ⊢
        rcases this with z | z
        · refine .inl ?_
          rw [beq_iff_eq] at z ⊢
          omega
        · refine .inr ?_
          rw [own_range M.good z, z]
          rfl
      have ok : ¬ sendOk n what s1 t hops uncut link b = false := by
        unfold sendOk Sv62.MOST
        rw [c1.1, c1.2.1, c1.2.2, c2.2.1, c2.2.2, hs, decide_eq_true (by omega)]
        decide
      rw [if_neg ok] at q
      have w1 := within_iff.mp c1.1
      have w2 := within_iff.mp c1.2.1
      have w3 := within_iff.mp c1.2.2
      have w4 := within_iff.mp c2.2.1
      have w5 := within_iff.mp c2.2.2
      obtain ⟨wn, rfl⟩ : ∃ j : Nat, what = (j : Int) := ⟨what.toNat, by omega⟩
      obtain ⟨hn, rfl⟩ : ∃ j : Nat, hops = (j : Int) := ⟨hops.toNat, by omega⟩
      have M2 := M1.ex e2
      have hd2 := e2 _ _ hd1
      obtain ⟨dm, om⟩ := M2.obj
      have uf : uncut * 2 = ((false.toNat + 2 * (uncut == 1).toNat : Nat) : Int) := by
        rcases (by omega : uncut = 0 ∨ uncut = 1) with rfl | rfl <;> rfl
      refine sq_setEN (en_make (ws := [.int (hn : Int), .int (wn : Int), .int ((false.toNat + 2 * (uncut == 1).toNat : Nat) : Int), .int ((20 + b.length : Nat) : Int), .int (n.name : Int), .int ((0 : Nat) : Int), .int (s1 : Int), .int (t : Int)]) (ea_cons (ev_var rfl) (ea_cons (ev_var rfl) (ea_cons (ev_is (ev_op (ev_var rfl) ev_c (rv_I (.inr ⟨by decide, by decide⟩))) (congrArg V.int uf)) (ea_cons (ev_is (ev_op ev_c (ev_len (K := K) (ev_var rfl) (sq_of hd2)) rv_I0) (by rw [bv_len]; rfl)) (ea_cons (ev_fld (ev_var rfl) om T.cl_Machine T.n_Machine_next_name F_Machine_next_name) (ea_cons ev_c (ea_cons (ev_var rfl) (ea_cons (ev_var rfl) ea_nil)))))))) rfl) fun a dx H3 na e3 k3 => ?_
      have e12 := e1.trans e2
      have X : NewHead K H2 H3 m n f a (sendPk n wn s1 t hn uncut b) d := ⟨M2, e3, na, ⟨dx, k3⟩, e3 _ _ hd2, nd, by show (hn : Int).toNat < 256; omega, by show (wn : Int).toNat < 256; omega, by show b.length ≤ 65515; omega⟩
      have M3 := M2.ex e3
      have et : (sendPk n wn s1 t hn uncut b).to = t := rfl
      unfold sendAll at q
      rw [et] at q
      by_cases cl : link = -1
      · subst cl
        rw [if_neg (by decide)] at q
        refine sq_if (b := false) (et_is (et_test (ev_op (ev_var rfl) ev_c (rv_ne rfl))) rfl) (fun z => Bool.noConfusion z) (fun _ H4 e4 => ?_)
        by_cases c3 : t = Sv62.EVERYBODY
        · rw [if_pos c3] at q
          refine sq_if (b := true) (et_is (et_test (ev_op (ev_var rfl) ev_c (rv_eq rfl))) (by rw [c3]; rfl)) (fun _ H5 e5 => ?_) (fun z => Bool.noConfusion z)
          have eT := ((e12.trans e3).trans e4).trans e5
          exact ret_el (el_lst (ea_cons ev_c ea_nil) (by show 1 ≤ 100000; decide)) fun p H6 np e6 h6 => q p H6 (Done.same M (eT.trans e6) (fresh_back eT np) h6)
        · rw [if_neg c3] at q
          refine sq_if (b := false) (et_is (et_test (ev_op (ev_var rfl) ev_c (rv_eq rfl))) ?_) (fun z => Bool.noConfusion z) (fun _ H5 e5 => ?_)
          · rw [decide_eq_false_iff_not, V.int.injEq]
            unfold Sv62.EVERYBODY at c3
            omega
          have M5 := (M3.ex e4).ex e5
          have X5 := (X.more e4).more e5
          refine sq_if (b := n.own t) (et_B (ev_call (ea_cons (ev_var rfl) (ea_cons (ev_var rfl) ea_nil)) (oa_V M5))) (fun ho H6 e6 => ?_) (fun ho H6 e6 => ?_)
          · rw [if_pos ho] at q
            refine ret_x (x_call (R := fun z H' => ∃ r, z = .ref r ∧ Done K H2 m f n.named (0 :: Sv62Neutral.wanted (.up 4 ({ sendPk n wn s1 t hn uncut b with from_ := if (sendPk n wn s1 t hn uncut b).from_ = 0 then (sendPk n wn s1 t hn uncut b).to else (sendPk n wn s1 t hn uncut b).from_ } : Sv62.Packet).head b)) r H') (ea_cons (ev_var (i := 0) rfl) (ea_cons (ev_var (i := 8) rfl) (ea_cons (ev_var (i := 7) rfl) ea_nil))) fun H7 e7 Q7 E7 q7 => ⟨m, n, f, a, sendPk n wn s1 t hn uncut b, d, H2, rfl, (X5.more e6).more e7, fun r H' dn => q7 _ _ ⟨r, rfl, dn⟩⟩) fun z H' ⟨r, hz, dn⟩ => ?_
            subst hz
            exact q r H' (dn.after e12)
          · rw [if_neg (by rw [ho]; decide)] at q
            have M6 := M5.ex e6
            refine ret_of (call_of (cons_of (ev_go (v := V.ref m) (ev_var (i := 0) rfl) fun H7 e7 => cons_of ?_)))
            refine (er_call (ea_cons (ev_var (i := 0) rfl) (ea_cons (ev_var (i := 3) rfl) ea_nil)) (wt_r (a := t) (M6.ex e7) (by omega))) H7 (Ex.refl H7) _ fun z H8 e8 hz => ?_
            refine cons_of (ev_go (v := V.ref a) (ev_var (i := 8) rfl) fun H9 e9 => cons_of (ev_go (v := V.ref d) (ev_var (i := 7) rfl) fun Ha ea => nil_of ?_))
            refine ⟨m, n, f, z, (n.best t).map three, a, sendPk n wn s1 t hn uncut b, d, H2, rfl, X5.more (((e6.trans e7).trans e8).trans (e9.trans ea)), hz.keep (.of_ex (e9.trans ea)) same_sub, fun w' hw' => ?_, fun r H' dn => q r H' (dn.after e12)⟩
            cases hb : n.best t with
            | none =>
              rw [hb] at hw'
              cases hw'
            | some wy =>
              rw [hb] at hw'
              cases hw'
              exact best_link M.good hb
      · obtain ⟨ln, rfl⟩ : ∃ j : Nat, link = (j : Int) := ⟨link.toNat, by omega⟩
        rw [if_pos (by omega), Int.toNat_natCast] at q
        refine sq_if (b := true) (et_is (et_test (ev_op (ev_var rfl) ev_c (rv_ne rfl))) ?_) (fun _ H4 e4 => ?_) (fun z => Bool.noConfusion z)
        · rw [Bool.not_eq_true', decide_eq_false_iff_not, V.int.injEq]
          omega
        refine ret_x (x_call (R := fun z H' => ∃ r, z = .ref r ∧ Done K H2 m f (if n.link ln = none then (n, [-4]) else sendRes n (some (0, ln, 0)) (sendPk n wn s1 t hn uncut b)).1 (if n.link ln = none then (n, [-4]) else sendRes n (some (0, ln, 0)) (sendPk n wn s1 t hn uncut b)).2 r H') (ea_cons (ev_var (i := 0) rfl) (ea_cons (ev_var (i := 6) rfl) (ea_cons (ev_var (i := 8) rfl) (ea_cons (ev_var (i := 7) rfl) ea_nil)))) fun H7 e7 Q7 E7 q7 => ⟨m, n, f, ln, a, sendPk n wn s1 t hn uncut b, d, H2, rfl, by omega, (X.more e4).more e7, fun r H' dn => q7 _ _ ⟨r, rfl, dn⟩⟩) fun z H' ⟨r, hz, dn⟩ => ?_
        subst hz
        exact q r H' (dn.after e12)
theorem ok_answer_send (T : Txt K mg base) : DefOk P w K mg base 8 (He.ga K "answer_send") ["machine", "what", "sender", "to", "hops", "uncut", "link", "body"] (sp_answer_send K) := by
  obtain ⟨fd, F⟩ := T.fd_answer_send
  exact ⟨fd, okF_answer_send T F, F.bindsN fun _ _ _ _ _ _ us hl => match us, hl with | [_, _, _, _, _, _, _, _], _ => rfl, F.kp⟩
end
end Lp
set_option maxHeartbeats 400000000
namespace Lp
open PySem PySem.Spec PyProof.Rows L2 Evl
theorem ExB.ex {m : Addr} {H H' : Hp} (e : ExB m H H') (h : H m = none) : Ex H H' := fun b o hb => e b o hb (ne_of_none hb h)
/-! ### pieces and gatherings made -/
def pcF (h b : Addr) (hd : Hd) (n : Nat) : List (Str × V) := F_Piece (.ref h) (.ref b) (.int ((8 * hd.place : Nat) : Int)) (.int ((8 * hd.place + n : Nat) : Int)) (.bl (!moreOf hd.flags))
section
variable {P : Program} {w : World} {K : PySem.W.Frag} {mg : Str → Option Value} {base : Heap}
def sp_Piece__init (K : PySem.W.Frag) : Sp := fun vs H Q _ => ∃ (s dx h b : Addr) (hd : Hd) (bb : Sv62.Bytes), vs = [.ref s, .ref h, .ref b] ∧ H s = some (.ins (He.ga K "Piece") dx []) ∧ HeadAt K H h hd ∧ H b = some (.lst (bv bb)) ∧ h ≠ s ∧ b ≠ s ∧
  ∀ H', H' s = some (.ins (He.ga K "Piece") dx (pcF h b hd bb.length)) → ExB s H H' → Q .non H'
theorem len_Piece__init {vs : List V} {H : Hp} {Q : VK} {E : XK} (h : sp_Piece__init K vs H Q E) : vs.length = 3 := by
  obtain ⟨s, dx, h, b, hd, bb, rfl, _⟩ := h
  rfl
theorem sc_Piece__init : FnScope ["self", "head", "body"] ["self", "head", "body"] (defScope s_Piece__init) := ⟨rfl, rfl, rfl, by decide +kernel, rfl, by decide +kernel, by decide +kernel⟩
theorem okF_Piece__init (T : Txt K mg base) {fd : FuncData} (F : FunD K d_Piece__init.name d_Piece__init.qual d_Piece__init.params d_Piece__init.body d_Piece__init.scope [] [] (He.fAd K d_Piece__init.at_) fd) : FnOk P w K mg base CX0 2 (He.ma K (He.ga K "Piece") "__init__") fd ["self", "head", "body"] (sp_Piece__init K) := by
  obtain ⟨fd_has_more, G_has_more, b_has_more, k_has_more⟩ := ok_has_more (P := P) (w := w) (base := base) T
  refine F.ok sc_Piece__init (fun vs H Q E h => len_Piece__init h) (fun cdv Ar outer s H vs Q E hr h => ?_)
  refine ⟨_, PSs.nox (pss_cons (ps_fld (pv 0) (pv 1) rfl)
      (pss_cons (ps_fld (pv 0) (pv 2) rfl)
      (pss_cons (ps_fld (pv 0) (pe_op op_mul (pe_fld (pv 1) rfl) pe_int) rfl)
      (pss_cons (ps_fld (pv 0) (pe_op op_add (pe_fld (pv 0) rfl) (pe_callB call_len_seq (by rfl) T.f_len PySem.boot_len (pa_cons (pv 2) pa_nil))) rfl)
      (pss_one (ps_fld (pv 0) (pe_not (pe_call G_has_more (hr.mono (by decide)) rfl T.g_has_more k_has_more b_has_more .nil pass0 (pa_cons (pv 1) pa_nil))) rfl)))))), ?_⟩
  obtain ⟨s1, dx, hh, b, hd, bb, rfl, hs, hA, hb, n1, n2, q⟩ := h
  refine sq_fldX (i := 0) (a := s1) (x_ev (ev_var (i := 1) (v := V.ref hh) rfl)) rfl fun z H1 ⟨hz, e1⟩ => ⟨_, dx, [], e1 _ _ hs, T.cl_Piece, T.n_Piece_head, by show 0 < 1000; decide, ?_⟩
  subst hz
  rw [F_Piece_new_head]
  have b1 : ExB s1 H (upd H1 s1 (.ins (He.ga K "Piece") dx [("head", .ref hh)])) := (ExB.of e1).trans .upd
  generalize hg1 : upd H1 s1 (.ins (He.ga K "Piece") dx [("head", .ref hh)]) = G1 at b1
  have o1 : G1 s1 = some (.ins (He.ga K "Piece") dx [("head", .ref hh)]) := by rw [← hg1]; exact upd_same
  refine sq_fldX (i := 0) (a := s1) (x_ev (ev_var (i := 2) (v := V.ref b) rfl)) rfl fun z H2 ⟨hz, e2⟩ => ⟨_, dx, _, e2 _ _ o1, T.cl_Piece, T.n_Piece_body, by show 1 < 1000; decide, ?_⟩
  subst hz
  rw [F_Piece_new_body]
  have b2 : ExB s1 G1 (upd H2 s1 (.ins (He.ga K "Piece") dx [("head", .ref hh), ("body", .ref b)])) := (ExB.of e2).trans .upd
  generalize hg2 : upd H2 s1 (.ins (He.ga K "Piece") dx [("head", .ref hh), ("body", .ref b)]) = G2 at b2
  have o2 : G2 s1 = some (.ins (He.ga K "Piece") dx [("head", .ref hh), ("body", .ref b)]) := by rw [← hg2]; exact upd_same
  have hA2 : HeadAt K G2 hh hd := by
    obtain ⟨dh, ho⟩ := hA
    exact ⟨dh, b2 _ _ (b1 _ _ ho n1) n1⟩
  have hb2 := b2 _ _ (b1 _ _ hb n2) n2
  refine sq_fldX (i := 0) (a := s1) (x_ev (ev_is (w := V.int ((8 * hd.place : Nat) : Int)) (ev_op (fl_place T (i := 1) rfl hA2) ev_c (rv_I (.inr ⟨by decide, by decide⟩))) ?_)) rfl fun z H3 ⟨hz, e3⟩ => ⟨_, dx, _, e3 _ _ o2, T.cl_Piece, T.n_Piece_start, by show 2 < 1000; decide, ?_⟩
  · show V.int ((hd.place : Int) * 8) = _
    congr 1
    omega
  subst hz
  rw [F_Piece_new_start]
  have b3 : ExB s1 G2 (upd H3 s1 (.ins (He.ga K "Piece") dx [("head", .ref hh), ("body", .ref b), ("start", .int ((8 * hd.place : Nat) : Int))])) := (ExB.of e3).trans .upd
  generalize hg3 : upd H3 s1 (.ins (He.ga K "Piece") dx [("head", .ref hh), ("body", .ref b), ("start", .int ((8 * hd.place : Nat) : Int))]) = G3 at b3
  have o3 : G3 s1 = some (.ins (He.ga K "Piece") dx [("head", .ref hh), ("body", .ref b), ("start", .int ((8 * hd.place : Nat) : Int))]) := by rw [← hg3]; exact upd_same
  have hA3 : HeadAt K G3 hh hd := by
    obtain ⟨dh, ho⟩ := hA2
    exact ⟨dh, b3 _ _ ho n1⟩
  have hb3 := b3 _ _ hb2 n2
  refine sq_fldX (i := 0) (a := s1) (x_ev (ev_is (w := V.int ((8 * hd.place + bb.length : Nat) : Int)) (ev_op (r := rI0 fun i j => .int (i + j)) (ev_fld (ev_var (i := 0) rfl) o3 T.cl_Piece T.n_Piece_start ((lk_past (by decide +kernel)).trans ((lk_past (by decide +kernel)).trans lk_here))) (ev_len (K := K) (ev_var (i := 2) rfl) (sq_of hb3)) rv_I0) ?_)) rfl fun z H4 ⟨hz, e4⟩ => ⟨_, dx, _, e4 _ _ o3, T.cl_Piece, T.n_Piece_end, by show 3 < 1000; decide, ?_⟩
  · rw [bv_len]
    rfl
  subst hz
  rw [F_Piece_new_end]
  have b4 : ExB s1 G3 (upd H4 s1 (.ins (He.ga K "Piece") dx [("head", .ref hh), ("body", .ref b), ("start", .int ((8 * hd.place : Nat) : Int)), ("end", .int ((8 * hd.place + bb.length : Nat) : Int))])) := (ExB.of e4).trans .upd
  generalize hg4 : upd H4 s1 (.ins (He.ga K "Piece") dx [("head", .ref hh), ("body", .ref b), ("start", .int ((8 * hd.place : Nat) : Int)), ("end", .int ((8 * hd.place + bb.length : Nat) : Int))]) = G4 at b4
  have o4 : G4 s1 = some (.ins (He.ga K "Piece") dx [("head", .ref hh), ("body", .ref b), ("start", .int ((8 * hd.place : Nat) : Int)), ("end", .int ((8 * hd.place + bb.length : Nat) : Int))]) := by rw [← hg4]; exact upd_same
  have hA4 : HeadAt K G4 hh hd := by
    obtain ⟨dh, ho⟩ := hA3
    exact ⟨dh, b4 _ _ ho n1⟩
  refine s_fldX (i := 0) (a := s1) (x_ev (ev_notV (ev_call (ea_cons (ev_var (i := 1) rfl) ea_nil) (hm_V hA4)))) rfl fun z H5 ⟨hz, e5⟩ => ⟨_, dx, _, e5 _ _ o4, T.cl_Piece, T.n_Piece_is_last, by show 4 < 1000; decide, ?_⟩
  subst hz
  rw [F_Piece_new_is_last]
  exact q _ upd_same ((((b1.trans b2).trans b3).trans b4).trans ((ExB.of e5).trans .upd))
theorem ok_Piece__init (T : Txt K mg base) : DefOk P w K mg base 2 (He.ma K (He.ga K "Piece") "__init__") ["self", "head", "body"] (sp_Piece__init K) := by
  obtain ⟨fd, F⟩ := T.fd_Piece__init
  exact ⟨fd, okF_Piece__init T F, F.bindsN fun _ _ _ _ _ _ us hl => match us, hl with | [_, _, _], _ => rfl, F.kp⟩
def sp_Gathering__init (K : PySem.W.Frag) : Sp := fun vs H Q _ => ∃ (s dx : Addr) (t : Int), vs = [.ref s, .int t] ∧ H s = some (.ins (He.ga K "Gathering") dx []) ∧
  ∀ H' pl, H pl = none → H' s = some (.ins (He.ga K "Gathering") dx (F_Gathering (.int t) (.bl false) (.ref pl))) → H' pl = some (.lst []) → ExB s H H' → Q .non H'
theorem len_Gathering__init {vs : List V} {H : Hp} {Q : VK} {E : XK} (h : sp_Gathering__init K vs H Q E) : vs.length = 2 := by
  obtain ⟨s, dx, t, rfl, _⟩ := h
  rfl
theorem sc_Gathering__init : FnScope ["self", "began"] ["self", "began"] (defScope s_Gathering__init) := ⟨rfl, rfl, rfl, by decide +kernel, rfl, by decide +kernel, by decide +kernel⟩
theorem okF_Gathering__init (T : Txt K mg base) {fd : FuncData} (F : FunD K d_Gathering__init.name d_Gathering__init.qual d_Gathering__init.params d_Gathering__init.body d_Gathering__init.scope [] [] (He.fAd K d_Gathering__init.at_) fd) : FnOk P w K mg base CX0 1 (He.ma K (He.ga K "Gathering") "__init__") fd ["self", "began"] (sp_Gathering__init K) := by
  refine F.ok sc_Gathering__init (fun vs H Q E h => len_Gathering__init h) (fun cdv Ar outer s H vs Q E hr h => ?_)
  refine ⟨_, PSs.nox (pss_cons (ps_fld (pv 0) (pv 1) rfl)
      (pss_cons (ps_fld (pv 0) pe_bl rfl)
      (pss_one (ps_fld (pv 0) (pe_lst pa_nil) rfl)))), ?_⟩
  obtain ⟨s1, dx, t, rfl, hs, q⟩ := h
  refine sq_fldX (i := 0) (a := s1) (x_ev (ev_var (i := 1) (v := V.int t) rfl)) rfl fun z H1 ⟨hz, e1⟩ => ⟨_, dx, [], e1 _ _ hs, T.cl_Gathering, T.n_Gathering_began, by show 0 < 1000; decide, ?_⟩
  subst hz
  rw [F_Gathering_new_began]
  have b1 : ExB s1 H (upd H1 s1 (.ins (He.ga K "Gathering") dx [("began", .int t)])) := (ExB.of e1).trans .upd
  generalize hg1 : upd H1 s1 (.ins (He.ga K "Gathering") dx [("began", .int t)]) = G1 at b1
  have o1 : G1 s1 = some (.ins (He.ga K "Gathering") dx [("began", .int t)]) := by rw [← hg1]; exact upd_same
  refine sq_fldX (i := 0) (a := s1) (x_ev (ev_c (v := V.bl false))) rfl fun z H2 ⟨hz, e2⟩ => ⟨_, dx, _, e2 _ _ o1, T.cl_Gathering, T.n_Gathering_spoiled, by show 1 < 1000; decide, ?_⟩
  subst hz
  rw [F_Gathering_new_spoiled]
  have b2 : ExB s1 G1 (upd H2 s1 (.ins (He.ga K "Gathering") dx [("began", .int t), ("spoiled", .bl false)])) := (ExB.of e2).trans .upd
  generalize hg2 : upd H2 s1 (.ins (He.ga K "Gathering") dx [("began", .int t), ("spoiled", .bl false)]) = G2 at b2
  have o2 : G2 s1 = some (.ins (He.ga K "Gathering") dx [("began", .int t), ("spoiled", .bl false)]) := by rw [← hg2]; exact upd_same
  refine s_fldX (i := 0) (a := s1) (x_el (el_lst (vs := []) ea_nil (by show 0 ≤ 100000; decide))) rfl fun z H3 ⟨pl, hz, np, e3, k3⟩ => ⟨_, dx, _, e3 _ _ o2, T.cl_Gathering, T.n_Gathering_pieces, by show 2 < 1000; decide, ?_⟩
  subst hz
  rw [F_Gathering_new_pieces]
  have ps : pl ≠ s1 := (ne_of_none o2 np).symm
  refine q _ pl ?_ upd_same (by rw [upd_ne ps]; exact k3) ((b1.trans b2).trans ((ExB.of e3).trans .upd))
  cases e : H pl with
  | none => rfl
  | some o =>
    rw [(b1.trans b2) _ _ e ps] at np
    cases np
theorem ok_Gathering__init (T : Txt K mg base) : DefOk P w K mg base 1 (He.ma K (He.ga K "Gathering") "__init__") ["self", "began"] (sp_Gathering__init K) := by
  obtain ⟨fd, F⟩ := T.fd_Gathering__init
  exact ⟨fd, okF_Gathering__init T F, F.bindsN fun _ _ _ _ _ _ us hl => match us, hl with | [_, _], _ => rfl, F.kp⟩
def sp_spoil (K : PySem.W.Frag) : Sp := fun vs H Q _ => ∃ (g dx : Addr) (a b c : V), vs = [.ref g] ∧ H g = some (.ins (He.ga K "Gathering") dx (F_Gathering a b c)) ∧
  ∀ H' pl, H pl = none → H' g = some (.ins (He.ga K "Gathering") dx (F_Gathering a (.bl true) (.ref pl))) → H' pl = some (.lst []) → ExB g H H' → Q .non H'
theorem len_spoil {vs : List V} {H : Hp} {Q : VK} {E : XK} (h : sp_spoil K vs H Q E) : vs.length = 1 := by
  obtain ⟨g, dx, a, b, c, rfl, _⟩ := h
  rfl
theorem sc_spoil : FnScope ["gathering"] ["gathering"] (defScope s_spoil) := ⟨rfl, rfl, rfl, by decide +kernel, rfl, by decide +kernel, by decide +kernel⟩
theorem okF_spoil (T : Txt K mg base) {fd : FuncData} (F : FunD K d_spoil.name d_spoil.qual d_spoil.params d_spoil.body d_spoil.scope [] [] (He.fAd K d_spoil.at_) fd) : FnOk P w K mg base CX0 1 (He.ga K "spoil") fd ["gathering"] (sp_spoil K) := by
  refine F.ok sc_spoil (fun vs H Q E h => len_spoil h) (fun cdv Ar outer s H vs Q E hr h => ?_)
  refine ⟨_, PSs.nox (pss_cons (ps_fld (pv 0) pe_bl rfl)
      (pss_one (ps_fld (pv 0) (pe_lst pa_nil) rfl))), ?_⟩
  obtain ⟨g, dx, a, b, c, rfl, hg, q⟩ := h
  refine sq_fldX (i := 0) (a := g) (x_ev (ev_c (v := V.bl true))) rfl fun z H1 ⟨hz, e1⟩ => ⟨_, dx, _, e1 _ _ hg, T.cl_Gathering, T.n_Gathering_spoiled, by show 3 < 1000; decide, ?_⟩
  subst hz
  rw [F_Gathering_put_spoiled]
  have b1 : ExB g H (upd H1 g (.ins (He.ga K "Gathering") dx (F_Gathering a (.bl true) c))) := (ExB.of e1).trans .upd
  generalize hg1 : upd H1 g (.ins (He.ga K "Gathering") dx (F_Gathering a (.bl true) c)) = G1 at b1
  have o1 : G1 g = some (.ins (He.ga K "Gathering") dx (F_Gathering a (.bl true) c)) := by rw [← hg1]; exact upd_same
  refine s_fldX (i := 0) (a := g) (x_el (el_lst (vs := []) ea_nil (by show 0 ≤ 100000; decide))) rfl fun z H3 ⟨pl, hz, np, e3, k3⟩ => ⟨_, dx, _, e3 _ _ o1, T.cl_Gathering, T.n_Gathering_pieces, by show 3 < 1000; decide, ?_⟩
  subst hz
  rw [F_Gathering_put_pieces]
  have ps : pl ≠ g := (ne_of_none o1 np).symm
  refine q _ pl ?_ upd_same (by rw [upd_ne ps]; exact k3) (b1.trans ((ExB.of e3).trans .upd))
  cases e : H pl with
  | none => rfl
  | some o =>
    rw [b1 _ _ e ps] at np
    cases np
theorem ok_spoil (T : Txt K mg base) : DefOk P w K mg base 1 (He.ga K "spoil") ["gathering"] (sp_spoil K) := by
  obtain ⟨fd, F⟩ := T.fd_spoil
  exact ⟨fd, okF_spoil T F, F.bindsN fun _ _ _ _ _ _ us hl => match us, hl with | [_], _ => rfl, F.kp⟩
/-! ### keys -/
def pkP (p : Sv62.Packet) : List L2.Key := [.inl p.from_, .inl p.to, .inl p.what, .inl p.name]
theorem of_iff {x : Sv62.Part} {p : Sv62.Packet} : x.of p = true ↔ pkey x = pkP p := by
  unfold Sv62.Part.of pkey pkP
  simp only [Bool.and_eq_true, beq_iff_eq, List.cons.injEq, Sum.inl.injEq, and_true]
  omega
def sp_gathering_key (K : PySem.W.Frag) : Sp := fun vs H Q _ => ∃ (h : Addr) (p : Sv62.Packet) (n0 : Nat), vs = [.ref h] ∧ HeadAt K H h (hdOf p n0) ∧ ∀ t H', H t = none → Ex H H' → H' t = some (.tup ((pkP p).map kV)) → Q (.ref t) H'
theorem len_gathering_key {vs : List V} {H : Hp} {Q : VK} {E : XK} (h : sp_gathering_key K vs H Q E) : vs.length = 1 := by
  obtain ⟨h, p, n0, rfl, _⟩ := h
  rfl
theorem sc_gathering_key : FnScope ["head"] ["head"] (defScope s_gathering_key) := ⟨rfl, rfl, rfl, by decide +kernel, rfl, by decide +kernel, by decide +kernel⟩
theorem okF_gathering_key (T : Txt K mg base) {fd : FuncData} (F : FunD K d_gathering_key.name d_gathering_key.qual d_gathering_key.params d_gathering_key.body d_gathering_key.scope [] [] (He.fAd K d_gathering_key.at_) fd) : FnOk P w K mg base CX0 1 (He.ga K "gathering_key") fd ["head"] (sp_gathering_key K) := by
  refine F.ok sc_gathering_key (fun vs H Q E h => len_gathering_key h) (fun cdv Ar outer s H vs Q E hr h => ?_)
  refine ⟨_, PSs.nox (pss_one (ps_ret (pe_tup (pa_cons (pe_fld (pv 0) rfl) (pa_cons (pe_fld (pv 0) rfl) (pa_cons (pe_fld (pv 0) rfl) (pa_cons (pe_fld (pv 0) rfl) pa_nil))))))), ?_⟩
  obtain ⟨hh, p, n0, rfl, hA, q⟩ := h
  exact (eu_tup (ea_cons (fl_sender T rfl hA) (ea_cons (fl_to T rfl hA) (ea_cons (fl_what T rfl hA) (ea_cons (fl_name T rfl hA) ea_nil)))) (by show 4 ≤ 100000; decide)) H (Ex.refl H) _ fun t H' nt e k => q t H' nt e k
theorem ok_gathering_key (T : Txt K mg base) : DefOk P w K mg base 1 (He.ga K "gathering_key") ["head"] (sp_gathering_key K) := by
  obtain ⟨fd, F⟩ := T.fd_gathering_key
  exact ⟨fd, okF_gathering_key T F, F.bindsN fun _ _ _ _ _ _ us hl => match us, hl with | [_], _ => rfl, F.kp⟩
theorem eu_key {σ : L2.St} {H : Hp} {ta : TE} {E : XK} {h : Addr} {p : Sv62.Packet} {n0 : Nat} (he : Ev ta σ H (.ref h)) (hA : HeadAt K H h (hdOf p n0)) : EvU (tCall (sp_gathering_key K) [] E (tCons ta tNil)) σ H ((pkP p).map kV) := fun H1 e1 Q q =>
  call_of ((ea_cons he ea_nil) H1 e1 _ fun H2 e2 => ⟨h, p, n0, rfl, hA.ex (e1.trans e2), fun t H' nt e k => q t H' (fresh_back e2 nt) (e2.trans e) k⟩)
/-! ### two pieces -/
section
variable {σ : L2.St} {H : Hp} {S : List Addr} {v : V} {p : Sv62.Packet} {i : Nat}
theorem PieceV.ex {H' : Hp} (e : Ex H H') (h : PieceV K H S v p) : PieceV K H' S v p := h.keep (.of_ex e) same_sub
theorem fp_start (T : Txt K mg base) (hs : σ[i]? = some (some v)) (x : PieceV K H S v p) : Ev (tFld K (tVar i) "start") σ H (.int ((8 * p.place : Nat) : Int)) := by
  obtain ⟨a, dx, h, b, rfl, _, _, _, o, _⟩ := x
  exact ev_fld (ev_var hs) o T.cl_Piece T.n_Piece_start F_Piece_start
theorem fp_end (T : Txt K mg base) (hs : σ[i]? = some (some v)) (x : PieceV K H S v p) : Ev (tFld K (tVar i) "end") σ H (.int (endOf p : Int)) := by
  obtain ⟨a, dx, h, b, rfl, _, _, _, o, _⟩ := x
  exact ev_fld (ev_var hs) o T.cl_Piece T.n_Piece_end F_Piece_end
theorem fp_last (T : Txt K mg base) (hs : σ[i]? = some (some v)) (x : PieceV K H S v p) : Ev (tFld K (tVar i) "is_last") σ H (.bl (!p.more)) := by
  obtain ⟨a, dx, h, b, rfl, _, _, _, o, _⟩ := x
  exact ev_fld (ev_var hs) o T.cl_Piece T.n_Piece_is_last F_Piece_is_last
theorem fp_body (T : Txt K mg base) (hs : σ[i]? = some (some v)) (x : PieceV K H S v p) : EvS (tFld K (tVar i) "body") σ H (bv p.body) := by
  obtain ⟨a, dx, h, b, rfl, _, _, _, o, _, ob⟩ := x
  exact es_at (ev_fld (ev_var hs) o T.cl_Piece T.n_Piece_body F_Piece_body) ob
end
def sp_two (K : PySem.W.Frag) (B : Sv62.Packet → Sv62.Packet → Bool) : Sp := fun vs H Q _ => ∃ (S S' : List Addr) (v u : V) (p r : Sv62.Packet), vs = [v, u] ∧ PieceV K H S v p ∧ PieceV K H S' u r ∧ RetV (.bl (B p r)) H Q
theorem sp_two_len {B : Sv62.Packet → Sv62.Packet → Bool} {vs : List V} {H : Hp} {Q : VK} {E : XK} (h : sp_two K B vs H Q E) : vs.length = 2 := by
  obtain ⟨S, S', v, u, p, r, rfl, _⟩ := h
  rfl
theorem two_V {B : Sv62.Packet → Sv62.Packet → Bool} {H : Hp} {S S' : List Addr} {v u : V} {p r : Sv62.Packet} (x : PieceV K H S v p) (y : PieceV K H S' u r) : SpV (sp_two K B) [v, u] H (.bl (B p r)) := fun H1 e Q q _ => ⟨S, S', v, u, p, r, rfl, x.ex e, y.ex e, q⟩
abbrev sp_is_same (K : PySem.W.Frag) : Sp := sp_two K sameB
theorem len_is_same {vs : List V} {H : Hp} {Q : VK} {E : XK} (h : sp_is_same K vs H Q E) : vs.length = 2 := sp_two_len h
theorem sc_is_same : FnScope ["piece", "other"] ["piece", "other"] (defScope s_is_same) := ⟨rfl, rfl, rfl, by decide +kernel, rfl, by decide +kernel, by decide +kernel⟩
theorem okF_is_same (T : Txt K mg base) {fd : FuncData} (F : FunD K d_is_same.name d_is_same.qual d_is_same.params d_is_same.body d_is_same.scope [] [] (He.fAd K d_is_same.at_) fd) : FnOk P w K mg base CX0 1 (He.ga K "is_same") fd ["piece", "other"] (sp_is_same K) := by
  refine F.ok sc_is_same (fun vs H Q E h => len_is_same h) (fun cdv Ar outer s H vs Q E hr h => ?_)
  refine ⟨_, PSs.nox (pss_one (ps_ret (pe_and (pe_cmpR op_eq (pe_fld (pv 0) rfl) (pe_fld (pv 1) rfl) (nomark _)) (pe_and (pe_cmpR op_eq (pe_fld (pv 0) rfl) (pe_fld (pv 1) rfl) (nomark _)) (pe_one (pe_cmpR (op_eqD hr.units) (pe_fld (pv 0) rfl) (pe_fld (pv 1) rfl) (nomark _))))))), ?_⟩
  obtain ⟨S, S', v, u, p, r, rfl, x, y, q⟩ := h
  refine ret_ev (ev_is (ev_andV (ev_op (fp_start T rfl x) (fp_start T rfl y) (rv_eq rfl)) fun _ => ev_andV (ev_op (fp_last T rfl x) (fp_last T rfl y) (rv_eq rfl)) fun _ => ev_eqL (K := K) (ns := Sv62Neutral.ofOctets p.body) (ms := Sv62Neutral.ofOctets r.body) (by rw [← bv_off]; exact fp_body T rfl x) (by rw [← bv_off]; exact fp_body T rfl y)) ?_) q
  unfold sameB
  congr 2
  · apply decide_eq_decide.mpr
    rw [V.int.injEq]
    omega
  · congr 1
    · apply decide_eq_decide.mpr
      rw [V.bl.injEq]
    · apply decide_eq_decide.mpr
      exact off_inj
theorem ok_is_same (T : Txt K mg base) : DefOk P w K mg base 1 (He.ga K "is_same") ["piece", "other"] (sp_is_same K) := by
  obtain ⟨fd, F⟩ := T.fd_is_same
  exact ⟨fd, okF_is_same T F, F.bindsN fun _ _ _ _ _ _ us hl => match us, hl with | [_, _], _ => rfl, F.kp⟩
abbrev sp_lies_over (K : PySem.W.Frag) : Sp := sp_two K overB
theorem len_lies_over {vs : List V} {H : Hp} {Q : VK} {E : XK} (h : sp_lies_over K vs H Q E) : vs.length = 2 := sp_two_len h
theorem sc_lies_over : FnScope ["piece", "other"] ["piece", "other"] (defScope s_lies_over) := ⟨rfl, rfl, rfl, by decide +kernel, rfl, by decide +kernel, by decide +kernel⟩
theorem okF_lies_over (T : Txt K mg base) {fd : FuncData} (F : FunD K d_lies_over.name d_lies_over.qual d_lies_over.params d_lies_over.body d_lies_over.scope [] [] (He.fAd K d_lies_over.at_) fd) : FnOk P w K mg base CX0 1 (He.ga K "lies_over") fd ["piece", "other"] (sp_lies_over K) := by
  refine F.ok sc_lies_over (fun vs H Q E h => len_lies_over h) (fun cdv Ar outer s H vs Q E hr h => ?_)
  refine ⟨_, PSs.nox (pss_one (ps_ret (pe_and (pe_cmpR op_lt (pe_fld (pv 0) rfl) (pe_fld (pv 1) rfl) (nomark _)) (pe_one (pe_cmpR op_lt (pe_fld (pv 1) rfl) (pe_fld (pv 0) rfl) (nomark _)))))), ?_⟩
  obtain ⟨S, S', v, u, p, r, rfl, x, y, q⟩ := h
  refine ret_ev (ev_is (ev_andV (ev_op (fp_start T rfl x) (fp_end T rfl y) rv_I0) fun _ => ev_op (fp_start T rfl y) (fp_end T rfl x) rv_I0) ?_) q
  unfold overB
  congr 2 <;> apply decide_eq_decide.mpr <;> omega
theorem ok_lies_over (T : Txt K mg base) : DefOk P w K mg base 1 (He.ga K "lies_over") ["piece", "other"] (sp_lies_over K) := by
  obtain ⟨fd, F⟩ := T.fd_lies_over
  exact ⟨fd, okF_lies_over T F, F.bindsN fun _ _ _ _ _ _ us hl => match us, hl with | [_, _], _ => rfl, F.kp⟩
abbrev sp_is_against_end (K : PySem.W.Frag) : Sp := sp_two K endB
theorem len_is_against_end {vs : List V} {H : Hp} {Q : VK} {E : XK} (h : sp_is_against_end K vs H Q E) : vs.length = 2 := sp_two_len h
theorem sc_is_against_end : FnScope ["piece", "other"] ["piece", "other"] (defScope s_is_against_end) := ⟨rfl, rfl, rfl, by decide +kernel, rfl, by decide +kernel, by decide +kernel⟩
theorem okF_is_against_end (T : Txt K mg base) {fd : FuncData} (F : FunD K d_is_against_end.name d_is_against_end.qual d_is_against_end.params d_is_against_end.body d_is_against_end.scope [] [] (He.fAd K d_is_against_end.at_) fd) : FnOk P w K mg base CX0 1 (He.ga K "is_against_end") fd ["piece", "other"] (sp_is_against_end K) := by
  refine F.ok sc_is_against_end (fun vs H Q E h => len_is_against_end h) (fun cdv Ar outer s H vs Q E hr h => ?_)
  refine ⟨_, PSs.nox (pss_cons (ps_if (PW.pt (pw_and (pt_val (pe_fld (pv 0) rfl)) (pw_and1 (pt_val (pe_fld (pv 1) rfl))))) (pss_one (ps_ret pe_bl)) pss_nil)
      (pss_one (ps_ret (pe_or (pe_and (pe_fld (pv 1) rfl) (pe_one (pe_cmpR op_gt (pe_fld (pv 0) rfl) (pe_fld (pv 1) rfl) (nomark _)))) (pe_one (pe_and (pe_fld (pv 0) rfl) (pe_one (pe_cmpR op_gt (pe_fld (pv 1) rfl) (pe_fld (pv 0) rfl) (nomark _))))))))), ?_⟩
  obtain ⟨S, S', v, u, p, r, rfl, x, y, q⟩ := h
  refine sq_if (b := !p.more && !r.more) (et_and (et_B (fp_last T rfl x)) fun _ => et_B (fp_last T rfl y)) (fun hb H1 e1 => ?_) (fun hb H1 e1 => ?_)
  · refine ret_ev ev_c fun H2 e2 => ?_
    have := q H2 (e1.trans e2)
    unfold endB at this
    rw [if_pos hb] at this
    exact this
  · refine ret_ev (ev_is (ev_orV (ev_andV (fp_last T rfl (y.ex e1)) fun _ => ev_op (fp_end T rfl (x.ex e1)) (fp_end T rfl (y.ex e1)) rv_I0) fun _ => ev_andV (fp_last T rfl (x.ex e1)) fun _ => ev_op (fp_end T rfl (y.ex e1)) (fp_end T rfl (x.ex e1)) rv_I0) ?_) fun H2 e2 => q H2 (e1.trans e2)
    unfold endB
    rw [if_neg (by rw [hb]; decide)]
    congr 2
    · congr 1
      apply decide_eq_decide.mpr
      omega
    · congr 1
      apply decide_eq_decide.mpr
      omega
theorem ok_is_against_end (T : Txt K mg base) : DefOk P w K mg base 1 (He.ga K "is_against_end") ["piece", "other"] (sp_is_against_end K) := by
  obtain ⟨fd, F⟩ := T.fd_is_against_end
  exact ⟨fd, okF_is_against_end T F, F.bindsN fun _ _ _ _ _ _ us hl => match us, hl with | [_, _], _ => rfl, F.kp⟩
/-! ### over all pieces of a gathering -/
/-- a gathering as it stands, of the machine or not -/
structure GObj (K : PySem.W.Frag) (H : Hp) (S : List Addr) (g pl : Addr) (sp : Bool) (ps : List Sv62.Packet) : Prop where
  obj : ∃ dx t, H g = some (.ins (He.ga K "Gathering") dx (F_Gathering t (.bl sp) (.ref pl)))
  pcs : ∃ vs, H pl = some (.lst vs) ∧ Paired (PieceV K H S) vs ps
theorem GObj.ex {H H' : Hp} {S : List Addr} {g pl : Addr} {sp : Bool} {ps : List Sv62.Packet} (x : GObj K H S g pl sp ps) (e : Ex H H') : GObj K H' S g pl sp ps := by
  obtain ⟨⟨dx, t, o⟩, vs, o2, pp⟩ := x
  exact ⟨⟨dx, t, e _ _ o⟩, vs, e _ _ o2, pr_map (fun _ _ z => z.ex e) pp⟩
def sp_all (K : PySem.W.Frag) (B : Sv62.Packet → Sv62.Packet → Bool) : Sp := fun vs H Q _ => ∃ (S S' : List Addr) (g pl : Addr) (sp : Bool) (ps : List Sv62.Packet) (v : V) (p : Sv62.Packet), vs = [.ref g, v] ∧ GObj K H S g pl sp ps ∧ ps.length ≤ 40000 ∧ PieceV K H S' v p ∧ RetV (.bl (ps.any (B p))) H Q
theorem sp_all_len {B : Sv62.Packet → Sv62.Packet → Bool} {vs : List V} {H : Hp} {Q : VK} {E : XK} (h : sp_all K B vs H Q E) : vs.length = 2 := by
  obtain ⟨S, S', g, pl, sp, ps, v, p, rfl, _⟩ := h
  rfl
theorem any_id (ps : List Sv62.Packet) (B : Sv62.Packet → Bool) : ((ps.filter fun _ => true).map fun r => V.bl (B r)) = (ps.map B).map V.bl := by
  rw [List.filter_eq_self.mpr (fun _ _ => rfl), List.map_map]
  rfl
theorem map_any (ps : List Sv62.Packet) (B : Sv62.Packet → Bool) : (ps.map B).any id = ps.any B := by
  rw [List.any_map]
  rfl
abbrev sp_is_there (K : PySem.W.Frag) : Sp := sp_all K sameB
theorem len_is_there {vs : List V} {H : Hp} {Q : VK} {E : XK} (h : sp_is_there K vs H Q E) : vs.length = 2 := sp_all_len h
theorem sc_is_there : FnScope ["gathering", "piece", "other"] ["gathering", "piece"] (defScope s_is_there) := ⟨rfl, rfl, rfl, by decide +kernel, rfl, by decide +kernel, by decide +kernel⟩
theorem okF_is_there (T : Txt K mg base) {fd : FuncData} (F : FunD K d_is_there.name d_is_there.qual d_is_there.params d_is_there.body d_is_there.scope [] [] (He.fAd K d_is_there.at_) fd) : FnOk P w K mg base CX0 2 (He.ga K "is_there") fd ["gathering", "piece"] (sp_is_there K) := by
  obtain ⟨fd_is_same, G_is_same, b_is_same, k_is_same⟩ := ok_is_same (P := P) (w := w) (base := base) T
  refine F.ok sc_is_there (fun vs H Q E h => len_is_there h) (fun cdv Ar outer s H vs Q E hr h => ?_)
  refine ⟨_, PSs.nox (pss_one (ps_ret (pe_callB (cr_any rfl) (by rfl) T.f_any (by decide +kernel) (pa_cons (pe_lc (own := [("other", 2)]) (g := gName 2) (tt := tYes) rfl sc_is_there.nd (pi_list (pe_fld (pv 0) rfl)) (blkOk_by (N := ["gathering", "piece", "other"]) (sc := defScope s_is_there) (own := [("other", 2)]) (by decide +kernel)) (fun _ _ _ _ _ => pg_name (i := 2) sc_is_there.nd rfl (Or.inl rfl)) (fun _ _ _ _ _ => pts_nil) (fun _ _ _ _ _ => (pe_call G_is_same (hr.mono (by decide)) rfl T.g_is_same k_is_same b_is_same .nil pass0 (pa_cons (pv 1) (pa_cons (pv 2) pa_nil))))) pa_nil)))), ?_⟩
  obtain ⟨S, S', g, pl, sp, ps, v, p, rfl, ⟨⟨dx, t, o⟩, vs, o2, pp⟩, hl, x, q⟩ := h
  have z := el_lcM (K := K) (tl := tFld K (tVar 0) "pieces") (te := tCall (sp_is_same K) [] E0 (tCons (tVar 1) (tCons (tVar 2) tNil))) (t := tYes) (σ := [some (.ref g), some v, none]) (j := 2) (vs := [2]) (fun _ => true) (fun r => V.bl (sameB p r)) (ev_fld (ev_var rfl) o T.cl_Gathering T.n_Gathering_pieces F_Gathering_pieces) o2 pp (by rw [pp.length]; exact hl) (fun _ => rfl) (fun _ _ _ _ _ => et_yes) (fun u r H1 e y _ => ev_call (ea_cons (ev_var rfl) (ea_cons (ev_var rfl) ea_nil)) (two_V (x.ex e) (y.ex e)))
  rw [any_id] at z
  exact ret_ev (ev_is (ev_anyS (K := K) (es_el z)) (congrArg V.bl (map_any ps _))) q
theorem ok_is_there (T : Txt K mg base) : DefOk P w K mg base 2 (He.ga K "is_there") ["gathering", "piece"] (sp_is_there K) := by
  obtain ⟨fd, F⟩ := T.fd_is_there
  exact ⟨fd, okF_is_there T F, F.bindsN fun _ _ _ _ _ _ us hl => match us, hl with | [_, _], _ => rfl, F.kp⟩
abbrev sp_is_spoiled_by (K : PySem.W.Frag) : Sp := sp_all K spoilB
theorem len_is_spoiled_by {vs : List V} {H : Hp} {Q : VK} {E : XK} (h : sp_is_spoiled_by K vs H Q E) : vs.length = 2 := sp_all_len h
theorem sc_is_spoiled_by : FnScope ["gathering", "piece", "other"] ["gathering", "piece"] (defScope s_is_spoiled_by) := ⟨rfl, rfl, rfl, by decide +kernel, rfl, by decide +kernel, by decide +kernel⟩
theorem okF_is_spoiled_by (T : Txt K mg base) {fd : FuncData} (F : FunD K d_is_spoiled_by.name d_is_spoiled_by.qual d_is_spoiled_by.params d_is_spoiled_by.body d_is_spoiled_by.scope [] [] (He.fAd K d_is_spoiled_by.at_) fd) : FnOk P w K mg base CX0 2 (He.ga K "is_spoiled_by") fd ["gathering", "piece"] (sp_is_spoiled_by K) := by
  obtain ⟨fd_is_against_end, G_is_against_end, b_is_against_end, k_is_against_end⟩ := ok_is_against_end (P := P) (w := w) (base := base) T
  obtain ⟨fd_lies_over, G_lies_over, b_lies_over, k_lies_over⟩ := ok_lies_over (P := P) (w := w) (base := base) T
  refine F.ok sc_is_spoiled_by (fun vs H Q E h => len_is_spoiled_by h) (fun cdv Ar outer s H vs Q E hr h => ?_)
  refine ⟨_, PSs.nox (pss_one (ps_ret (pe_callB (cr_any rfl) (by rfl) T.f_any (by decide +kernel) (pa_cons (pe_lc (own := [("other", 2)]) (g := gName 2) (tt := tYes) rfl sc_is_spoiled_by.nd (pi_list (pe_fld (pv 0) rfl)) (blkOk_by (N := ["gathering", "piece", "other"]) (sc := defScope s_is_spoiled_by) (own := [("other", 2)]) (by decide +kernel)) (fun _ _ _ _ _ => pg_name (i := 2) sc_is_spoiled_by.nd rfl (Or.inl rfl)) (fun _ _ _ _ _ => pts_nil) (fun _ _ _ _ _ => (pe_or (pe_call G_lies_over (hr.mono (by decide)) rfl T.g_lies_over k_lies_over b_lies_over .nil pass0 (pa_cons (pv 1) (pa_cons (pv 2) pa_nil))) (pe_one (pe_call G_is_against_end (hr.mono (by decide)) rfl T.g_is_against_end k_is_against_end b_is_against_end .nil pass0 (pa_cons (pv 1) (pa_cons (pv 2) pa_nil))))))) pa_nil)))), ?_⟩
  obtain ⟨S, S', g, pl, sp, ps, v, p, rfl, ⟨⟨dx, t, o⟩, vs, o2, pp⟩, hl, x, q⟩ := h
  have z := el_lcM (K := K) (tl := tFld K (tVar 0) "pieces") (te := tOrV (tCall (sp_lies_over K) [] E0 (tCons (tVar 1) (tCons (tVar 2) tNil))) (tCall (sp_is_against_end K) [] E0 (tCons (tVar 1) (tCons (tVar 2) tNil)))) (t := tYes) (σ := [some (.ref g), some v, none]) (j := 2) (vs := [2]) (fun _ => true) (fun r => V.bl (spoilB p r)) (ev_fld (ev_var rfl) o T.cl_Gathering T.n_Gathering_pieces F_Gathering_pieces) o2 pp (by rw [pp.length]; exact hl) (fun _ => rfl) (fun _ _ _ _ _ => et_yes) (fun u r H1 e y _ => ev_orV (ev_call (ea_cons (ev_var rfl) (ea_cons (ev_var rfl) ea_nil)) (two_V (x.ex e) (y.ex e))) fun _ => ev_call (ea_cons (ev_var rfl) (ea_cons (ev_var rfl) ea_nil)) (two_V (x.ex e) (y.ex e)))
  rw [any_id] at z
  exact ret_ev (ev_is (ev_anyS (K := K) (es_el z)) (congrArg V.bl (map_any ps _))) q
theorem ok_is_spoiled_by (T : Txt K mg base) : DefOk P w K mg base 2 (He.ga K "is_spoiled_by") ["gathering", "piece"] (sp_is_spoiled_by K) := by
  obtain ⟨fd, F⟩ := T.fd_is_spoiled_by
  exact ⟨fd, okF_is_spoiled_by T F, F.bindsN fun _ _ _ _ _ _ us hl => match us, hl with | [_, _], _ => rfl, F.kp⟩
def sp_is_all_there (K : PySem.W.Frag) : Sp := fun vs H Q _ => ∃ (S : List Addr) (g pl : Addr) (sp : Bool) (ps : List Sv62.Packet), vs = [.ref g] ∧ GObj K H S g pl sp ps ∧ ps.length ≤ 40000 ∧ RetV (.bl (decide ((ps.filter fun p => !p.more).map endOf = [(ps.map fun p => p.body.length).sum]))) H Q
theorem len_is_all_there {vs : List V} {H : Hp} {Q : VK} {E : XK} (h : sp_is_all_there K vs H Q E) : vs.length = 1 := by
  obtain ⟨S, g, pl, sp, ps, rfl, _⟩ := h
  rfl
theorem nats_ints (l : List Nat) : (l.map fun (x : Nat) => (x : Int)).sum = ((l.sum : Nat) : Int) := by
  induction l with
  | nil => rfl
  | cons a r ih =>
    rw [List.map_cons, List.sum_cons, List.sum_cons, ih]
    omega
theorem cast_lists {a b : List Nat} : (a.map fun (x : Nat) => (x : Int)) = (b.map fun (x : Nat) => (x : Int)) ↔ a = b := by
  constructor
  · intro h
    have := congrArg (fun l => l.map Int.toNat) h
    simpa [List.map_map, Function.comp_def] using this
  · intro h
    rw [h]
theorem sc_is_all_there : FnScope ["gathering", "ends", "piece"] ["gathering"] (defScope s_is_all_there) := ⟨rfl, rfl, rfl, by decide +kernel, rfl, by decide +kernel, by decide +kernel⟩
theorem okF_is_all_there (T : Txt K mg base) {fd : FuncData} (F : FunD K d_is_all_there.name d_is_all_there.qual d_is_all_there.params d_is_all_there.body d_is_all_there.scope [] [] (He.fAd K d_is_all_there.at_) fd) : FnOk P w K mg base CX0 1 (He.ga K "is_all_there") fd ["gathering"] (sp_is_all_there K) := by
  refine F.ok sc_is_all_there (fun vs H Q E h => len_is_all_there h) (fun cdv Ar outer s H vs Q E hr h => ?_)
  refine ⟨_, PSs.nox (pss_cons (ps_setLc (i := 1) (own := [("piece", 2)]) (g := gName 2) (tt := tB (tFld K (tVar 2) "is_last")) (te := (tFld K (tVar 2) "end")) rfl sc_is_all_there.nd rfl rfl (sw_true rfl rfl rfl (by decide +kernel)) (pi_list (pe_fld (pv 0) rfl)) (blkOk_by (N := ["gathering", "ends", "piece"]) (sc := defScope s_is_all_there) (own := [("piece", 2)]) (by decide +kernel)) (fun _ _ _ _ _ => pg_name (i := 2) sc_is_all_there.nd rfl (Or.inl rfl)) (fun _ _ _ _ _ => (pts_one (pt_val (pe_fld (pv 2) rfl)))) (fun _ _ _ _ _ => (pe_fld (pv 2) rfl)))
      (pss_one (ps_ret (pe_cmpR (op_eqD hr.units) (pv 1) (pe_lst (pa_cons (pe_callB (cr_sum rfl) (by rfl) T.f_sum (by decide +kernel) (pa_cons (pe_lc (own := [("piece", 2)]) (g := gName 2) (tt := tYes) (te := (tCB (rLenS K) (tCons (tFld K (tVar 2) "body") tNil))) rfl sc_is_all_there.nd (pi_list (pe_fld (pv 0) rfl)) (blkOk_by (N := ["gathering", "ends", "piece"]) (sc := defScope s_is_all_there) (own := [("piece", 2)]) (by decide +kernel)) (fun _ _ _ _ _ => pg_name (i := 2) sc_is_all_there.nd rfl (Or.inl rfl)) (fun _ _ _ _ _ => pts_nil) (fun _ _ _ _ _ => (pe_callB call_len_seq (by rfl) T.f_len PySem.boot_len (pa_cons (pe_fld (pv 2) rfl) pa_nil)))) pa_nil)) pa_nil)) (nomark _))))), ?_⟩
  obtain ⟨S, g, pl, sp, ps, rfl, ⟨⟨dx, t, o⟩, vs, o2, pp⟩, hl, q⟩ := h
  have hvl : vs.length ≤ 40000 := by
    rw [pp.length]
    exact hl
  have z1 := el_lcM (K := K) (tl := tFld K (tVar 0) "pieces") (te := tFld K (tVar 2) "end") (t := tB (tFld K (tVar 2) "is_last")) (σ := [some (.ref g), none, none]) (j := 2) (vs := [2]) (fun r => !r.more) (fun r => V.int (endOf r : Int)) (ev_fld (ev_var rfl) o T.cl_Gathering T.n_Gathering_pieces F_Gathering_pieces) o2 pp hvl (fun _ => rfl) (fun u r H1 e y => et_B (fp_last T rfl (y.ex e))) (fun u r H1 e y _ => fp_end T rfl (y.ex e))
  refine sq_setEL z1 fun en H1 ne e1 k1 => ?_
  have z2 := el_lcM (K := K) (tl := tFld K (tVar 0) "pieces") (te := tCB (rLenS K) (tCons (tFld K (tVar 2) "body") tNil)) (t := tYes) (σ := [some (.ref g), some (.ref en), none]) (j := 2) (vs := [2]) (fun _ => true) (fun r => V.int (r.body.length : Int)) (ev_fld (ev_var rfl) (e1 _ _ o) T.cl_Gathering T.n_Gathering_pieces F_Gathering_pieces) (e1 _ _ o2) (pr_map (fun _ _ z => z.ex e1) pp) hvl (fun _ => rfl) (fun _ _ _ _ _ => et_yes) (fun u r H2 e y _ => ev_is (ev_lenS (K := K) (fp_body T rfl (y.ex e))) (by rw [bv_len]))
  have e2 : ((ps.filter fun _ => true).map fun r => V.int (r.body.length : Int)) = (((ps.map fun p => p.body.length).map fun (x : Nat) => (x : Int))).map V.int := by
    rw [List.filter_eq_self.mpr (fun _ _ => rfl), List.map_map, List.map_map]
    rfl
  have e3 : ((ps.filter fun p => !p.more).map fun r => V.int (endOf r : Int)) = ((((ps.filter fun p => !p.more).map endOf).map fun (x : Nat) => (x : Int))).map V.int := by
    rw [List.map_map, List.map_map]
    rfl
  rw [e2] at z2
  rw [e3] at k1
  have sm := ev_sumS (K := K) (es_el z2)
  rw [nats_ints] at sm
  refine ret_ev (ev_is (ev_eqL (K := K) (ms := [(((ps.map fun (p : Sv62.Packet) => p.body.length).sum : Nat) : Int)]) (es_at (ev_var rfl) k1) (es_el (el_lst (ea_cons sm ea_nil) (by show 1 ≤ 100000; decide)))) ?_) fun H2 e2 => q H2 (e1.trans e2)
  congr 1
  apply decide_eq_decide.mpr
  exact cast_lists (b := [(ps.map fun (p : Sv62.Packet) => p.body.length).sum])
theorem ok_is_all_there (T : Txt K mg base) : DefOk P w K mg base 1 (He.ga K "is_all_there") ["gathering"] (sp_is_all_there K) := by
  obtain ⟨fd, F⟩ := T.fd_is_all_there
  exact ⟨fd, okF_is_all_there T F, F.bindsN fun _ _ _ _ _ _ us hl => match us, hl with | [_], _ => rfl, F.kp⟩
def sp_first_piece (K : PySem.W.Frag) : Sp := fun vs H Q _ => ∃ (S : List Addr) (g pl : Addr) (sp : Bool) (ps : List Sv62.Packet), vs = [.ref g] ∧ GObj K H S g pl sp ps ∧
  (ps.find? (fun p => p.place == 0) = none → RetV .non H Q) ∧ ∀ p, ps.find? (fun p => p.place == 0) = some p → ∀ v H', Ex H H' → PieceV K H' S v p → Q v H'
theorem len_first_piece {vs : List V} {H : Hp} {Q : VK} {E : XK} (h : sp_first_piece K vs H Q E) : vs.length = 1 := by
  obtain ⟨S, g, pl, sp, ps, rfl, _⟩ := h
  rfl
theorem sc_first_piece : FnScope ["gathering", "piece"] ["gathering"] (defScope s_first_piece) := ⟨rfl, rfl, rfl, by decide +kernel, rfl, by decide +kernel, by decide +kernel⟩
theorem okF_first_piece (T : Txt K mg base) {fd : FuncData} (F : FunD K d_first_piece.name d_first_piece.qual d_first_piece.params d_first_piece.body d_first_piece.scope [] [] (He.fAd K d_first_piece.at_) fd) : FnOk P w K mg base CX0 1 (He.ga K "first_piece") fd ["gathering"] (sp_first_piece K) := by
  refine F.ok sc_first_piece (fun vs H Q E h => len_first_piece h) (fun cdv Ar outer s H vs Q E hr h => ?_)
  refine ⟨_, PSs.nox (pss_cons (ps_for PassesOwn.never rfl (pi_list (pe_fld (pv 0) rfl)) (pg_name (i := 1) sc_first_piece.nd rfl (Or.inl rfl)) (pss_one (ps_if (pt_cmpR op_eq (pe_fld (pv 1) rfl) pe_int (nomark _)) (pss_one (ps_ret (pv 1))) pss_nil)))
      (pss_one (ps_ret pe_non))), ?_⟩
  obtain ⟨S, g, pl, sp, ps, rfl, ⟨⟨dx, t, o⟩, vs, o2, pp⟩, qn, qs⟩ := h
  refine q_forL (K := K) (ev_fld (ev_var rfl) o T.cl_Gathering T.n_Gathering_pieces F_Gathering_pieces) (sq_of o2) (fun i σ H' => ∃ v1 : Option V, σ = [some (.ref g), v1] ∧ Ex H H' ∧ (ps.take i).find? (fun p => p.place == 0) = none) (fun H1 e1 => ⟨none, rfl, e1, by simp⟩) (fun i σ H' _ z => ?_) (fun i u σ H' hu z => ?_) (fun σ H' z => ?_)
  · obtain ⟨_, _, e, _⟩ := z
    exact sq_of (e _ _ o2)
  · obtain ⟨v1, rfl, e1, hn⟩ := z
    obtain ⟨r, hr, y⟩ := pr_get2 pp hu
    have y1 := y.ex e1
    have hi : i < ps.length := (List.getElem?_eq_some_iff.mp hr).1
    have tk : ps.take (i + 1) = ps.take i ++ [r] := by
      rw [List.take_add_one, hr]
      rfl
    refine if_ev (b := (r.place == 0)) ?_ (fun hb H2 e2 => ?_) (fun hb H2 e2 => ?_)
    · refine et_is (et_test (ev_op (fp_start T (i := 1) rfl y1) ev_c (rv_eq rfl))) ?_
      rw [Bool.eq_iff_iff, beq_iff_eq, decide_eq_true_eq, V.int.injEq]
      omega
    · refine ret_ev (ev_var rfl) fun H3 e3 => ?_
      refine qs r ?_ u H3 ((e1.trans e2).trans e3) (y1.ex (e2.trans e3))
      rw [← List.take_append_drop (i + 1) ps, tk, List.find?_append, List.find?_append, hn, List.find?_cons_of_pos (by exact hb)]
      rfl
    · refine ⟨_, rfl, e1.trans e2, ?_⟩
      rw [tk, List.find?_append, hn, List.find?_cons_of_neg (by rw [hb]; decide)]
      rfl
  · obtain ⟨v1, rfl, e1, hn⟩ := z
    rw [pp.length, List.take_of_length_le (Nat.le_refl _)] at hn
    exact ret_ev ev_c fun H2 e2 => qn hn H2 (e1.trans e2)
theorem ok_first_piece (T : Txt K mg base) : DefOk P w K mg base 1 (He.ga K "first_piece") ["gathering"] (sp_first_piece K) := by
  obtain ⟨fd, F⟩ := T.fd_first_piece
  exact ⟨fd, okF_first_piece T F, F.bindsN fun _ _ _ _ _ _ us hl => match us, hl with | [_], _ => rfl, F.kp⟩
end
end Lp
set_option maxHeartbeats 400000000
namespace Lp
open PySem PySem.Spec PyProof.Rows L2 Evl
/-! ### one of the gatherings, by its place -/
theorem of_other {xs : List Sv62.Part} {x y : Sv62.Part} {p : Sv62.Packet} (nd : ((x :: xs).map pkey).Nodup) (hx : x.of p = true) (hy : y ∈ xs) : y.of p = false := by
  cases h : y.of p with
  | false => rfl
  | true =>
    exfalso
    rw [List.map_cons, List.nodup_cons] at nd
    exact nd.1 (List.mem_map.mpr ⟨y, hy, (of_iff.mp h).trans (of_iff.mp hx).symm⟩)
theorem at_find {p : Sv62.Packet} : ∀ {xs : List Sv62.Part} {i : Nat} {x : Sv62.Part}, (xs.map pkey).Nodup → xs[i]? = some x → x.of p = true → xs.find? (fun y => y.of p) = some x
  | [], i, x, _, h, _ => nomatch h
  | y :: r, 0, x, nd, h, hx => by
    obtain rfl : y = x := Option.some.inj h
    rw [List.find?_cons_of_pos (by exact hx)]
  | y :: r, i + 1, x, nd, h, hx => by
    have hm : x ∈ r := List.mem_of_getElem? (i := i) h
    have hy : y.of p = false := by
      cases q : y.of p with
      | false => rfl
      | true => rw [of_other nd q hm] at hx; cases hx
    rw [List.find?_cons_of_neg (by rw [hy]; decide)]
    exact at_find (List.nodup_cons.mp nd).2 (i := i) h hx
theorem at_set {p : Sv62.Packet} {x' : Sv62.Part} : ∀ {xs : List Sv62.Part} {i : Nat} {x : Sv62.Part}, (xs.map pkey).Nodup → xs[i]? = some x → x.of p = true → (xs.map fun y => if y.of p = true then x' else y) = xs.set i x'
  | [], i, x, _, h, _ => nomatch h
  | y :: r, 0, x, nd, h, hx => by
    obtain rfl : y = x := Option.some.inj h
    rw [List.map_cons, if_pos hx, List.set_cons_zero]
    congr 1
    conv => rhs; rw [← List.map_id r]
    apply List.map_congr_left
    intro z hz
    rw [of_other nd hx hz, if_neg Bool.false_ne_true]
    rfl
  | y :: r, i + 1, x, nd, h, hx => by
    have hm : x ∈ r := List.mem_of_getElem? (i := i) h
    have hy : y.of p = false := by
      cases q : y.of p with
      | false => rfl
      | true => rw [of_other nd q hm] at hx; cases hx
    rw [List.map_cons, hy, if_neg Bool.false_ne_true, List.set_cons_succ, at_set (List.nodup_cons.mp nd).2 (i := i) h hx]
theorem at_erase {p : Sv62.Packet} : ∀ {xs : List Sv62.Part} {i : Nat} {x : Sv62.Part}, (xs.map pkey).Nodup → xs[i]? = some x → x.of p = true → (xs.filter fun y => !y.of p) = xs.eraseIdx i
  | [], i, x, _, h, _ => nomatch h
  | y :: r, 0, x, nd, h, hx => by
    obtain rfl : y = x := Option.some.inj h
    rw [List.filter_cons_of_neg (by rw [hx]; decide), List.eraseIdx_cons_zero, List.filter_eq_self]
    intro z hz
    rw [of_other nd hx hz]
    rfl
  | y :: r, i + 1, x, nd, h, hx => by
    have hm : x ∈ r := List.mem_of_getElem? (i := i) h
    have hy : y.of p = false := by
      cases q : y.of p with
      | false => rfl
      | true => rw [of_other nd q hm] at hx; cases hx
    rw [List.filter_cons_of_pos (by rw [hy]; rfl), List.eraseIdx_cons_succ, at_erase (List.nodup_cons.mp nd).2 (i := i) h hx]
theorem dOf_val : ∀ {gs : List (Addr × Addr)} {xs : List Sv62.Part} {i : Nat} {x : Sv62.Part} {g : Addr × Addr}, (xs.map pkey).Nodup → xs[i]? = some x → gs[i]? = some g → valV (dOf gs xs) (pkey x) = some (.ref g.1)
  | [], _, i, x, g, _, _, h => nomatch h
  | _ :: _, [], i, x, g, _, h, _ => nomatch h
  | a :: gs, y :: r, 0, x, g, nd, h, hg => by
    obtain rfl : y = x := Option.some.inj h
    obtain rfl : a = g := Option.some.inj hg
    exact valV_pos rfl
  | a :: gs, y :: r, i + 1, x, g, nd, h, hg => by
    have hm : x ∈ r := List.mem_of_getElem? (i := i) h
    have e : ¬ (pkey y, V.ref a.1).1 = pkey x := fun z => (List.nodup_cons.mp nd).1 (List.mem_map.mpr ⟨x, hm, z.symm⟩)
    show valV ((pkey y, V.ref a.1) :: dOf gs r) (pkey x) = _
    rw [valV_neg e]
    exact dOf_val (List.nodup_cons.mp nd).2 (i := i) h hg
theorem dOf_keys : ∀ {gs : List (Addr × Addr)} {xs : List Sv62.Part}, gs.length = xs.length → (dOf gs xs).map (·.1) = xs.map pkey
  | [], [], _ => rfl
  | [], _ :: _, h => nomatch h
  | _ :: _, [], h => nomatch h
  | a :: gs, y :: r, h => by
    show pkey y :: (dOf gs r).map (·.1) = pkey y :: r.map pkey
    rw [dOf_keys (Nat.succ.inj h)]
theorem dOf_none {gs : List (Addr × Addr)} {xs : List Sv62.Part} {p : Sv62.Packet} (hl : gs.length = xs.length) (h : ∀ x ∈ xs, x.of p = false) : valV (dOf gs xs) (pkP p) = none := by
  cases e : valV (dOf gs xs) (pkP p) with
  | none => rfl
  | some v =>
    have := valV_in e
    rw [dOf_keys hl] at this
    obtain ⟨x, hx, hk⟩ := List.mem_map.mp this
    have := of_iff.mpr hk
    rw [h x hx] at this
    cases this
theorem dOf_drop : ∀ {gs : List (Addr × Addr)} {xs : List Sv62.Part} {i : Nat} {x : Sv62.Part}, gs.length = xs.length → (xs.map pkey).Nodup → xs[i]? = some x → dropK (dOf gs xs) (pkey x) = dOf (gs.eraseIdx i) (xs.eraseIdx i)
  | [], [], i, x, _, _, h => nomatch h
  | [], _ :: _, _, _, h, _, _ => nomatch h
  | _ :: _, [], _, _, h, _, _ => nomatch h
  | a :: gs, y :: r, 0, x, hl, nd, h => by
    obtain rfl : y = x := Option.some.inj h
    show dropK ((pkey y, V.ref a.1) :: dOf gs r) (pkey y) = dOf gs r
    rw [dropK_pos rfl, dropK_no]
    rw [dOf_keys (Nat.succ.inj hl)]
    exact (List.nodup_cons.mp nd).1
  | a :: gs, y :: r, i + 1, x, hl, nd, h => by
    have hm : x ∈ r := List.mem_of_getElem? (i := i) h
    have e : ¬ (pkey y, V.ref a.1).1 = pkey x := fun z => (List.nodup_cons.mp nd).1 (List.mem_map.mpr ⟨x, hm, z.symm⟩)
    show dropK ((pkey y, V.ref a.1) :: dOf gs r) (pkey x) = (pkey y, V.ref a.1) :: dOf (gs.eraseIdx i) (r.eraseIdx i)
    rw [dropK_neg e, dOf_drop (Nat.succ.inj hl) (List.nodup_cons.mp nd).2 (i := i) h]
theorem dOf_snoc : ∀ {gs : List (Addr × Addr)} {xs : List Sv62.Part} {g : Addr × Addr} {x : Sv62.Part}, gs.length = xs.length → dOf (gs ++ [g]) (xs ++ [x]) = dOf gs xs ++ [(pkey x, .ref g.1)]
  | [], [], g, x, _ => rfl
  | [], _ :: _, _, _, h => nomatch h
  | _ :: _, [], _, _, h => nomatch h
  | a :: gs, y :: r, g, x, h => by
    show (pkey y, V.ref a.1) :: dOf (gs ++ [g]) (r ++ [x]) = _
    rw [dOf_snoc (Nat.succ.inj h)]
    rfl
theorem dOf_set : ∀ {gs : List (Addr × Addr)} {xs : List Sv62.Part} {i : Nat} {g g' : Addr × Addr} {x x' : Sv62.Part}, gs[i]? = some g → xs[i]? = some x → g'.1 = g.1 → pkey x' = pkey x → dOf (gs.set i g') (xs.set i x') = dOf gs xs
  | [], _, i, g, g', x, x', h, _, _, _ => nomatch h
  | _ :: _, [], i, g, g', x, x', _, h, _, _ => nomatch h
  | a :: gs, y :: r, 0, g, g', x, x', hg, h, e1, e2 => by
    obtain rfl : y = x := Option.some.inj h
    obtain rfl : a = g := Option.some.inj hg
    show (pkey x', V.ref g'.1) :: dOf gs r = (pkey y, V.ref a.1) :: dOf gs r
    rw [e1, e2]
  | a :: gs, y :: r, i + 1, g, g', x, x', hg, h, e1, e2 => by
    show (pkey y, V.ref a.1) :: dOf (gs.set i g') (r.set i x') = (pkey y, V.ref a.1) :: dOf gs r
    rw [dOf_set (i := i) hg h e1 e2]
theorem pr_erase {A B : Type} {F : A → B → Prop} : ∀ {xs : List A} {ys : List B}, Paired F xs ys → ∀ i : Nat, Paired F (xs.eraseIdx i) (ys.eraseIdx i)
  | _, _, .nil, _ => .nil
  | _, _, .cons h1 h2, 0 => h2
  | _, _, .cons h1 h2, i + 1 => .cons h1 (pr_erase h2 i)
theorem pr_snoc {A B : Type} {F : A → B → Prop} {a : A} {b : B} (h : F a b) : ∀ {xs : List A} {ys : List B}, Paired F xs ys → Paired F (xs ++ [a]) (ys ++ [b])
  | _, _, .nil => .cons h .nil
  | _, _, .cons h1 h2 => .cons h1 (pr_snoc h h2)
theorem pr_mem {A B : Type} {F G : A → B → Prop} : ∀ {xs : List A} {ys : List B}, (∀ a ∈ xs, ∀ b, F a b → G a b) → Paired F xs ys → Paired G xs ys
  | _, _, _, .nil => .nil
  | _, _, h, .cons g1 g2 => .cons (h _ List.mem_cons_self _ g1) (pr_mem (fun a ha => h a (List.mem_cons_of_mem _ ha)) g2)
/-- all but those at one place -/
theorem pr_setMap {A B : Type} {F G : A → B → Prop} {x : A} {y : B} (h : G x y) : ∀ {xs : List A} {ys : List B} {j : Nat}, Paired F xs ys → (∀ k a b, k ≠ j → xs[k]? = some a → F a b → G a b) → j < xs.length → Paired G (xs.set j x) (ys.set j y)
  | _, _, _, .nil, _, hj => absurd hj (Nat.not_lt_zero _)
  | _, _, 0, .cons h1 h2, hk, _ => by
    refine .cons h (pr_mem (fun a ha b hf => ?_) h2)
    obtain ⟨k, hk1, hk2⟩ := List.getElem_of_mem ha
    exact hk (k + 1) a b (by omega) (by rw [List.getElem?_cons_succ, List.getElem?_eq_getElem hk1, hk2]) hf
  | _, _, j + 1, .cons h1 h2, hk, hj => .cons (hk 0 _ _ (by omega) rfl h1) (pr_setMap h h2 (fun k a b hne ha hf => hk (k + 1) a b (by omega) ha hf) (by simpa using hj))
theorem nodup_set {α : Type} {x : α} : ∀ {l : List α} {i : Nat}, l.Nodup → x ∉ l → (l.set i x).Nodup
  | [], _, h, _ => h
  | a :: r, 0, h, hx => by
    rw [List.set_cons_zero, List.nodup_cons]
    exact ⟨fun z => hx (List.mem_cons_of_mem _ z), (List.nodup_cons.mp h).2⟩
  | a :: r, i + 1, h, hx => by
    rw [List.set_cons_succ, List.nodup_cons]
    refine ⟨fun z => ?_, nodup_set (List.nodup_cons.mp h).2 fun z => hx (List.mem_cons_of_mem _ z)⟩
    rcases List.mem_or_eq_of_mem_set z with z | z
    · exact (List.nodup_cons.mp h).1 z
    · exact hx (by rw [z]; exact List.mem_cons_self)
/-! ### the machine, its gatherings changed -/
section
variable {K : PySem.W.Frag} {H H' : Hp} {m : Addr} {n : Sv62.Net} {f : Foot}
theorem mem_one {f : Foot} {m : Addr} {g : Addr × Addr} (h : g ∈ f.gs) : g.1 ∈ f.all m := by
  simp only [Foot.all, List.mem_cons, List.mem_append]
  exact .inr (.inr (.inr (.inr (.inr (.inr (.inl (List.mem_map.mpr ⟨g, h, rfl⟩)))))))
theorem mem_two {f : Foot} {m : Addr} {g : Addr × Addr} (h : g ∈ f.gs) : g.2 ∈ f.all m := by
  simp only [Foot.all, List.mem_cons, List.mem_append]
  exact .inr (.inr (.inr (.inr (.inr (.inr (.inr (.inl (List.mem_map.mpr ⟨g, h, rfl⟩))))))))
theorem MachAt.putGa (M : MachAt K H m n f) {gs : List (Addr × Addr)} {xs : List Sv62.Part} (hs : ∀ b o, H b = some o → b ≠ f.ga → (∀ g ∈ f.gs, b ≠ g.1 ∧ b ≠ g.2) → H' b = some o) (nd : (({ f with gs := gs } : Foot).all m).Nodup) (sub : ∀ g ∈ gs, (g.1 ∈ f.all m ∨ New H g.1) ∧ (g.2 ∈ f.all m ∨ New H g.2))
    (ga : H' f.ga = some (.dT (dOf gs xs))) (gt : Paired (GathAt K H' (({ f with gs := gs } : Foot).all m)) gs xs) (few : xs.length ≤ 64) (kd : (xs.map pkey).Nodup) : Moved K H m f { n with parts := xs } H' { f with gs := gs } := by
  have N := footNe M.nd
  have k : Keep H H' (f.all m) := fun b o hb hn t => hs b o hb (fun z => hn (by rw [z]; simp [Foot.all])) fun g hg => ⟨fun z => hn (by rw [z]; exact mem_one hg), fun z => hn (by rw [z]; exact mem_two hg)⟩
  have sub2 : ∀ b ∈ ({ f with gs := gs } : Foot).all m, b ∈ f.all m ∨ New H b := by
    intro b hb
    simp only [Foot.all, List.mem_cons, List.mem_append, List.mem_map] at hb
    rcases hb with rfl | rfl | rfl | rfl | rfl | rfl | ⟨g, hg, rfl⟩ | ⟨g, hg, rfl⟩ | hav
    · exact .inl (by simp [Foot.all])
    · exact .inl (by simp [Foot.all])
    · exact .inl (by simp [Foot.all])
    · exact .inl (by simp [Foot.all])
    · exact .inl (by simp [Foot.all])
    · exact .inl (by simp [Foot.all])
    · exact (sub g hg).1
    · exact (sub g hg).2
    · exact .inl (by simp [Foot.all, hav])
  obtain ⟨dm, om⟩ := M.obj
  obtain ⟨us, ol, pl⟩ := M.lks
  obtain ⟨kvs, h5, h6⟩ := M.wys
  obtain ⟨a, b, c, h9, h10⟩ := M.tks
  obtain ⟨ps, t1, t2, t3⟩ := M.tab
  have ak : ∀ x ∈ f.av, ∀ o, H x = some o → ntb o = true → H' x = some o := fun x hx o h _ => hs x o h (N.av x hx).2.2.2.1.symm fun g hg => ⟨(N.avg x hx g hg).1.symm, (N.avg x hx g hg).2.symm⟩
  refine ⟨⟨nd, ⟨dm, hs _ _ om N.m_ga fun g hg => ⟨(N.one g hg).1, (N.two g hg).1⟩⟩, ⟨us, hs _ _ ol N.lk_ga fun g hg => ⟨(N.one g hg).2.1, (N.two g hg).2.1⟩, pr_map (fun _ _ z => z.keep k sub2) pl⟩, ⟨kvs, hs _ _ h5 N.wy_ga fun g hg => ⟨(N.one g hg).2.2.1, (N.two g hg).2.2.1⟩, pr_map (fun _ _ z => ⟨z.1, z.2.keep k sub2⟩) h6⟩, ga, gt, ⟨a, b, c, hs _ _ h9 N.ga_tk.symm fun g hg => ⟨(N.one g hg).2.2.2.2.1, (N.two g hg).2.2.2.2.1⟩, h10⟩, M.tbe, ⟨ps, hs _ _ t1 N.ga_tb.symm fun g hg => ⟨(N.one g hg).2.2.2.2.2, (N.two g hg).2.2.2.2.2⟩, t2, fun pos cv hc => ?_⟩, ⟨M.good.len, M.good.lok, M.good.wok, M.good.wnd, M.good.wfew⟩, ⟨few, kd, M.gp.name⟩, avs_go M.avs ak⟩, sub2, k, rfl, ak⟩
  obtain ⟨c, e1, e2⟩ := t3 pos cv hc
  refine ⟨c, e1, hs _ _ e2 (fun z => ?_) fun g hg => ⟨fun z => ?_, fun z => ?_⟩⟩
  · rw [z, M.gas] at e2
    exact codeO_dT (Option.some.inj e2)
  · obtain ⟨x, _, dx, vs, qs, o1, o2, _⟩ := paired_in M.gat g hg
    rw [z, o1] at e2
    exact codeO_ins (Option.some.inj e2)
  · obtain ⟨x, _, dx, vs, qs, o1, o2, _⟩ := paired_in M.gat g hg
    rw [z, o2] at e2
    exact codeO_lst (Option.some.inj e2)
theorem all_sub {f : Foot} {m : Addr} {gs : List (Addr × Addr)} (h : gs.Sublist f.gs) : (({ f with gs := gs } : Foot).all m).Sublist (f.all m) := by
  unfold Foot.all
  repeat' apply List.Sublist.cons_cons
  exact (h.map _).append ((h.map _).append (List.Sublist.refl _))
theorem MachAt.keepG (M : MachAt K H m n f) (k : Keep H H' (f.all m)) {S' : List Addr} (hs : ∀ b ∈ S', b ∈ f.all m ∨ New H b) {g : Addr × Addr} {x : Sv62.Part} (hg : GathAt K H (f.all m) g x) (k1 : ∀ o, H g.1 = some o → H' g.1 = some o) (k2 : ∀ o, H g.2 = some o → H' g.2 = some o) : GathAt K H' S' g x := hg.keep k hs (fun o h _ => k1 o h) (fun o h _ => k2 o h)
/-- one is dropped -/
theorem MachAt.dropGa (M : MachAt K H m n f) (i : Nat) : Moved K H m f { n with parts := n.parts.eraseIdx i } (upd H f.ga (.dT (dOf (f.gs.eraseIdx i) (n.parts.eraseIdx i)))) { f with gs := f.gs.eraseIdx i } := by
  have N := footNe M.nd
  have sl := all_sub (m := m) (List.eraseIdx_sublist f.gs i)
  have k : Keep H (upd H f.ga (.dT (dOf (f.gs.eraseIdx i) (n.parts.eraseIdx i)))) (f.all m) := Keep.upd (by simp [Foot.all])
  refine M.putGa (fun b o hb hn _ => by rw [upd_ne hn]; exact hb) (M.nd.sublist sl) (fun g hg => ?_) upd_same ?_ (Nat.le_trans (List.Sublist.length_le (List.eraseIdx_sublist _ _)) M.gp.few) (M.gp.nd.sublist ((List.eraseIdx_sublist _ _).map _))
  · have := List.mem_of_mem_eraseIdx hg
    exact ⟨.inl (mem_one this), .inl (mem_two this)⟩
  · refine pr_erase ?_ i
    have gat : ∀ {gs : List (Addr × Addr)} {xs : List Sv62.Part}, (∀ g ∈ gs, g ∈ f.gs) → Paired (GathAt K H (f.all m)) gs xs → Paired (GathAt K (upd H f.ga (.dT (dOf (f.gs.eraseIdx i) (n.parts.eraseIdx i)))) (({ f with gs := f.gs.eraseIdx i } : Foot).all m)) gs xs := by
      intro gs xs hg hp
      induction hp with
      | nil => exact .nil
      | @cons g x l1 l2 h1 h2 ih =>
        have hg1 := hg g List.mem_cons_self
        exact .cons (M.keepG k (fun b hb => .inl (sl.subset hb)) h1 (fun o q => by rw [upd_ne (N.one g hg1).2.2.2.1.symm]; exact q) (fun o q => by rw [upd_ne (N.two g hg1).2.2.2.1.symm]; exact q)) (ih fun g' h' => hg g' (List.mem_cons_of_mem _ h'))
    exact gat (fun _ h => h) M.gat
/-- a new one -/
theorem MachAt.addGa {H1 : Hp} (M : MachAt K H m n f) (e : Ex H H1) {a pl dx : Addr} {x : Sv62.Part} (na : H a = none) (np : H pl = none) (ne : a ≠ pl) (oa : H1 a = some (.ins (He.ga K "Gathering") dx (F_Gathering (.int x.since) (.bl x.spoiled) (.ref pl)))) (op : H1 pl = some (.lst [])) (hx : PartIs x []) (few : n.parts.length < 64) (kd : pkey x ∉ n.parts.map pkey) :
    Moved K H m f { n with parts := n.parts ++ [x] } (upd H1 f.ga (.dT (dOf f.gs n.parts ++ [(pkey x, .ref a)]))) { f with gs := f.gs ++ [(a, pl)] } := by
  have N := footNe M.nd
  have ga0 := M.gas
  have aga : a ≠ f.ga := fun z => by rw [← z, na] at ga0; cases ga0
  have pga : pl ≠ f.ga := fun z => by rw [← z, np] at ga0; cases ga0
  have hl : f.gs.length = n.parts.length := M.gat.length
  have k : Keep H (upd H1 f.ga (.dT (dOf f.gs n.parts ++ [(pkey x, .ref a)]))) (f.all m) := (Keep.of_ex e).trans (Keep.upd (by simp [Foot.all]))
  have hsub : ∀ b ∈ ({ f with gs := f.gs ++ [(a, pl)] } : Foot).all m, b ∈ f.all m ∨ New H b := by
    intro b hb
    simp only [Foot.all, List.map_append, List.mem_cons, List.mem_append, List.map_cons, List.map_nil, List.not_mem_nil, or_false] at hb ⊢
    rcases hb with h | h | h | h | h | h | (h | h) | (h | h) | h
    · exact .inl (.inl h)
    · exact .inl (.inr (.inl h))
    · exact .inl (.inr (.inr (.inl h)))
    · exact .inl (.inr (.inr (.inr (.inl h))))
    · exact .inl (.inr (.inr (.inr (.inr (.inl h)))))
    · exact .inl (.inr (.inr (.inr (.inr (.inr (.inl h))))))
    · exact .inl (.inr (.inr (.inr (.inr (.inr (.inr (.inl h)))))))
    · exact .inr (by rw [h]; exact .of na)
    · exact .inl (.inr (.inr (.inr (.inr (.inr (.inr (.inr (.inl h))))))))
    · exact .inr (by rw [h]; exact .of np)
    · exact .inl (.inr (.inr (.inr (.inr (.inr (.inr (.inr (.inr h))))))))
  refine M.putGa (fun b o hb hn _ => by rw [upd_ne hn]; exact e _ _ hb) ?_ (fun g hg => ?_) (by rw [upd_same, dOf_snoc hl]) ?_ (by rw [List.length_append, List.length_singleton]; omega) ?_
  · have pm : (({ f with gs := f.gs ++ [(a, pl)] } : Foot).all m).Perm (a :: pl :: f.all m) := by
      unfold Foot.all
      simp only [List.map_append, List.map_cons, List.map_nil]
      have p1 : ((f.gs.map (·.1) ++ [a]) ++ ((f.gs.map (·.2) ++ [pl]) ++ f.av)).Perm (a :: pl :: (f.gs.map (·.1) ++ (f.gs.map (·.2) ++ f.av))) := by
        have q1 : ∀ (A B C : List Addr), ((A ++ [a]) ++ ((B ++ [pl]) ++ C)).Perm (a :: pl :: (A ++ (B ++ C))) := fun A B C => by
          have r1 : ((B ++ [pl]) ++ C).Perm (pl :: (B ++ C)) := by
            rw [List.append_assoc]
            exact List.perm_middle
          have r2 : ((A ++ [a]) ++ (pl :: (B ++ C))).Perm (pl :: ((A ++ [a]) ++ (B ++ C))) := List.perm_middle
          have r3 : ((A ++ [a]) ++ (B ++ C)).Perm (a :: (A ++ (B ++ C))) := by
            rw [List.append_assoc]
            exact List.perm_middle
          exact (((List.Perm.refl _).append r1).trans r2).trans ((r3.cons pl).trans (.swap a pl _))
        exact q1 _ _ _
      have p2 : ∀ (c1 c2 c3 c4 c5 c6 : Addr) (l : List Addr), (c1 :: c2 :: c3 :: c4 :: c5 :: c6 :: a :: pl :: l).Perm (a :: pl :: c1 :: c2 :: c3 :: c4 :: c5 :: c6 :: l) := fun c1 c2 c3 c4 c5 c6 l => by
        have := List.perm_append_comm_assoc [c1, c2, c3, c4, c5, c6] [a, pl] l
        exact this
      exact ((((((p1.cons _).cons _).cons _).cons _).cons _).cons _).trans (p2 _ _ _ _ _ _ _)
    refine pm.nodup_iff.mpr ?_
    rw [List.nodup_cons, List.nodup_cons]
    refine ⟨?_, M.fresh np, M.nd⟩
    rw [List.mem_cons, not_or]
    exact ⟨ne, M.fresh na⟩
  · rw [List.mem_append, List.mem_singleton] at hg
    rcases hg with hg | rfl
    · exact ⟨.inl (mem_one hg), .inl (mem_two hg)⟩
    · exact ⟨.inr (.of na), .inr (.of np)⟩
  · refine pr_snoc ⟨dx, [], [], by rw [upd_ne aga]; exact oa, by rw [upd_ne pga]; exact op, .nil, hx⟩ ?_
    have gat : ∀ {gs : List (Addr × Addr)} {xs : List Sv62.Part}, (∀ g ∈ gs, g ∈ f.gs) → Paired (GathAt K H (f.all m)) gs xs → Paired (GathAt K (upd H1 f.ga (.dT (dOf f.gs n.parts ++ [(pkey x, .ref a)]))) (({ f with gs := f.gs ++ [(a, pl)] } : Foot).all m)) gs xs := by
      intro gs xs hg hp
      induction hp with
      | nil => exact .nil
      | @cons g x l1 l2 h1 h2 ih =>
        have hg1 := hg g List.mem_cons_self
        exact .cons (M.keepG k hsub h1 (fun o q => by rw [upd_ne (N.one g hg1).2.2.2.1.symm]; exact e _ _ q) (fun o q => by rw [upd_ne (N.two g hg1).2.2.2.1.symm]; exact e _ _ q)) (ih fun g' h' => hg g' (List.mem_cons_of_mem _ h'))
    exact gat (fun _ h => h) M.gat
  · rw [List.map_append, List.nodup_append]
    refine ⟨M.gp.nd, by simp, fun c hc b hb => ?_⟩
    rw [List.map_singleton, List.mem_singleton] at hb
    rw [hb]
    exact fun z => kd (by rw [← z]; exact hc)
/-- one has become another -/
theorem MachAt.setGa (M : MachAt K H m n f) {i : Nat} {g : Addr × Addr} {pl : Addr} {x x' : Sv62.Part} (hg : f.gs[i]? = some g) (hx : n.parts[i]? = some x) (hk : pkey x' = pkey x) (hp : pl = g.2 ∨ H pl = none) (hs : ∀ b o, H b = some o → b ≠ g.1 → b ≠ g.2 → H' b = some o)
    (gt : GathAt K H' (({ f with gs := f.gs.set i (g.1, pl) } : Foot).all m) (g.1, pl) x') : Moved K H m f { n with parts := n.parts.set i x' } H' { f with gs := f.gs.set i (g.1, pl) } := by
  have N := footNe M.nd
  have hgm : g ∈ f.gs := List.mem_of_getElem? hg
  have hi : i < f.gs.length := (List.getElem?_eq_some_iff.mp hg).1
  have gi : f.gs[i] = g := (List.getElem?_eq_some_iff.mp hg).2
  have k : Keep H H' (f.all m) := fun b o hb hn t => hs b o hb (fun z => hn (by rw [z]; exact mem_one hgm)) (fun z => hn (by rw [z]; exact mem_two hgm))
  have m1 : (f.gs.set i (g.1, pl)).map (·.1) = f.gs.map (·.1) := by
    rw [List.map_set]
    show (f.gs.map (·.1)).set i g.1 = _
    have : g.1 = (f.gs.map (·.1))[i]'(by rw [List.length_map]; exact hi) := by
      rw [List.getElem_map, gi]
    rw [this, List.set_getElem_self]
  have m2 : (f.gs.set i (g.1, pl)).map (·.2) = (f.gs.map (·.2)).set i pl := List.map_set
  have hsub : ∀ b ∈ ({ f with gs := f.gs.set i (g.1, pl) } : Foot).all m, b ∈ f.all m ∨ New H b := by
    intro b hb
    unfold Foot.all at hb ⊢
    dsimp only at hb
    rw [m1, m2] at hb
    simp only [List.mem_cons, List.mem_append] at hb ⊢
    rcases hb with h | h | h | h | h | h | h | h | h
    · exact .inl (.inl h)
    · exact .inl (.inr (.inl h))
    · exact .inl (.inr (.inr (.inl h)))
    · exact .inl (.inr (.inr (.inr (.inl h))))
    · exact .inl (.inr (.inr (.inr (.inr (.inl h)))))
    · exact .inl (.inr (.inr (.inr (.inr (.inr (.inl h))))))
    · exact .inl (.inr (.inr (.inr (.inr (.inr (.inr (.inl h)))))))
    · rcases List.mem_or_eq_of_mem_set h with h | h
      · exact .inl (.inr (.inr (.inr (.inr (.inr (.inr (.inr (.inl h))))))))
      · rcases hp with hp | hp
        · exact .inl (.inr (.inr (.inr (.inr (.inr (.inr (.inr (.inl (List.mem_map.mpr ⟨g, hgm, by rw [h, hp]⟩)))))))))
        · exact .inr (by rw [h]; exact .of hp)
    · exact .inl (.inr (.inr (.inr (.inr (.inr (.inr (.inr (.inr h))))))))
  have kk : (n.parts.set i x').map pkey = n.parts.map pkey := by
    rw [List.map_set, hk]
    obtain ⟨h1, h2⟩ := List.getElem?_eq_some_iff.mp hx
    have : pkey x = (n.parts.map pkey)[i]'(by rw [List.length_map]; exact h1) := by
      rw [List.getElem_map, h2]
    rw [this, List.set_getElem_self]
  refine M.putGa (fun b o hb hn hall => hs b o hb (hall g hgm).1 (hall g hgm).2) ?_ (fun g' hg' => ?_) (by rw [dOf_set (g' := (g.1, pl)) hg hx rfl hk]; exact hs _ _ M.gas (N.one g hgm).2.2.2.1 (N.two g hgm).2.2.2.1) ?_ (by rw [List.length_set]; exact M.gp.few) (by rw [kk]; exact M.gp.nd)
  · rcases hp with hp | hp
    · have : f.gs.set i (g.1, pl) = f.gs := by
        rw [hp, ← gi]
        exact List.set_getElem_self _
      rw [this]
      exact M.nd
    · have : ({ f with gs := f.gs.set i (g.1, pl) } : Foot).all m = (f.all m).set (6 + ((f.gs.map (·.1)).length + i)) pl := by
        unfold Foot.all
        dsimp only
        rw [m1, m2]
        rw [show 6 + ((f.gs.map (·.1)).length + i) = (f.gs.map (·.1)).length + i + 6 by omega]
        simp only [List.set_cons_succ]
        rw [List.set_append_right _ _ (by omega), show (f.gs.map (·.1)).length + i - (f.gs.map (·.1)).length = i by omega, List.set_append_left _ _ (by rw [List.length_map]; exact hi)]
      rw [this]
      exact nodup_set M.nd (M.fresh hp)
  · rcases List.mem_or_eq_of_mem_set hg' with h | rfl
    · exact ⟨.inl (mem_one h), .inl (mem_two h)⟩
    · refine ⟨.inl (show g.1 ∈ _ from mem_one hgm), ?_⟩
      rcases hp with hp | hp
      · exact .inl (by show pl ∈ _; rw [hp]; exact mem_two hgm)
      · exact .inr (.of hp)
  · refine pr_setMap gt M.gat (fun j a b hne ha hf => ?_) hi
    have ham : a ∈ f.gs := List.mem_of_getElem? ha
    have hj : j < f.gs.length := (List.getElem?_eq_some_iff.mp ha).1
    have aj : f.gs[j] = a := (List.getElem?_eq_some_iff.mp ha).2
    have nd2 : (f.gs.map (·.1) ++ (f.gs.map (·.2) ++ f.av)).Nodup := by
      have := M.nd
      unfold Foot.all at this
      simp only [List.nodup_cons] at this
      exact this.2.2.2.2.2.2
    obtain ⟨n1, n2', n3'⟩ := List.nodup_append.mp nd2
    obtain ⟨n2, _, _⟩ := List.nodup_append.mp n2'
    have n3 : ∀ a ∈ f.gs.map (·.1), ∀ b ∈ f.gs.map (·.2), a ≠ b := fun a ha b hb => n3' a ha b (List.mem_append.mpr (.inl hb))
    have l1 : (f.gs.map (·.1)).length = f.gs.length := List.length_map ..
    have l2 : (f.gs.map (·.2)).length = f.gs.length := List.length_map ..
    have d1 : a.1 ≠ g.1 := fun z => hne ((List.getElem_inj (xs := f.gs.map (·.1)) (h₀ := by omega) (h₁ := by omega) n1).mp (by rw [List.getElem_map, List.getElem_map, aj, gi, z]))
    have d2 : a.2 ≠ g.2 := fun z => hne ((List.getElem_inj (xs := f.gs.map (·.2)) (h₀ := by omega) (h₁ := by omega) n2).mp (by rw [List.getElem_map, List.getElem_map, aj, gi, z]))
    have d3 : a.1 ≠ g.2 := n3 _ (List.mem_map.mpr ⟨a, ham, rfl⟩) _ (List.mem_map.mpr ⟨g, hgm, rfl⟩)
    have d4 : a.2 ≠ g.1 := (n3 _ (List.mem_map.mpr ⟨g, hgm, rfl⟩) _ (List.mem_map.mpr ⟨a, ham, rfl⟩)).symm
    exact M.keepG k hsub hf (fun o q => hs _ _ q d1 d3) (fun o q => hs _ _ q d4 d2)
end
end Lp
set_option maxHeartbeats 400000000
namespace Lp
open PySem PySem.Spec PyProof.Rows L2 Evl
/-- the packet's gathering is there, or begun -/
def newPart (n : Sv62.Net) (p : Sv62.Packet) : Sv62.Part := ⟨p.from_, p.to, p.what, p.name, n.now, none, [], none, false⟩
def begun (n : Sv62.Net) (p : Sv62.Packet) : Sv62.Net := match n.partOf p with
  | some _ => n
  | none => { n with parts := (if Sv62.PARTS ≤ n.parts.length then n.parts.drop 1 else n.parts) ++ [newPart n p] }
theorem new_of (n : Sv62.Net) (p : Sv62.Packet) : (newPart n p).of p = true := of_iff.mpr rfl
theorem new_is (n : Sv62.Net) (p : Sv62.Packet) : PartIs (newPart n p) [] := ⟨rfl, rfl, rfl, by simp, fun _ => rfl, fun _ h => (nomatch h), fun _ h => (nomatch h), .nil, fun _ h => (nomatch h)⟩
theorem part_none {n : Sv62.Net} {p : Sv62.Packet} (h : n.partOf p = none) : ∀ x ∈ n.parts, x.of p = false := fun x hx => by
  have := List.find?_eq_none.mp h x hx
  simpa using this
theorem part_some {n : Sv62.Net} {p : Sv62.Packet} {x : Sv62.Part} (h : n.partOf p = some x) : ∃ i : Nat, n.parts[i]? = some x ∧ x.of p = true := by
  obtain ⟨i, hi, e⟩ := List.getElem_of_mem (List.mem_of_find?_eq_some h)
  exact ⟨i, List.getElem?_eq_some_iff.mpr ⟨hi, e⟩, by simpa using List.find?_some h⟩
theorem isKeys_ex {H H' : Hp} {kvs : List (List L2.Key × V)} {bs : List Addr} (e : Ex H H') (h : IsKeys H kvs bs) : IsKeys H' kvs bs := pr_map (fun _ _ z => e _ _ z) h
section
variable {P : Program} {w : World} {K : PySem.W.Frag} {mg : Str → Option Value} {base : Heap}
theorem fm_ga (T : Txt K mg base) {σ : L2.St} {H : Hp} {m : Addr} {n : Sv62.Net} {f : Foot} {i : Nat} (hs : σ[i]? = some (some (.ref m))) (M : MachAt K H m n f) : Ev (tFld K (tVar i) "gatherings") σ H (.ref f.ga) := by
  obtain ⟨dm, om⟩ := M.obj
  exact ev_fld (ev_var hs) om T.cl_Machine T.n_Machine_gatherings F_Machine_gatherings
theorem fm_time (T : Txt K mg base) {σ : L2.St} {H : Hp} {m : Addr} {n : Sv62.Net} {f : Foot} {i : Nat} (hs : σ[i]? = some (some (.ref m))) (M : MachAt K H m n f) : Ev (tFld K (tVar i) "time") σ H (.int (n.now : Int)) := by
  obtain ⟨dm, om⟩ := M.obj
  exact ev_fld (ev_var hs) om T.cl_Machine T.n_Machine_time F_Machine_time
theorem ev_atT {td tk : TE} {σ : L2.St} {H : Hp} {d b : Addr} {kvs : List (List L2.Key × V)} {k : List L2.Key} {v : V} (hd : Ev td σ H (.ref d)) (hk : Ev tk σ H (.ref b)) (od : H d = some (.dT kvs)) (ob : H b = some (.tup (k.map kV))) (hv : valV kvs k = some v) : Ev (tDGet td tk) σ H v := fun H1 e Q q =>
  hd H1 e _ fun H2 e2 => hk H2 (e.trans e2) _ fun H3 e3 => ⟨d, v, rfl, by rw [← hv]; exact DGet.t (e3 _ _ (e2 _ _ (e _ _ od))) (e3 _ _ (e2 _ _ (e _ _ ob))), q H3 (e2.trans e3)⟩
theorem dput_of {td tk te : TE} {D : Ends} {σ : L2.St} {H : Hp} (h : te σ H fun v H1 => td σ H1 fun x H2 => tk σ H2 fun y H3 => ∃ a H4, x = .ref a ∧ DPut H3 a y v H4 ∧ D.nx σ H4) : sDPut td tk te D σ H := h
theorem begin_new (T : Txt K mg base) {D : Ends} {σ : L2.St} {H : Hp} {m ky : Addr} {n : Sv62.Net} {f : Foot} {p : Sv62.Packet} {x : Sv62.Part} {E : XK} (h0 : σ[0]? = some (some (.ref m))) (h2 : σ[2]? = some (some (.ref ky))) (M : MachAt K H m n f) (k : H ky = some (.tup ((pkP p).map kV))) (hno : ∀ x ∈ n.parts, x.of p = false) (few : n.parts.length < 64)
    (hx : x.of p = true) (px : PartIs x []) (hs : x.since = n.now) (hsp : x.spoiled = false) (q : ∀ a pl H', Moved K H m f { n with parts := n.parts ++ [x] } H' { f with gs := f.gs ++ [(a, pl)] } → H' ky = some (.tup ((pkP p).map kV)) → D.nx σ H') :
    sDPut (tFld K (tVar 0) "gatherings") (tVar 2) (tMake (He.ga K "Gathering") (sp_Gathering__init K) [] E (tCons (tFld K (tVar 0) "time") tNil)) D σ H := by
  refine dput_of (make_of (cons_of (ev_go (fm_time T h0 M) fun H4 e4 => nil_of fun a dx na nd ne => ⟨a, dx, _, rfl, upd_same, fun H5 pl npl oa op keep => ⟨rfl, ?_⟩⟩)))
  have e45 : Ex H4 H5 := made_ex (Ex.refl H4) na nd keep
  have pa : pl ≠ a := fun z => by
    rw [z, upd_same] at npl
    cases npl
  have pd : pl ≠ dx := fun z => by
    rw [z, upd_ne ne, upd_same] at npl
    cases npl
  rw [upd_ne pa, upd_ne pd] at npl
  have e5 := e4.trans e45
  refine ev_go (fm_ga T h0 (M.ex e5)) fun H6 e6 => ev_go (ev_var h2) fun H7 e7 => ?_
  have e67 := e6.trans e7
  have e37 := e5.trans e67
  have hl : f.gs.length = n.parts.length := M.gat.length
  have hv : valV (dOf f.gs n.parts) (pkP p) = none := dOf_none hl hno
  have ob := e37 _ _ k
  have od := e37 _ _ M.gas
  refine ⟨f.ga, _, rfl, DPut.t od ob ?_, ?_⟩
  · have : (dOf f.gs n.parts).length ≤ 64 := by
      unfold dOf
      rw [List.length_zipWith]
      omega
    exact Nat.lt_of_le_of_lt this (by decide)
  rw [putK_new _ hv, ← of_iff.mp hx]
  refine q a pl _ (M.addGa e37 (fresh_back e4 na) (fresh_back e4 npl) pa.symm (dx := dx) (by rw [hs, hsp]; exact e67 _ _ oa) (e67 _ _ op) px few ?_) ?_
  · intro z
    obtain ⟨y, hy, hk⟩ := List.mem_map.mp z
    have := of_iff.mpr (hk.trans (of_iff.mp hx))
    rw [hno y hy] at this
    cases this
  · rw [upd_ne (ne_of ob od fun z => nomatch z)]
    exact ob
theorem drop_of {te : TE} {D : Ends} {σ : L2.St} {H : Hp} (h : te σ H fun _ H' => D.nx σ H') : tDrop te D σ H := h
theorem op_of {r : R2} {ta tb : TE} {σ : L2.St} {H : Hp} {Q : VK} (h : ta σ H fun x H1 => tb σ H1 fun y H2 => r x y H2 Q) : tOp r ta tb σ H Q := h
theorem popT_of {td ty : TE} {σ : L2.St} {H : Hp} {Q : VK} {d : Addr} {kvs : List (List L2.Key × V)} (hd : Ev td σ H (.ref d)) (od : H d = some (.dT kvs)) (h : ∀ H1, Ex H H1 → ty σ H1 fun y H2 => ∃ (kvs : List (List L2.Key × V)) (k : List L2.Key) (b : Addr) (v : V), y = .ref b ∧ H2 d = some (.dT kvs) ∧ H2 b = some (.tup (k.map kV)) ∧ valV kvs k = some v ∧ Q v (upd H2 d (.dT (dropK kvs k)))) : tPopT td ty σ H Q :=
  hd H (Ex.refl H) _ fun H1 e1 => ⟨d, rfl, .inr ⟨kvs, .inl (e1 _ _ od)⟩, h H1 e1⟩
theorem keys_go {td : TE} {σ : L2.St} {H : Hp} {d : Addr} {kvs : List (List L2.Key × V)} {Q : VK} (hd : Ev td σ H (.ref d)) (od : H d = some (.dT kvs)) (k : ∀ p bs H2, H p = none → Ex H H2 → H2 p = some (.lst (bs.map V.ref)) → IsKeys H2 kvs bs → Q (.ref p) H2) :
    tCB (fun xs H Q => ∃ d kvs, xs = [V.ref d] ∧ Rd H d (.dT kvs) ∧ ∀ p bs, H p = none → IsKeys H kvs bs → Q (.ref p) (upd H p (.lst (bs.map V.ref)))) (tCons td tNil) σ H Q :=
  hd H (Ex.refl H) _ fun H2 e2 => ⟨d, kvs, rfl, .inl (e2 _ _ od), fun p bs np hk => k p bs _ (fresh_back e2 np) (e2.trans (Ex.new np)) upd_same (isKeys_ex (Ex.new np) hk)⟩
theorem tail_new (T : Txt K mg base) {D : Ends} {σ : L2.St} {H0 H : Hp} {m ky a pl : Addr} {n' : Sv62.Net} {f f1 : Foot} {p : Sv62.Packet} {x : Sv62.Part} {xs : List Sv62.Part} {gs : List (Addr × Addr)} (h0 : σ[0]? = some (some (.ref m))) (h2 : σ[2]? = some (some (.ref ky))) (mv : Moved K H0 m f n' H f1) (k : H ky = some (.tup ((pkP p).map kV))) (hn : n'.parts = xs ++ [x]) (hf : f1.gs = gs ++ [(a, pl)]) (hx : x.of p = true) (hl : gs.length = xs.length)
    (q : ∀ (i : Nat) (g : Addr × Addr) H', Ex H H' → n'.parts[i]? = some x → f1.gs[i]? = some g → D.rt (.ref g.1) H') : tRet (tDGet (tFld K (tVar 0) "gatherings") (tVar 2)) D σ H := by
  have i1 : n'.parts[xs.length]? = some x := by
    rw [hn, List.getElem?_append_right (Nat.le_refl _), Nat.sub_self]
    rfl
  have i2 : f1.gs[xs.length]? = some (a, pl) := by
    rw [hf, ← hl, List.getElem?_append_right (Nat.le_refl _), Nat.sub_self]
    rfl
  have hv : valV (dOf f1.gs n'.parts) (pkP p) = some (.ref a) := by
    rw [← of_iff.mp hx]
    exact dOf_val mv.at_.gp.nd i1 i2
  exact ret_ev (ev_atT (fm_ga T h0 mv.at_) (ev_var h2) mv.at_.gas k hv) fun H' e => q _ _ H' e i1 i2
def sp_gathering_for (K : PySem.W.Frag) : Sp := fun vs H Q _ => ∃ (m : Addr) (n : Sv62.Net) (f : Foot) (h : Addr) (p : Sv62.Packet) (n0 : Nat), vs = [.ref m, .ref h] ∧ MachAt K H m n f ∧ HeadAt K H h (hdOf p n0) ∧
  ∀ (f' : Foot) (i : Nat) (g : Addr × Addr) (x : Sv62.Part) (H' : Hp), Moved K H m f (begun n p) H' f' → (begun n p).parts[i]? = some x → f'.gs[i]? = some g → x.of p = true → Q (.ref g.1) H'
theorem len_gathering_for {vs : List V} {H : Hp} {Q : VK} {E : XK} (h : sp_gathering_for K vs H Q E) : vs.length = 2 := by
  obtain ⟨m, n, f, h, p, n0, rfl, _⟩ := h
  rfl
theorem sc_gathering_for : FnScope ["machine", "head", "key"] ["machine", "head"] (defScope s_gathering_for) := ⟨rfl, rfl, rfl, by decide +kernel, rfl, by decide +kernel, by decide +kernel⟩
theorem okF_gathering_for (T : Txt K mg base) {fd : FuncData} (F : FunD K d_gathering_for.name d_gathering_for.qual d_gathering_for.params d_gathering_for.body d_gathering_for.scope [] [] (He.fAd K d_gathering_for.at_) fd) : FnOk P w K mg base CX0 3 (He.ga K "gathering_for") fd ["machine", "head"] (sp_gathering_for K) := by
  obtain ⟨fd_Gathering__init, G_Gathering__init, b_Gathering__init, k_Gathering__init⟩ := ok_Gathering__init (P := P) (w := w) (base := base) T
  obtain ⟨fd_gathering_key, G_gathering_key, b_gathering_key, k_gathering_key⟩ := ok_gathering_key (P := P) (w := w) (base := base) T
  refine F.ok sc_gathering_for (fun vs H Q E h => len_gathering_for h) (fun cdv Ar outer s H vs Q E hr h => ?_)
  refine ⟨_, PSs.nox (pss_cons (ps_set (i := 2) sc_gathering_for.nd rfl (Or.inl rfl) (pe_call G_gathering_key (hr.mono (by decide)) rfl T.g_gathering_key k_gathering_key b_gathering_key .nil pass0 (pa_cons (pv 1) pa_nil)))
      (pss_cons (ps_if (pt_cmp (pc_dnotin (hu_of hr) (pv 2) (pe_fld (pv 0) rfl))) (pss_cons (ps_if (pt_cmpR op_ge (pe_callB call_len_dT (by rfl) T.f_len PySem.boot_len (pa_cons (pe_fld (pv 0) rfl) pa_nil)) (pe_gi rfl T.c_MOST_GATHERINGS) (nomark _)) (pss_one (ps_expr (pe_popT (hu_of hr) (pe_fld (pv 0) rfl) (pe_ix ix_list (pe_callTy (call_list_dT rfl) (by rfl) T.f_list (by decide +kernel) (pa_cons (pe_fld (pv 0) rfl) pa_nil)) pe_int (fun _ _ => rfl)) ⟨rfl, rfl, rfl, rfl⟩))) pss_nil)
      (pss_one (ps_dput (hu_of hr) (pe_fld (pv 0) rfl) (pv 2) (pe_make T.mk_Gathering G_Gathering__init (hr.mono (by decide)) rfl T.g_Gathering b_Gathering__init .nil pass0 (pa_cons (pe_fld (pv 0) rfl) pa_nil)) rfl))) pss_nil)
      (pss_one (ps_ret (pe_dget (hu_of hr) (pe_fld (pv 0) rfl) (pv 2) (fun _ _ => rfl)))))), ?_⟩
  obtain ⟨m, n, f, hh, p, n0, rfl, M, hA, q⟩ := h
  refine sq_setU (eu_key (ev_var rfl) hA) fun ky H1 nk e1 k1 => ?_
  have M1 := M.ex e1
  cases hp : n.partOf p with
  | some x =>
    obtain ⟨i, hi, hx⟩ := part_some hp
    have hb : begun n p = n := by
      unfold begun
      rw [hp]
    rw [hb] at q
    obtain ⟨g, hg, _⟩ := pr_get M.gat hi
    have hv : valV (dOf f.gs n.parts) (pkP p) = some (.ref g.1) := by
      rw [← of_iff.mp hx]
      exact dOf_val M.gp.nd hi hg
    refine sq_if (b := false) (et_is (et_test (ev_inT (ev_var rfl) (fm_ga T rfl M1) M1.gas k1)) ?_) (fun z => Bool.noConfusion z) fun _ H2 e2 => ?_
    · rw [hv]
      rfl
    have M2 := M1.ex e2
    exact ret_ev (ev_atT (fm_ga T rfl M2) (ev_var rfl) M2.gas (e2 _ _ k1) hv) fun H3 e3 => q f i g x H3 (.same M ((e1.trans e2).trans e3)) hi hg hx
  | none =>
    have hno := part_none hp
    have hl : f.gs.length = n.parts.length := M.gat.length
    have hv : valV (dOf f.gs n.parts) (pkP p) = none := dOf_none hl hno
    refine sq_if (b := true) (et_is (et_test (ev_inT (ev_var rfl) (fm_ga T rfl M1) M1.gas k1)) ?_) (fun _ H2 e2 => ?_) fun z => Bool.noConfusion z
    · rw [hv]
      rfl
    have M2 := M1.ex e2
    have k2 := e2 _ _ k1
    refine sq_if (b := decide (64 ≤ n.parts.length)) (et_is (et_test (ev_op (ev_lenT (fm_ga T rfl M2) M2.gas) ev_c rv_I0)) ?_) (fun hb H3 e3 => ?_) (fun hb H3 e3 => ?_)
    · rw [dOf_len M2.gat]
      apply decide_eq_decide.mpr
      omega
    · have hb2 : 64 ≤ n.parts.length := of_decide_eq_true hb
      have M3 := M2.ex e3
      have k3 := e3 _ _ k2
      have h64 : n.parts.length = 64 := Nat.le_antisymm M.gp.few hb2
      obtain ⟨x0, hx0⟩ : ∃ x0, n.parts[0]? = some x0 := ⟨_, List.getElem?_eq_getElem (by omega)⟩
      obtain ⟨g0, hg0, _⟩ := pr_get M.gat hx0
      have hv0 : valV (dOf f.gs n.parts) (pkey x0) = some (.ref g0.1) := dOf_val M.gp.nd hx0 hg0
      refine drop_of (popT_of (fm_ga T rfl M3) M3.gas fun H4 e4 => ?_)
      have M4 := M3.ex e4
      refine op_of (keys_go (fm_ga T rfl M4) M4.gas fun l bs H5 nl e5 hl5 hk5 => ?_)
      have M5 := M4.ex e5
      refine ev_go (v := V.int 0) ev_c fun H6 e6 => ?_
      obtain ⟨b0, hb0, ob0⟩ := pr_get2 hk5 (i := 0) (x := (pkey x0, V.ref g0.1)) (by
        have h1 := List.getElem?_eq_some_iff.mp hx0
        have h2 := List.getElem?_eq_some_iff.mp hg0
        unfold dOf
        rw [List.getElem?_zipWith, hx0, hg0])
      refine ⟨l, bs.map V.ref, 0, .ref b0, rfl, rfl, sq_of (e6 _ _ hl5), atI_nat (j := 0) (by rw [List.getElem?_map, hb0]; rfl), ?_⟩
      have M6 := M5.ex e6
      refine ⟨dOf f.gs n.parts, pkey x0, b0, .ref g0.1, rfl, M6.gas, e6 _ _ ob0, hv0, ?_⟩
      rw [dOf_drop M.gat.length M.gp.nd hx0]
      have mv := M6.dropGa 0
      have e26 := ((e3.trans e4).trans e5).trans e6
      have e06 := (e1.trans e2).trans e26
      have k6 := e26 _ _ k2
      have hsub : ∀ y ∈ n.parts.eraseIdx 0, y ∈ n.parts := fun y hy => List.mem_of_mem_eraseIdx hy
      refine begin_new T rfl rfl mv.at_ (p := p) (x := newPart n p) (by rw [upd_ne (ne_of k6 M6.gas fun z => nomatch z)]; exact k6) (fun y hy => hno y (hsub y hy)) ?_ (new_of n p) (new_is n p) rfl rfl fun a pl H7 mv2 k7 => ?_
      · show (n.parts.eraseIdx 0).length < 64
        rw [List.length_eraseIdx_of_lt (by omega)]
        omega
      have hbg : begun n p = { n with parts := n.parts.eraseIdx 0 ++ [newPart n p] } := by
        unfold begun
        simp only [hp]
        rw [if_pos (show Sv62.PARTS ≤ n.parts.length from hb2), List.eraseIdx_zero, List.drop_one]
      have mv3 : Moved K H m f (begun n p) H7 { f with gs := f.gs.eraseIdx 0 ++ [(a, pl)] } := by
        rw [hbg]
        exact (mv.trans mv2).after e06
      exact tail_new T rfl rfl mv3 k7 (by rw [hbg]) rfl (new_of n p) (by rw [List.length_eraseIdx_of_lt (by omega), List.length_eraseIdx_of_lt (by omega), hl]) fun i g H8 e8 h1 h2 => q _ i g _ H8 (mv3.then e8) h1 h2 (new_of n p)
    · have hb2 : n.parts.length < 64 := Nat.not_le.mp (of_decide_eq_false hb)
      have M3 := M2.ex e3
      have k3 := e3 _ _ k2
      refine begin_new T rfl rfl M3 (p := p) (x := newPart n p) k3 hno hb2 (new_of n p) (new_is n p) rfl rfl fun a pl H7 mv2 k7 => ?_
      have hbg : begun n p = { n with parts := n.parts ++ [newPart n p] } := by
        unfold begun
        simp only [hp]
        rw [if_neg (show ¬ Sv62.PARTS ≤ n.parts.length from fun z => absurd (show 64 ≤ n.parts.length from z) (by omega))]
      have mv3 : Moved K H m f (begun n p) H7 { f with gs := f.gs ++ [(a, pl)] } := by
        rw [hbg]
        exact mv2.after ((e1.trans e2).trans e3)
      exact tail_new T rfl rfl mv3 k7 (by rw [hbg]) rfl (new_of n p) hl fun i g H8 e8 h1 h2 => q _ i g _ H8 (mv3.then e8) h1 h2 (new_of n p)
theorem ok_gathering_for (T : Txt K mg base) : DefOk P w K mg base 3 (He.ga K "gathering_for") ["machine", "head"] (sp_gathering_for K) := by
  obtain ⟨fd, F⟩ := T.fd_gathering_for
  exact ⟨fd, okF_gathering_for T F, F.bindsN fun _ _ _ _ _ _ us hl => match us, hl with | [_, _], _ => rfl, F.kp⟩
def sp_end_gathering (K : PySem.W.Frag) : Sp := fun vs H Q _ => ∃ (m : Addr) (n : Sv62.Net) (f : Foot) (h : Addr) (p : Sv62.Packet) (n0 i : Nat) (x : Sv62.Part), vs = [.ref m, .ref h] ∧ MachAt K H m n f ∧ HeadAt K H h (hdOf p n0) ∧ n.parts[i]? = some x ∧ x.of p = true ∧
  ∀ H', Moved K H m f (n.without p) H' { f with gs := f.gs.eraseIdx i } → ExB f.ga H H' → Q .non H'
theorem len_end_gathering {vs : List V} {H : Hp} {Q : VK} {E : XK} (h : sp_end_gathering K vs H Q E) : vs.length = 2 := by
  obtain ⟨m, n, f, h, p, n0, i, x, rfl, _⟩ := h
  rfl
theorem sc_end_gathering : FnScope ["machine", "head"] ["machine", "head"] (defScope s_end_gathering) := ⟨rfl, rfl, rfl, by decide +kernel, rfl, by decide +kernel, by decide +kernel⟩
theorem okF_end_gathering (T : Txt K mg base) {fd : FuncData} (F : FunD K d_end_gathering.name d_end_gathering.qual d_end_gathering.params d_end_gathering.body d_end_gathering.scope [] [] (He.fAd K d_end_gathering.at_) fd) : FnOk P w K mg base CX0 2 (He.ga K "end_gathering") fd ["machine", "head"] (sp_end_gathering K) := by
  obtain ⟨fd_gathering_key, G_gathering_key, b_gathering_key, k_gathering_key⟩ := ok_gathering_key (P := P) (w := w) (base := base) T
  refine F.ok sc_end_gathering (fun vs H Q E h => len_end_gathering h) (fun cdv Ar outer s H vs Q E hr h => ?_)
  refine ⟨_, PSs.nox (pss_one (ps_expr (pe_popT (hu_of hr) (pe_fld (pv 0) rfl) (pe_call G_gathering_key (hr.mono (by decide)) rfl T.g_gathering_key k_gathering_key b_gathering_key .nil pass0 (pa_cons (pv 1) pa_nil)) ⟨rfl, rfl, rfl, rfl⟩))), ?_⟩
  obtain ⟨m, n, f, hh, p, n0, i, x, rfl, M, hA, hi, hx, q⟩ := h
  obtain ⟨g, hg, _⟩ := pr_get M.gat hi
  refine drop_of (popT_of (fm_ga T rfl M) M.gas fun H1 e1 => ?_)
  have M1 := M.ex e1
  refine (eu_key (ev_var rfl) (hA.ex e1)) H1 (Ex.refl H1) _ fun t H2 nt e2 k2 => ?_
  have M2 := M1.ex e2
  have hv : valV (dOf f.gs n.parts) (pkP p) = some (.ref g.1) := by
    rw [← of_iff.mp hx]
    exact dOf_val M.gp.nd hi hg
  refine ⟨dOf f.gs n.parts, pkP p, t, .ref g.1, rfl, M2.gas, k2, hv, ?_⟩
  rw [← of_iff.mp hx, dOf_drop M.gat.length M.gp.nd hi]
  have hw : n.without p = { n with parts := n.parts.eraseIdx i } := by
    unfold Sv62.Net.without
    rw [at_erase M.gp.nd hi hx]
  refine q _ ?_ ((ExB.of (e1.trans e2)).trans .upd)
  rw [hw]
  exact (M2.dropGa i).after (e1.trans e2)
theorem ok_end_gathering (T : Txt K mg base) : DefOk P w K mg base 2 (He.ga K "end_gathering") ["machine", "head"] (sp_end_gathering K) := by
  obtain ⟨fd, F⟩ := T.fd_end_gathering
  exact ⟨fd, okF_end_gathering T F, F.bindsN fun _ _ _ _ _ _ us hl => match us, hl with | [_, _], _ => rfl, F.kp⟩
end
end Lp
set_option maxHeartbeats 400000000
namespace Lp
open PySem PySem.Spec PyProof.Rows L2 Evl
/-! ### the body, put together -/
theorem b_flags {a b c d : Bool} (h : a.toNat + 2 * b.toNat = c.toNat + 2 * d.toNat) : a = c ∧ b = d := by
  cases a <;> cases b <;> cases c <;> cases d <;> first | exact ⟨rfl, rfl⟩ | (exfalso; revert h; decide)
theorem piece_one {K : PySem.W.Frag} {H : Hp} {S S' : List Addr} {v : V} {p r : Sv62.Packet} (x : PieceV K H S v p) (y : PieceV K H S' v r) : p = r := by
  obtain ⟨a, dx, h, b, e1, _, _, _, o1, ⟨dh, o2⟩, o3⟩ := x
  obtain ⟨a', dx', h', b', e1', _, _, _, o1', ⟨dh', o2'⟩, o3'⟩ := y
  obtain rfl : a = a' := V.ref.inj (e1.symm.trans e1')
  rw [o1] at o1'
  have q := Option.some.inj o1'
  injection q with _ _ q
  simp only [F_Piece, List.cons.injEq, Prod.mk.injEq, V.ref.injEq, true_and, and_true] at q
  obtain ⟨rfl, rfl, _⟩ := q
  rw [o2] at o2'
  have q2 := Option.some.inj o2'
  injection q2 with _ _ q2
  rw [o3] at o3'
  have q3 := Option.some.inj o3'
  injection q3 with q3
  have hb := bv_inj q3
  simp only [hdF, F_Head, hdOf, List.cons.injEq, Prod.mk.injEq, V.int.injEq, true_and, and_true] at q2
  obtain ⟨a1, a2, a3, _, a5, a6, a7, a8⟩ := q2
  cases p
  cases r
  simp only [Sv62.Packet.mk.injEq]
  obtain ⟨f1, f2⟩ := b_flags (Int.ofNat_inj.mp a3)
  exact ⟨Int.ofNat_inj.mp a1, Int.ofNat_inj.mp a2, f1, f2, Int.ofNat_inj.mp a5, Int.ofNat_inj.mp a6, Int.ofNat_inj.mp a7, Int.ofNat_inj.mp a8, hb⟩
section
variable {K : PySem.W.Frag} {H H' : Hp} {m : Addr} {n : Sv62.Net} {f : Foot}
theorem MachAt.extN (M : MachAt K H m n f) (e : LamX.ExtN H H') (tb : LamX.TabS H' f.tb qW) : Moved K H m f n H' f := by
  obtain ⟨h1, ⟨dx, h2⟩, ⟨vs, h3, h4⟩, ⟨kvs, h5, h6⟩, h7, h8, ⟨a, b, c, h9, h10⟩, h11, h12, h13, h14, h15⟩ := M
  have k : Keep H H' (f.all m) := extN_keep e
  have z : ∀ {b : Addr} {o : HO}, H b = some o → ntb o = true → H' b = some o := fun {b o} hb t => e b o hb fun ps q => by
    rw [q] at t
    cases t
  exact ⟨⟨h1, ⟨dx, z h2 rfl⟩, ⟨vs, z h3 rfl, pr_map (fun _ _ y => y.keep k same_sub) h4⟩, ⟨kvs, z h5 rfl, pr_map (fun _ _ y => ⟨y.1, y.2.keep k same_sub⟩) h6⟩, z h7 rfl, pr_map (fun _ _ y => y.keep k same_sub (fun o q t => z q t) (fun o q t => z q t)) h8, ⟨a, b, c, z h9 rfl, h10⟩, h11, tb, h13, h14, avs_go h15 fun b _ o q t => z q t⟩, same_sub, k, rfl, fun b _ o q t => z q t⟩
end
noncomputable def pkOf (K : PySem.W.Frag) (H : Hp) (S : List Addr) (a : Addr) : Sv62.Packet := by
  classical
  exact if h : ∃ p, PieceV K H S (.ref a) p then h.choose else ⟨0, 0, false, false, 0, 0, 0, 0, []⟩
theorem pkOf_eq {K : PySem.W.Frag} {H : Hp} {S : List Addr} {a : Addr} {p : Sv62.Packet} (h : PieceV K H S (.ref a) p) : pkOf K H S a = p := by
  have e : ∃ p, PieceV K H S (.ref a) p := ⟨p, h⟩
  unfold pkOf
  rw [dif_pos e]
  exact piece_one e.choose_spec h
theorem pcs_addrs {K : PySem.W.Frag} {H : Hp} {S : List Addr} : ∀ {vs : List V} {ps : List Sv62.Packet}, Paired (PieceV K H S) vs ps → ∃ as : List Addr, vs = as.map V.ref ∧ ps = as.map (pkOf K H S) ∧ ∀ a ∈ as, PieceV K H S (.ref a) (pkOf K H S a)
  | _, _, .nil => ⟨[], rfl, rfl, fun _ h => nomatch h⟩
  | _, _, .cons h1 h2 => by
    obtain ⟨as, rfl, rfl, hall⟩ := pcs_addrs h2
    have h1' := h1
    obtain ⟨a, dx, h, b, rfl, _⟩ := h1'
    refine ⟨a :: as, rfl, ?_, fun c hc => ?_⟩
    · rw [List.map_cons, pkOf_eq h1]
    · rcases List.mem_cons.mp hc with rfl | hc
      · rw [pkOf_eq h1]
        exact h1
      · exact hall c hc
theorem flat_le (l : List Sv62.Packet) (i : Nat) : (((l.take i).map fun p => p.body).flatten).length ≤ (l.map fun p => p.body.length).sum := by
  rw [List.length_flatten, List.map_map]
  show ((l.take i).map fun p => p.body.length).sum ≤ _
  conv => rhs; rw [← List.take_append_drop i l, List.map_append, List.sum_append]
  omega
section
variable {P : Program} {w : World} {K : PySem.W.Frag} {mg : Str → Option Value} {base : Heap}
def sp_whole_body (K : PySem.W.Frag) : Sp := fun vs H Q _ => ∃ (m : Addr) (n : Sv62.Net) (f : Foot) (S : List Addr) (g pl : Addr) (sp : Bool) (ps : List Sv62.Packet) (x : Sv62.Part), vs = [.ref g] ∧ MachAt K H m n f ∧ GObj K H S g pl sp ps ∧ PartIs x ps ∧ (ps.map fun p => p.body.length).sum ≤ 65515 ∧
  ∀ r H', Moved K H m f n H' f → LamX.ExtN H H' → x.body.length ≤ 65515 → H r = none → H' r = some (.lst (bv x.body)) → Q (.ref r) H'
theorem len_whole_body {vs : List V} {H : Hp} {Q : VK} {E : XK} (h : sp_whole_body K vs H Q E) : vs.length = 1 := by
  obtain ⟨m, n, f, S, g, pl, sp, ps, x, rfl, _⟩ := h
  rfl
theorem sc_whole_body : FnScope ["gathering", "body", "piece"] ["gathering"] (defScope s_whole_body) := ⟨rfl, rfl, rfl, by decide +kernel, rfl, by decide +kernel, by decide +kernel⟩
theorem okF_whole_body (T : Txt K mg base) {fd : FuncData} (F : FunD K d_whole_body.name d_whole_body.qual d_whole_body.params d_whole_body.body d_whole_body.scope [] [] (He.fAd K d_whole_body.at_) fd) : FnOk P w K mg base CX0 4 (He.ga K "whole_body") fd ["gathering"] (sp_whole_body K) := by
  refine okC F sc_whole_body (fun vs H Q E h => len_whole_body h) (fun Ar outer s H vs Q E hr h => ?_)
  refine ⟨_, PSs.nox (pss_cons (ps_set (i := 1) sc_whole_body.nd rfl (Or.inl rfl) (pe_lst pa_nil))
      (pss_cons (ps_for PassesOwn.never rfl (pi_list (pe_sortLam (y := "one") (by rfl) T.f_sorted T.tb rfl (hr.mono (by decide)) rfl (pa_cons (pe_fld (pv 0) rfl) pa_nil) T.cl_Piece T.n_Piece_start ⟨rfl, rfl, rfl, by decide +kernel, rfl, by decide +kernel, by decide +kernel⟩ (fun _ => rfl) rfl (fun _ _ _ _ _ => rfl))) (pg_name (i := 2) sc_whole_body.nd rfl (Or.inl rfl)) (pss_one (ps_expr (pe_bm PySem.F.plainAttrs_list PySem.F.slot_list_extend PySem.F.type_list_extend mt_extend (pv 1) (pa_cons (pe_fld (pv 2) rfl) pa_nil)))))
      (pss_one (ps_ret (pv 1))))), ?_⟩
  obtain ⟨m, n, f, S, g, pl, sp, ps, x, rfl, M, ⟨⟨dx, t, o⟩, vs, o2, pp⟩, px, hsum, q⟩ := h
  obtain ⟨as, rfl, rfl, hall⟩ := pcs_addrs pp
  refine sq_setEL (xs := []) (el_lst (vs := []) ea_nil (by show 0 ≤ 100000; decide)) fun bd HA nb eA kA => ?_
  have tb := M.tbe
  refine q_forE (K := K) (R := fun p xs HC => ∃ bs : List Addr, xs = bs.map V.ref ∧ LamX.ExtN H HC ∧ LamX.TabS HC f.tb qW ∧ HC bd = some (.lst []) ∧ p ≠ bd ∧ bs.Perm as ∧ bs.Pairwise (fun a b => (pkOf K H S a).place ≤ (pkOf K H S b).place) ∧ ∀ z, bs.filter (fun a => (pkOf K H S a).place == z) = as.filter (fun a => (pkOf K H S a).place == z)) (fun Q k => ?_) fun p xs HC hp hR => ?_
  · refine (ev_fld (ev_var (i := 0) rfl) (eA _ _ o) T.cl_Gathering T.n_Gathering_pieces F_Gathering_pieces) HA (Ex.refl HA) _ fun HB eB => ?_
    have eAB := eA.trans eB
    refine ⟨pl, as, fun a => ((8 * (pkOf K H S a).place : Nat) : Int), rfl, sq_of (eAB _ _ o2), fun a ha => ?_, ?_, fun H2 p bs en ts np pm pw fl => ?_⟩
    · obtain ⟨a', dx', h', b', ea, _, _, _, oa, _⟩ := hall a ha
      obtain rfl := V.ref.inj ea
      exact ⟨dx', _, eAB _ _ oa, F_Piece_start⟩
    · rw [← tb]
      exact M.tab.ext eAB
    · have hbd := en _ _ (eB _ _ kA) fun _ z => nomatch z
      have pb : p ≠ bd := fun z => by
        rw [z, hbd] at np
        cases np
      refine k p (bs.map V.ref) _ upd_same ⟨bs, rfl, ?_, ?_, ?_, pb, pm, ?_, ?_⟩
      · exact ((LamX.ExtN.of eAB).trans en).trans (.of (Ex.new np))
      · rw [tb]
        exact ts.ext (Ex.new np)
      · rw [upd_ne pb.symm]
        exact hbd
      · exact pw.imp fun {a b} h => by
          have h2 : ((8 * (pkOf K H S a).place : Nat) : Int) ≤ ((8 * (pkOf K H S b).place : Nat) : Int) := h
          omega
      · intro z
        have := fl ((8 * z : Nat) : Int)
        have e : ∀ l : List Addr, l.filter (fun a => (pkOf K H S a).place == z) = l.filter (fun a => ((8 * (pkOf K H S a).place : Nat) : Int) == ((8 * z : Nat) : Int)) := fun l => by
          apply List.filter_congr
          intro a _
          rw [Bool.eq_iff_iff, beq_iff_eq, beq_iff_eq]
          omega
        rw [e, e]
        exact this
  · obtain ⟨bs, rfl, en, ts, hbd, pb, pm, pw, fl⟩ := hR
    have hbody : ((bs.map (pkOf K H S)).map fun p => p.body).flatten = x.body := by
      refine body_sorted px ?_ fun z => ?_
      · rw [List.pairwise_map]
        exact pw
      · rw [List.filter_map, List.filter_map]
        exact congrArg (List.map (pkOf K H S)) (fl z)
    have hsum2 : ((bs.map (pkOf K H S)).map fun p => p.body.length).sum ≤ 65515 := by
      rw [((pm.map (pkOf K H S)).map fun p => p.body.length).sum_nat]
      exact hsum
    have hblen : x.body.length ≤ 65515 := by
      rw [← hbody, List.length_flatten, List.map_map]
      exact hsum2
    refine ⟨fun i σ' H' => ∃ v : Option V, σ' = [some (.ref g), some (.ref bd), v] ∧ ExB bd HC H' ∧ H' bd = some (.lst (bv (((bs.map (pkOf K H S)).take i).map fun p => p.body).flatten)), ⟨none, rfl, .of (Ex.refl HC), hbd⟩, fun i σ' H' _ z => ?_, fun i y σ' H' hy z => ?_, fun σ' H' z => ?_⟩
    · obtain ⟨_, _, e, _⟩ := z
      exact sq_of (e _ _ hp pb)
    · obtain ⟨v, rfl, e, hb⟩ := z
      rw [List.getElem?_map] at hy
      cases hbi : bs[i]? with
      | none =>
        rw [hbi] at hy
        cases hy
      | some a =>
        rw [hbi] at hy
        obtain rfl : V.ref a = y := Option.some.inj hy
        have ha : a ∈ as := pm.mem_iff.mp (List.mem_of_getElem? hbi)
        have y0 := hall a ha
        have enH : LamX.ExtN H H' := fun b o hb2 ht => e b o (en b o hb2 ht) (ne_of_none hb2 nb)
        have y1 : PieceV K H' S (.ref a) (pkOf K H S a) := y0.keep (extN_keep enH) same_sub
        have tk : (bs.map (pkOf K H S)).take (i + 1) = (bs.map (pkOf K H S)).take i ++ [pkOf K H S a] := by
          rw [List.take_add_one, List.getElem?_map, hbi]
          rfl
        refine s_ext (K := K) hb (ev_var (i := 1) rfl) (fp_body T (i := 2) rfl y1) ?_ fun H2 e2 => ⟨_, rfl, (e.trans (ExB.of e2)).trans .upd, ?_⟩
        · have := flat_le (bs.map (pkOf K H S)) (i + 1)
          rw [tk, List.map_append, List.flatten_append, List.length_append] at this
          rw [bv_len, bv_len]
          refine line_le ?_
          simp only [List.map_cons, List.map_nil, List.flatten_cons, List.flatten_nil, List.append_nil] at this
          omega
        · rw [upd_same, tk, List.map_append, List.flatten_append, bv_app]
          simp
    · obtain ⟨v, rfl, e, hb⟩ := z
      rw [List.length_map, List.take_of_length_le (by rw [List.length_map]; exact Nat.le_refl _), hbody] at hb
      have enH : LamX.ExtN H H' := fun b o hb2 ht => e b o (en b o hb2 ht) (ne_of_none hb2 nb)
      have ts2 : LamX.TabS H' f.tb qW := tabS_exB ts e (fun z => by
        obtain ⟨u, hu, _⟩ := ts
        rw [z, hbd] at hu
        cases hu) (fun c z => by
        rw [hbd] at z
        exact codeO_lst (Option.some.inj z))
      refine ret_ev (ev_var (i := 1) rfl) fun H2 e2 => q bd H2 ((M.extN enH ts2).then e2) (enH.trans (.of e2)) hblen nb (e2 _ _ hb)
theorem ok_whole_body (T : Txt K mg base) : DefOk P w K mg base 4 (He.ga K "whole_body") ["gathering"] (sp_whole_body K) := by
  obtain ⟨fd, F⟩ := T.fd_whole_body
  exact ⟨fd, okF_whole_body T F, F.bindsN fun _ _ _ _ _ _ us hl => match us, hl with | [_], _ => rfl, F.kp⟩
end
end Lp
set_option maxHeartbeats 400000000
namespace Lp
open PySem PySem.Spec PyProof.Rows L2 Evl
theorem moreOf_flag (a b : Bool) : moreOf (a.toNat + 2 * b.toNat) = a := by cases a <;> cases b <;> decide
/-! ### how many pieces there may be -/
theorem cov_le' {ps : List Sv62.Packet} (hp : ps.Pairwise fun a b => overB a b = false) : ∀ h : Nat, cov h ps ≤ h
  | 0 => by
    have : cov 0 ps = 0 := by
      unfold cov
      have e : (ps.map fun p => min 0 (endOf p) - 8 * p.place) = ps.map fun _ => 0 := by
        apply List.map_congr_left
        intro p _
        omega
      rw [e]
      clear e hp
      induction ps with
      | nil => rfl
      | cons a r ih => rw [List.map_cons, List.sum_cons, ih]
    omega
  | h + 1 => by
    have h1 := cov_le' hp h
    have h2 := cov_step (h := h) hp
    have h3 : (if (ps.any fun p => decide (8 * p.place ≤ h) && decide (h < endOf p)) = true then 1 else 0) ≤ 1 := by
      split <;> omega
    omega
theorem eights {ps : List Sv62.Packet} (h : ∀ p ∈ ps, p.more = true → 8 ≤ p.body.length) : 8 * ps.length ≤ (ps.map fun p => p.body.length).sum + 8 * (ps.filter fun p => !p.more).length := by
  induction ps with
  | nil => simp
  | cons a r ih =>
    have ih := ih fun p hp => h p (List.mem_cons_of_mem _ hp)
    have ha := h a List.mem_cons_self
    rw [List.map_cons, List.sum_cons, List.length_cons]
    cases hm : a.more with
    | true =>
      have := ha hm
      rw [List.filter_cons_of_neg (by rw [hm]; decide)]
      omega
    | false =>
      rw [List.filter_cons_of_pos (by rw [hm]; rfl), List.length_cons]
      omega
theorem PartIs.few {x : Sv62.Part} {ps : List Sv62.Packet} (h : PartIs x ps) : ps.length ≤ 8190 := by
  have h1 := cov_le' h.apart 65515
  rw [cov_all fun p hp => by
    have := (h.ok p hp).pk.place
    unfold endOf
    omega] at h1
  have h2 := eights (ps := ps) fun p hp hm => by
    have := (h.ok p hp).pk.more hm
    omega
  have h3 := h.one
  omega
/-! ### what comes of a packet that is for the machine -/
def wholeRes (k what : Nat) (head body : Sv62.Bytes) : List Int := if what = 1 ∧ Sv62.errorFine body = false then [5] else 1 :: Sv62Neutral.wanted (.up k head body)
def spoiledOf (x : Sv62.Part) : Sv62.Part := { x with spoiled := true, got := [], ends := none, first := none }
theorem spoiled_is (x : Sv62.Part) : PartIs (spoiledOf x) [] := ⟨rfl, rfl, rfl, by simp, fun _ => rfl, fun _ h => (nomatch h), fun _ h => (nomatch h), .nil, fun _ h => (nomatch h)⟩
def pieceRes (n : Sv62.Net) (k : Nat) (p : Sv62.Packet) : Sv62.Net × List Int := match (begun n p).partOf p with
  | none => (n, [5])
  | some x => if x.spoiled = true then (begun n p, [5]) else match x.put p with
    | .same => (begun n p, [3])
    | .spoils => ((begun n p).setPart p (spoiledOf x), [5])
    | .on y => if y.whole = false then ((begun n p).setPart p y, [3]) else match y.first with
      | some f => ((begun n p).without p, wholeRes k p.what f.head y.body)
      | none => ((begun n p).setPart p y, [3])
theorem set_same {gs : List (Addr × Addr)} {i : Nat} {g : Addr × Addr} (h : gs[i]? = some g) : gs.set i (g.1, g.2) = gs := by
  obtain ⟨h1, h2⟩ := List.getElem?_eq_some_iff.mp h
  show gs.set i g = gs
  rw [← h2]
  exact List.set_getElem_self _
theorem fld_of {K : PySem.W.Frag} {ta : TE} {f : Str} {σ : L2.St} {H : Hp} {Q : VK} (h : ta σ H fun x H1 => ∃ a C dx fs v, x = .ref a ∧ H1 a = some (.ins C dx fs) ∧ Cls K C ∧ NoAttr K C f ∧ fs.lookup f = some v ∧ Q v H1) : tFld K ta f σ H Q := h
section
variable {P : Program} {w : World} {K : PySem.W.Frag} {mg : Str → Option Value} {base : Heap}
def sp_take_whole (K : PySem.W.Frag) : Sp := fun vs H Q _ => ∃ (k : Nat) (p : Addr) (h : Hd) (d : Addr) (b : Sv62.Bytes), vs = [.int (k : Int), .ref p, .ref d] ∧ HeadAt K H p h ∧ HdSm h ∧ H d = some (.lst (bv b)) ∧ b.length ≤ 65515 ∧ RetL ((wholeRes k h.what h.bytes b).map V.int) H Q
theorem len_take_whole {vs : List V} {H : Hp} {Q : VK} {E : XK} (h : sp_take_whole K vs H Q E) : vs.length = 3 := by
  obtain ⟨k, p, h, d, b, rfl, _⟩ := h
  rfl
theorem sc_take_whole : FnScope ["link", "head", "body"] ["link", "head", "body"] (defScope s_take_whole) := ⟨rfl, rfl, rfl, by decide +kernel, rfl, by decide +kernel, by decide +kernel⟩
theorem okF_take_whole (T : Txt K mg base) {fd : FuncData} (F : FunD K d_take_whole.name d_take_whole.qual d_take_whole.params d_take_whole.body d_take_whole.scope [] [] (He.fAd K d_take_whole.at_) fd) : FnOk P w K mg base CX0 4 (He.ga K "take_whole") fd ["link", "head", "body"] (sp_take_whole K) := by
  obtain ⟨fd_told_upward, G_told_upward, b_told_upward, k_told_upward⟩ := ok_told_upward (P := P) (w := w) (base := base) T
  obtain ⟨fd_is_right_error, G_is_right_error, b_is_right_error, k_is_right_error⟩ := ok_is_right_error (P := P) (w := w) (base := base) T
  refine F.ok sc_take_whole (fun vs H Q E h => len_take_whole h) (fun cdv Ar outer s H vs Q E hr h => ?_)
  refine ⟨_, PSs.nox (pss_cons (ps_if (PW.pt (pw_and (pt_cmpR op_eq (pe_fld (pv 1) rfl) (pe_gi rfl T.c_ERROR_heads) (nomark _)) (pw_and1 (pt_not (pt_val (pe_call G_is_right_error (hr.mono (by decide)) rfl T.g_is_right_error k_is_right_error b_is_right_error .nil pass0 (pa_cons (pv 2) pa_nil))))))) (pss_one (ps_ret (pe_lst (pa_cons (pe_gi rfl T.c_DROPPED) pa_nil)))) pss_nil)
      (pss_one (ps_ret (pe_op op_cat (pe_lst (pa_cons (pe_gi rfl T.c_TOLD_UPWARD) pa_nil)) (pe_call G_told_upward (hr.mono (by decide)) rfl T.g_told_upward k_told_upward b_told_upward .nil pass0 (pa_cons (pv 0) (pa_cons (pv 1) (pa_cons (pv 2) pa_nil)))))))), ?_⟩
  obtain ⟨k, a, hd, d, b, rfl, hA, hs, hb, hl, q⟩ := h
  refine sq_if (b := (hd.what == 1) && !Sv62.errorFine b) (et_and (et_is (et_test (ev_op (fl_what T rfl hA) ev_c (rv_eq rfl))) (nat_eq_val hd.what 1)) fun _ => et_not (et_B (ev_call (ea_cons (ev_var rfl) ea_nil) fun H1 e1 Q1 q1 _ => ⟨d, b, rfl, e1 _ _ hb, by omega, q1⟩))) (fun hc H1 e1 => ?_) (fun hc H1 e1 => ?_)
  · rw [Bool.and_eq_true, beq_iff_eq, Bool.not_eq_true'] at hc
    refine ret_el (el_lst (ea_cons ev_c ea_nil) (by show 1 ≤ 100000; decide)) fun p H2 np e2 h2 => q p H2 (fresh_back e1 np) (e1.trans e2) ?_
    unfold wholeRes
    rw [if_pos hc]
    exact h2
  · have hc2 : ¬ (hd.what = 1 ∧ Sv62.errorFine b = false) := by
      rw [← beq_iff_eq, ← Bool.not_eq_true', ← Bool.and_eq_true, hc]
      decide
    refine ret_el (el_cat (es_el (el_lst (ea_cons (ev_c (v := V.int 1)) ea_nil) (by show 1 ≤ 100000; decide))) (es_el (el_call (E := E0) (ea_cons (ev_var (i := 0) rfl) (ea_cons (ev_var (i := 1) rfl) (ea_cons (ev_var (i := 2) rfl) ea_nil))) fun H2 e2 Q2 q2 _ => ⟨k, a, hd, d, b, rfl, hA.ex (e1.trans e2), hs, (e1.trans e2) _ _ hb, by omega, q2⟩)) ?_) fun p H2 np e2 h2 => q p H2 (fresh_back e1 np) (e1.trans e2) ?_
    · rw [List.length_map, up_len, bytes_len]
      exact line_le (by show 1 + (3 + 20 + b.length) ≤ _; omega)
    · unfold wholeRes
      rw [if_neg hc2]
      exact h2
theorem ok_take_whole (T : Txt K mg base) : DefOk P w K mg base 4 (He.ga K "take_whole") ["link", "head", "body"] (sp_take_whole K) := by
  obtain ⟨fd, F⟩ := T.fd_take_whole
  exact ⟨fd, okF_take_whole T F, F.bindsN fun _ _ _ _ _ _ us hl => match us, hl with | [_, _, _], _ => rfl, F.kp⟩
def sp_take_piece (K : PySem.W.Frag) : Sp := fun vs H Q _ => ∃ (m : Addr) (n : Sv62.Net) (f : Foot) (k : Nat) (v : V) (p : Sv62.Packet), vs = [.ref m, .int (k : Int), v] ∧ MachAt K H m n f ∧ PieceV K H (f.all m) v p ∧ PcOk p ∧
  ∀ r H', Done K H m f (pieceRes n k p).1 (pieceRes n k p).2 r H' → Q (.ref r) H'
theorem len_take_piece {vs : List V} {H : Hp} {Q : VK} {E : XK} (h : sp_take_piece K vs H Q E) : vs.length = 3 := by
  obtain ⟨m, n, f, k, v, p, rfl, _⟩ := h
  rfl
theorem sc_take_piece : FnScope ["machine", "link", "piece", "gathering"] ["machine", "link", "piece"] (defScope s_take_piece) := ⟨rfl, rfl, rfl, by decide +kernel, rfl, by decide +kernel, by decide +kernel⟩
theorem okF_take_piece (T : Txt K mg base) {fd : FuncData} (F : FunD K d_take_piece.name d_take_piece.qual d_take_piece.params d_take_piece.body d_take_piece.scope [] [] (He.fAd K d_take_piece.at_) fd) : FnOk P w K mg base CX0 5 (He.ga K "take_piece") fd ["machine", "link", "piece"] (sp_take_piece K) := by
  obtain ⟨fd_take_whole, G_take_whole, b_take_whole, k_take_whole⟩ := ok_take_whole (P := P) (w := w) (base := base) T
  obtain ⟨fd_whole_body, G_whole_body, b_whole_body, k_whole_body⟩ := ok_whole_body (P := P) (w := w) (base := base) T
  obtain ⟨fd_first_piece, G_first_piece, b_first_piece, k_first_piece⟩ := ok_first_piece (P := P) (w := w) (base := base) T
  obtain ⟨fd_end_gathering, G_end_gathering, b_end_gathering, k_end_gathering⟩ := ok_end_gathering (P := P) (w := w) (base := base) T
  obtain ⟨fd_is_all_there, G_is_all_there, b_is_all_there, k_is_all_there⟩ := ok_is_all_there (P := P) (w := w) (base := base) T
  obtain ⟨fd_is_spoiled_by, G_is_spoiled_by, b_is_spoiled_by, k_is_spoiled_by⟩ := ok_is_spoiled_by (P := P) (w := w) (base := base) T
  obtain ⟨fd_spoil, G_spoil, b_spoil, k_spoil⟩ := ok_spoil (P := P) (w := w) (base := base) T
  obtain ⟨fd_is_there, G_is_there, b_is_there, k_is_there⟩ := ok_is_there (P := P) (w := w) (base := base) T
  obtain ⟨fd_gathering_for, G_gathering_for, b_gathering_for, k_gathering_for⟩ := ok_gathering_for (P := P) (w := w) (base := base) T
  refine F.ok sc_take_piece (fun vs H Q E h => len_take_piece h) (fun cdv Ar outer s H vs Q E hr h => ?_)
  refine ⟨_, PSs.nox (pss_cons (ps_set (i := 3) sc_take_piece.nd rfl (Or.inl rfl) (pe_call G_gathering_for (hr.mono (by decide)) rfl T.g_gathering_for k_gathering_for b_gathering_for .nil pass0 (pa_cons (pv 0) (pa_cons (pe_fld (pv 2) rfl) pa_nil))))
      (pss_cons (ps_if (pt_val (pe_fld (pv 3) rfl)) (pss_one (ps_ret (pe_lst (pa_cons (pe_gi rfl T.c_DROPPED) pa_nil)))) pss_nil)
      (pss_cons (ps_if (pt_val (pe_call G_is_there (hr.mono (by decide)) rfl T.g_is_there k_is_there b_is_there .nil pass0 (pa_cons (pv 3) (pa_cons (pv 2) pa_nil)))) (pss_one (ps_ret (pe_lst (pa_cons (pe_gi rfl T.c_KEPT) pa_nil)))) pss_nil)
      (pss_cons (ps_if (pt_val (pe_call G_is_spoiled_by (hr.mono (by decide)) rfl T.g_is_spoiled_by k_is_spoiled_by b_is_spoiled_by .nil pass0 (pa_cons (pv 3) (pa_cons (pv 2) pa_nil)))) (pss_cons (ps_expr (pe_call G_spoil (hr.mono (by decide)) rfl T.g_spoil k_spoil b_spoil .nil pass0 (pa_cons (pv 3) pa_nil)))
      (pss_one (ps_ret (pe_lst (pa_cons (pe_gi rfl T.c_DROPPED) pa_nil))))) pss_nil)
      (pss_cons (ps_expr (pe_bm PySem.F.plainAttrs_list PySem.F.slot_list_append PySem.F.type_list_append mt_append (pe_fld (pv 3) rfl) (pa_cons (pv 2) pa_nil)))
      (pss_cons (ps_if (pt_not (pt_val (pe_call G_is_all_there (hr.mono (by decide)) rfl T.g_is_all_there k_is_all_there b_is_all_there .nil pass0 (pa_cons (pv 3) pa_nil)))) (pss_one (ps_ret (pe_lst (pa_cons (pe_gi rfl T.c_KEPT) pa_nil)))) pss_nil)
      (pss_cons (ps_expr (pe_call G_end_gathering (hr.mono (by decide)) rfl T.g_end_gathering k_end_gathering b_end_gathering .nil pass0 (pa_cons (pv 0) (pa_cons (pe_fld (pv 2) rfl) pa_nil))))
      (pss_one (ps_ret (pe_call G_take_whole (hr.mono (by decide)) rfl T.g_take_whole k_take_whole b_take_whole .nil pass0 (pa_cons (pv 1) (pa_cons (pe_fld (pe_call G_first_piece (hr.mono (by decide)) rfl T.g_first_piece k_first_piece b_first_piece .nil pass0 (pa_cons (pv 3) pa_nil)) rfl) (pa_cons (pe_call G_whole_body (hr.mono (by decide)) rfl T.g_whole_body k_whole_body b_whole_body .nil pass0 (pa_cons (pv 3) pa_nil)) pa_nil))))))))))))), ?_⟩
  obtain ⟨m, n, f, k, v, p, rfl, M, y, hp, q⟩ := h
  obtain ⟨pa, pdx, hh, hb, ev, n1, n2, n3, oa, hA, ob⟩ := id y
  subst ev
  refine sq_setX (x_call (R := fun z H' => ∃ (f' : Foot) (i : Nat) (g : Addr × Addr) (x : Sv62.Part), z = .ref g.1 ∧ Moved K H m f (begun n p) H' f' ∧ (begun n p).parts[i]? = some x ∧ f'.gs[i]? = some g ∧ x.of p = true) (ea_cons (ev_var (i := 0) rfl) (ea_cons (ev_fld (ev_var (i := 2) rfl) oa T.cl_Piece T.n_Piece_head F_Piece_head) ea_nil)) fun H1 e1 Q1 E1 q1 => ⟨m, n, f, hh, p, _, rfl, M.ex e1, hA.ex e1, fun f' i g x H' mv h1 h2 h3 => q1 _ _ ⟨f', i, g, x, rfl, mv.after e1, h1, h2, h3⟩⟩) ?_
  rintro _ H1 ⟨f', i, g, x, rfl, mv, hi, hg, hx⟩
  have M1 := mv.at_
  obtain ⟨g', hg', dxg, vs, ps, o1, o2, pp, px⟩ := pr_get M1.gat hi
  obtain rfl : g' = g := Option.some.inj (hg'.symm.trans hg)
  have y1 : PieceV K H1 (f'.all m) (.ref pa) p := y.keep mv.keep mv.sub
  have po : (begun n p).partOf p = some x := at_find M1.gp.nd hi hx
  have eR : pieceRes n k p = if x.spoiled = true then (begun n p, [5]) else match x.put p with
      | .same => (begun n p, [3])
      | .spoils => ((begun n p).setPart p (spoiledOf x), [5])
      | .on y => if y.whole = false then ((begun n p).setPart p y, [3]) else match y.first with
        | some f => ((begun n p).without p, wholeRes k p.what f.head y.body)
        | none => ((begun n p).setPart p y, [3]) := by
    unfold pieceRes
    simp only [po]
  rw [eR, put_eq px] at q
  have few := px.few
  have hgm : g' ∈ f'.gs := List.mem_of_getElem? hg
  have g12 : g'.1 ≠ g'.2 := ne_of o1 o2 fun z => nomatch z
  have gob : ∀ {Hx : Hp}, Ex H1 Hx → GObj K Hx (f'.all m) g'.1 g'.2 x.spoiled ps := fun {Hx} e => ⟨⟨dxg, _, e _ _ o1⟩, vs, e _ _ o2, pr_map (fun _ _ z => z.ex e) pp⟩
  refine sq_if (b := x.spoiled) (et_B (ev_fld (ev_var (i := 3) rfl) o1 T.cl_Gathering T.n_Gathering_spoiled F_Gathering_spoiled)) (fun hc H2 e2 => ?_) (fun hc H2 e2 => ?_)
  · rw [if_pos hc] at q
    exact ret_el (el_lst (ea_cons ev_c ea_nil) (by show 1 ≤ 100000; decide)) fun r H3 nr e3 h3 => q r H3 ((mv.then e2).done e3 nr h3)
  · rw [if_neg (by rw [hc]; decide)] at q
    refine sq_if (b := ps.any (sameB p)) (et_B (ev_call (ea_cons (ev_var (i := 3) rfl) (ea_cons (ev_var (i := 2) rfl) ea_nil)) fun H3 e3 Q3 q3 _ => ⟨_, _, g'.1, g'.2, x.spoiled, ps, .ref pa, p, rfl, gob (e2.trans e3), by omega, y1.ex (e2.trans e3), q3⟩)) (fun hs H3 e3 => ?_) (fun hs H3 e3 => ?_)
    · rw [if_pos hs] at q
      exact ret_el (el_lst (ea_cons ev_c ea_nil) (by show 1 ≤ 100000; decide)) fun r H4 nr e4 h4 => q r H4 ((mv.then (e2.trans e3)).done e4 nr h4)
    · rw [if_neg (by rw [hs]; decide)] at q
      have e13 := e2.trans e3
      refine sq_if (b := ps.any (spoilB p)) (et_B (ev_call (ea_cons (ev_var (i := 3) rfl) (ea_cons (ev_var (i := 2) rfl) ea_nil)) fun H4 e4 Q4 q4 _ => ⟨_, _, g'.1, g'.2, x.spoiled, ps, .ref pa, p, rfl, gob (e13.trans e4), by omega, y1.ex (e13.trans e4), q4⟩)) (fun ht H4 e4 => ?_) (fun ht H4 e4 => ?_)
      · rw [if_pos ht] at q
        have e14 := e13.trans e4
        have M4 := M1.ex e14
        refine sq_dropX (x_call (R := fun z H' => ∃ pl, H4 pl = none ∧ H' g'.1 = some (.ins (He.ga K "Gathering") dxg (F_Gathering (.int x.since) (.bl true) (.ref pl))) ∧ H' pl = some (.lst []) ∧ ExB g'.1 H4 H') (ea_cons (ev_var (i := 3) rfl) ea_nil) fun H5 e5 Q5 E5 q5 => ⟨g'.1, dxg, _, _, _, rfl, e5 _ _ (e14 _ _ o1), fun H' pl np h1 h2 hk => q5 _ _ ⟨pl, fresh_back e5 np, h1, h2, (ExB.of e5).trans hk⟩⟩) ?_
        rintro _ H5 ⟨pl, np, h1, h2, hk⟩
        have mv2 := M4.setGa (H' := H5) (pl := pl) (x' := spoiledOf x) hg hi rfl (.inr np) (fun b o hb c1 _ => hk b o hb c1) ⟨dxg, [], [], h1, h2, .nil, spoiled_is x⟩
        have es : (begun n p).setPart p (spoiledOf x) = { begun n p with parts := (begun n p).parts.set i (spoiledOf x) } := by
          unfold Sv62.Net.setPart
          rw [at_set M1.gp.nd hi hx]
        rw [es] at q
        exact ret_el (el_lst (ea_cons ev_c ea_nil) (by show 1 ≤ 100000; decide)) fun r H6 nr e6 h6 => q r H6 (((mv.then e14).trans mv2).done e6 nr h6)
      · rw [if_neg (by rw [ht]; decide)] at q
        have e14 := e13.trans e4
        have M4 := M1.ex e14
        have y4 := y1.ex e14
        have px2 := put_is px hx hc hp ht
        refine q_app (K := K) (e14 _ _ o2) (ev_fld (ev_var (i := 3) rfl) (e14 _ _ o1) T.cl_Gathering T.n_Gathering_pieces F_Gathering_pieces) (ev_var (i := 2) rfl) (by rw [pp.length]; omega) fun H5 e5 => ?_
        have M5 := M4.ex e5
        have e15 := e14.trans e5
        have k5 : Keep H5 (upd H5 g'.2 (.lst (vs ++ [.ref pa]))) (f'.all m) := Keep.upd (mem_two hgm)
        have fs : ({ f' with gs := f'.gs.set i (g'.1, g'.2) } : Foot) = f' := by rw [set_same hg]
        have mv2 := M5.setGa (H' := upd H5 g'.2 (.lst (vs ++ [.ref pa]))) (pl := g'.2) (x' := addTo x p) hg hi rfl (.inl rfl) (fun b o hb _ c2 => by rw [upd_ne c2]; exact hb) ⟨dxg, vs ++ [.ref pa], ps ++ [p], by rw [upd_ne g12]; exact e15 _ _ o1, upd_same, by
          rw [fs]
          exact pr_snoc ((y4.ex e5).keep k5 same_sub) (pr_map (fun _ _ z => (z.ex e15).keep k5 same_sub) pp), px2⟩
        rw [fs] at mv2
        generalize hH6 : upd H5 g'.2 (.lst (vs ++ [.ref pa])) = H6 at mv2
        have o16 : H6 g'.1 = some (.ins (He.ga K "Gathering") dxg (F_Gathering (.int x.since) (.bl x.spoiled) (.ref g'.2))) := by
          rw [← hH6, upd_ne g12]
          exact e15 _ _ o1
        have o26 : H6 g'.2 = some (.lst (vs ++ [.ref pa])) := by
          rw [← hH6]
          exact upd_same
        have pp6 : Paired (PieceV K H6 (f'.all m)) (vs ++ [.ref pa]) (ps ++ [p]) := by
          rw [← hH6]
          exact pr_snoc ((y4.ex e5).keep k5 same_sub) (pr_map (fun _ _ z => (z.ex e15).keep k5 same_sub) pp)
        have gob6 : ∀ {Hx : Hp}, Ex H6 Hx → GObj K Hx (f'.all m) g'.1 g'.2 x.spoiled (ps ++ [p]) := fun {Hx} e => ⟨⟨dxg, _, e _ _ o16⟩, _, e _ _ o26, pr_map (fun _ _ z => z.ex e) pp6⟩
        have few2 := px2.few
        have es : (begun n p).setPart p (addTo x p) = { begun n p with parts := (begun n p).parts.set i (addTo x p) } := by
          unfold Sv62.Net.setPart
          rw [at_set M1.gp.nd hi hx]
        have mv6 : Moved K H m f ((begun n p).setPart p (addTo x p)) H6 f' := by
          rw [es]
          exact (mv.then e15).trans mv2
        dsimp only at q
        refine sq_if (b := !(addTo x p).whole) (et_not (et_is (et_B (ev_call (ea_cons (ev_var (i := 3) rfl) ea_nil) fun H7 e7 Q7 q7 _ => ⟨_, g'.1, g'.2, x.spoiled, ps ++ [p], rfl, gob6 e7, by omega, q7⟩)) (whole_iff px2).symm)) (fun hw H7 e7 => ?_) (fun hw H7 e7 => ?_)
        · rw [Bool.not_eq_true'] at hw
          rw [if_pos hw] at q
          exact ret_el (el_lst (ea_cons ev_c ea_nil) (by show 1 ≤ 100000; decide)) fun r H8 nr e8 h8 => q r H8 ((mv6.then e7).done e8 nr h8)
        · rw [Bool.not_eq_false'] at hw
          rw [if_neg (by rw [hw]; decide)] at q
          obtain ⟨p0, hp0, hf0, hz0⟩ := whole_first px2 hw
          rw [hf0] at q
          dsimp only at q
          have y6 : PieceV K H6 (f'.all m) (.ref pa) p := by
            rw [← hH6]
            exact (y4.ex e5).keep k5 same_sub
          have mv7 := mv6.then e7
          have M7 := mv7.at_
          obtain ⟨pa', pdx', hh', hb', ev', _, _, _, oa7, hA7, _⟩ := y6.ex e7
          obtain rfl := V.ref.inj ev'
          have hi2 : ((begun n p).setPart p (addTo x p)).parts[i]? = some (addTo x p) := by
            rw [es]
            show ((begun n p).parts.set i (addTo x p))[i]? = _
            rw [List.getElem?_set_self (List.getElem?_eq_some_iff.mp hi).1]
          have hx2 : (addTo x p).of p = true := hx
          refine sq_dropX (x_call (R := fun z H' => Moved K H7 m f' (((begun n p).setPart p (addTo x p)).without p) H' { f' with gs := f'.gs.eraseIdx i } ∧ ExB f'.ga H7 H') (ea_cons (ev_var (i := 0) rfl) (ea_cons (ev_fld (ev_var (i := 2) rfl) oa7 T.cl_Piece T.n_Piece_head F_Piece_head) ea_nil)) fun H8 e8 Q8 E8 q8 => ⟨m, _, f', hh', p, _, i, addTo x p, rfl, M7.ex e8, hA7.ex e8, hi2, hx2, fun H' mv' ex' => q8 _ _ ⟨mv'.after e8, (ExB.of e8).trans ex'⟩⟩) ?_
          rintro _ H8 ⟨mv8, x8⟩
          have N := footNe M7.nd
          have gob8 : ∀ {Hx : Hp}, Ex H8 Hx → GObj K Hx (f'.all m) g'.1 g'.2 x.spoiled (ps ++ [p]) := fun {Hx} e => ⟨⟨dxg, _, e _ _ (x8 _ _ (e7 _ _ o16) (N.one g' hgm).2.2.2.1.symm)⟩, _, e _ _ (x8 _ _ (e7 _ _ o26) (N.two g' hgm).2.2.2.1.symm), pr_map (fun _ _ z => ((z.ex e7).keep mv8.keep same_sub).ex e) pp6⟩
          refine ret_of (call_of (cons_of (ev_go (v := V.int (k : Int)) (ev_var (i := 1) rfl) fun H9 e9 => cons_of (fld_of (call_of (cons_of (ev_go (v := V.ref g'.1) (ev_var (i := 3) rfl) fun Ha ea => nil_of ⟨f'.all m, g'.1, g'.2, x.spoiled, ps ++ [p], rfl, gob8 (e9.trans ea), fun hn => ?_, fun p1 hp1 v1 Hb eb z1 => ?_⟩)))))))
          · rw [← px2.first, hf0] at hn
            cases hn
          rw [← px2.first, hf0] at hp1
          obtain rfl := Option.some.inj hp1
          obtain ⟨a1, dx1, h1, b1, rfl, _, nh1, _, oa1, hA1, ob1⟩ := z1
          refine ⟨a1, _, dx1, _, .ref h1, rfl, oa1, T.cl_Piece, T.n_Piece_head, F_Piece_head, ?_⟩
          refine cons_of (call_of (cons_of (ev_go (v := V.ref g'.1) (ev_var (i := 3) rfl) fun Hc ec => nil_of ⟨m, _, _, f'.all m, g'.1, g'.2, x.spoiled, ps ++ [p], addTo x p, rfl, mv8.at_.ex (((e9.trans ea).trans eb).trans ec), gob8 (((e9.trans ea).trans eb).trans ec), px2, body_bound px2 hw, fun r Hd mvd en hbl nr kr => nil_of ?_⟩)))
          have pk0 := (px2.ok p0 hp0).pk
          have hwt : p0.what = p.what := by
            have h1 := of_iff.mp (px2.key p0 hp0)
            have h2 := of_iff.mp hx2
            have h3 := h1.symm.trans h2
            simp only [pkP, List.cons.injEq, Sum.inl.injEq, Int.natCast_inj, and_true] at h3
            exact h3.2.2.1
          refine ⟨k, h1, _, r, _, rfl, (hA1.ex ec).keep (S := []) (extN_keep en) (by simp), ⟨Nat.lt_of_le_of_lt pk0.hops.2 (by decide), Nat.lt_of_le_of_lt pk0.what.2 (by decide), flag_lt _ _⟩, kr, hbl, fun r2 He nr2 ee k2 => ?_⟩
          have hwo : ((begun n p).setPart p (addTo x p)).without p = (begun n p).without p := by
            have nd2 : (((begun n p).parts.set i (addTo x p)).map pkey).Nodup := by
              have := M7.gp.nd
              rw [es] at this
              exact this
            rw [es]
            unfold Sv62.Net.without
            dsimp only
            rw [at_erase nd2 (by rw [es] at hi2; exact hi2) hx2, at_erase M1.gp.nd hi hx, List.eraseIdx_set_eq]
          have mvT : Moved K H m f (((begun n p).setPart p (addTo x p)).without p) Hd _ := (mv7.trans (mv8.then (((e9.trans ea).trans eb).trans ec))).trans mvd
          rw [hwo] at mvT
          refine q r2 He (mvT.done ee nr2 ?_)
          rw [k2]
          congr 3
          rw [hdOf_bytes]
          show wholeRes k p0.what p0.head _ = _
          rw [hwt]
theorem ok_take_piece (T : Txt K mg base) : DefOk P w K mg base 5 (He.ga K "take_piece") ["machine", "link", "piece"] (sp_take_piece K) := by
  obtain ⟨fd, F⟩ := T.fd_take_piece
  exact ⟨fd, okF_take_piece T F, F.bindsN fun _ _ _ _ _ _ us hl => match us, hl with | [_, _, _], _ => rfl, F.kp⟩
end
end Lp
set_option maxHeartbeats 400000000
namespace Lp
open PySem PySem.Spec PyProof.Rows L2 Evl
/-! ### a packet that is for others -/
def backRes (n : Sv62.Net) (kind number : Nat) (p : Sv62.Packet) (b : Sv62.Bytes) : Sv62.Net × List Int := ((n.error kind number p b).1, 4 :: (n.error kind number p b).2.flatMap Sv62Neutral.wanted)
def othersRes (n : Sv62.Net) (p : Sv62.Packet) (b : Sv62.Bytes) : Sv62.Net × List Int :=
  if n.passes = false then (n, [5]) else if p.hops ≤ 1 then backRes n 2 0 p b else match n.best p.to with
    | none => backRes n 1 0 p b
    | some w => match n.link w.link with
      | none => backRes n 1 0 p b
      | some l => if p.uncut = true ∧ l.fits < b.length then backRes n 3 l.fits p b else (n, 2 :: (Sv62.outBy w.link w.next l { p with hops := p.hops - 1 }).flatMap Sv62Neutral.wanted)
/-- a packet that has just been read -/
structure Come (K : PySem.W.Frag) (H0 H : Hp) (m : Addr) (n : Sv62.Net) (f : Foot) (a : Addr) (p : Sv62.Packet) (d : Addr) (b : Sv62.Bytes) : Prop where
  at_ : MachAt K H0 m n f
  ex : Ex H0 H
  new : H0 a = none
  hd : HeadAt K H a (hdOf p b.length)
  bd : H d = some (.lst (bv b))
  bn : d ∉ f.all m
  ok : PkOk p b.length
  body : p.body = b.drop 20
  long : 20 ≤ b.length
theorem Come.more {K : PySem.W.Frag} {H0 H H' : Hp} {m : Addr} {n : Sv62.Net} {f : Foot} {a : Addr} {p : Sv62.Packet} {d : Addr} {b : Sv62.Bytes} (x : Come K H0 H m n f a p d b) (e : Ex H H') : Come K H0 H' m n f a p d b :=
  ⟨x.at_, x.ex.trans e, x.new, x.hd.ex e, e _ _ x.bd, x.bn, x.ok, x.body, x.long⟩
theorem Come.out {K : PySem.W.Frag} {H0 H : Hp} {m : Addr} {n : Sv62.Net} {f : Foot} {a : Addr} {p : Sv62.Packet} {d : Addr} {b : Sv62.Bytes} (x : Come K H0 H m n f a p d b) : a ∉ f.all m := x.at_.fresh x.new
theorem Come.mach {K : PySem.W.Frag} {H0 H : Hp} {m : Addr} {n : Sv62.Net} {f : Foot} {a : Addr} {p : Sv62.Packet} {d : Addr} {b : Sv62.Bytes} (x : Come K H0 H m n f a p d b) : MachAt K H m n f := x.at_.ex x.ex
theorem Come.blen {K : PySem.W.Frag} {H0 H : Hp} {m : Addr} {n : Sv62.Net} {f : Foot} {a : Addr} {p : Sv62.Packet} {d : Addr} {b : Sv62.Bytes} (x : Come K H0 H m n f a p d b) : 20 + p.body.length = b.length := by
  have := x.long
  rw [x.body, List.length_drop]
  omega
theorem ev_mono {te : TE} {σ : L2.St} {H H1 : Hp} {v : V} (h : Ev te σ H v) (e : Ex H H1) : Ev te σ H1 v := fun H2 e2 Q q => h H2 (e.trans e2) Q q
theorem hdF_hops (h : Hd) (s : Nat) : putF "hops" (.int (s : Int)) (hdF h) = hdF { h with hops := s } := F_Head_put_hops
section
variable {P : Program} {w : World} {K : PySem.W.Frag} {mg : Str → Option Value} {base : Heap}
theorem ret_err {D : Ends} {σ : L2.St} {H0 H : Hp} {m : Addr} {n : Sv62.Net} {f : Foot} {a d : Addr} {p : Sv62.Packet} {b : Sv62.Bytes} {kind number : Nat} {tn : TE} {E : XK} (h0 : σ[0]? = some (some (.ref m))) (h1 : σ[1]? = some (some (.ref a))) (h2 : σ[2]? = some (some (.ref d))) (x : Come K H0 H m n f a p d b) (hk : kind < 256) (hn : Ev tn σ H (.int (number : Int)))
    (q : ∀ r H', Done K H0 m f (backRes n kind number p b).1 (backRes n kind number p b).2 r H' → D.rt (.ref r) H') : tRet (tOp rCat (tLst (tCons (tC (.int 4)) tNil)) (tCall (sp_error_back K) [] E (tCons (tVar 0) (tCons (tC (.int (kind : Int))) (tCons tn (tCons (tVar 1) (tCons (tVar 2) tNil))))))) D σ H := by
  refine ret_x (x_front' (n' := (n.error kind number p b).1) (ans := (n.error kind number p b).2.flatMap Sv62Neutral.wanted) x.mach (Nat.le_trans (err_len n kind number p b) (by decide)) fun H4 e4 => x_call (R := fun z' H' => ∃ r, z' = .ref r ∧ Done K H4 m f (n.error kind number p b).1 ((n.error kind number p b).2.flatMap Sv62Neutral.wanted) r H') (ea_cons (ev_var (i := 0) h0) (ea_cons ev_c (ea_cons (ev_mono hn e4) (ea_cons (ev_var (i := 1) h1) (ea_cons (ev_var (i := 2) h2) ea_nil))))) fun H5 e5 Q5 E5 q5 => ?_) fun z' H' ⟨r, hz', dn⟩ => ?_
  · have x5 := x.more (e4.trans e5)
    exact ⟨m, n, f, kind, number, a, p, _, d, b, rfl, x5.mach, hk, x5.hd, x5.out, x5.bd, x5.bn, x5.ok.from_.1, x5.ok.from_.2, fun r H6 dn => q5 _ _ ⟨r, rfl, dn.after e5⟩⟩
  · subst hz'
    exact q r H' (dn.after x.ex)
theorem sq_fldSub {ta tv : TE} {u : TS} {D : Ends} {σ : L2.St} {H : Hp} {a C dx : Addr} {fs : List (Str × V)} {f : Str} {i j : Int} (ha : Ev ta σ H (.ref a)) (ho : H a = some (.ins C dx fs)) (hc : Cls K C) (hn : NoAttr K C f) (hl : fs.lookup f = some (.int i)) (hv : Ev tv σ H (.int j)) (hlen : fs.length < 1000)
    (q : ∀ H', Ex H H' → u D σ (upd H' a (.ins C dx (putF f (.int (i - j)) fs)))) : tSeq (sFldAug K ta tv rSub f) u D σ H :=
  ha H (Ex.refl H) _ fun H1 e1 => ⟨a, C, dx, fs, .int i, rfl, e1 _ _ ho, hc, hn, hl, hv H1 e1 _ fun H2 e2 => ⟨i, j, rfl, rfl, dx, fs, e2 _ _ (e1 _ _ ho), hlen, q H2 (e1.trans e2)⟩⟩
def sp_take_for_others (K : PySem.W.Frag) : Sp := fun vs H Q _ => ∃ (m : Addr) (n : Sv62.Net) (f : Foot) (a : Addr) (p : Sv62.Packet) (d : Addr) (b : Sv62.Bytes) (H0 : Hp), vs = [.ref m, .ref a, .ref d] ∧ Come K H0 H m n f a p d b ∧
  ∀ r H', Done K H0 m f (othersRes n p b).1 (othersRes n p b).2 r H' → Q (.ref r) H'
theorem len_take_for_others {vs : List V} {H : Hp} {Q : VK} {E : XK} (h : sp_take_for_others K vs H Q E) : vs.length = 3 := by
  obtain ⟨m, n, f, a, p, d, b, H0, rfl, _⟩ := h
  rfl
theorem sc_take_for_others : FnScope ["machine", "head", "data", "way"] ["machine", "head", "data"] (defScope s_take_for_others) := ⟨rfl, rfl, rfl, by decide +kernel, rfl, by decide +kernel, by decide +kernel⟩
theorem okF_take_for_others (T : Txt K mg base) {fd : FuncData} (F : FunD K d_take_for_others.name d_take_for_others.qual d_take_for_others.params d_take_for_others.body d_take_for_others.scope [] [] (He.fAd K d_take_for_others.at_) fd) : FnOk P w K mg base CX0 7 (He.ga K "take_for_others") fd ["machine", "head", "data"] (sp_take_for_others K) := by
  obtain ⟨fd_sent_by, G_sent_by, b_sent_by, k_sent_by⟩ := ok_sent_by (P := P) (w := w) (base := base) T
  obtain ⟨fd_is_stuck, G_is_stuck, b_is_stuck, k_is_stuck⟩ := ok_is_stuck (P := P) (w := w) (base := base) T
  obtain ⟨fd_error_back, G_error_back, b_error_back, k_error_back⟩ := ok_error_back (P := P) (w := w) (base := base) T
  obtain ⟨fd_fits_by, G_fits_by, b_fits_by, k_fits_by⟩ := ok_fits_by (P := P) (w := w) (base := base) T
  obtain ⟨fd_way_to, G_way_to, b_way_to, k_way_to⟩ := ok_way_to (P := P) (w := w) (base := base) T
  refine F.ok sc_take_for_others (fun vs H Q E h => len_take_for_others h) (fun cdv Ar outer s H vs Q E hr h => ?_)
  refine ⟨_, PSs.nox (pss_cons (ps_if (pt_not (pt_val (pe_fld (pv 0) rfl))) (pss_one (ps_ret (pe_lst (pa_cons (pe_gi rfl T.c_DROPPED) pa_nil)))) pss_nil)
      (pss_cons (ps_if (pt_cmpR op_eq (pe_fld (pv 1) rfl) pe_int (nomark _)) (pss_one (ps_ret (pe_op op_cat (pe_lst (pa_cons (pe_gi rfl T.c_ERROR_BACK) pa_nil)) (pe_call G_error_back (hr.mono (by decide)) rfl T.g_error_back k_error_back b_error_back .nil pass0 (pa_cons (pv 0) (pa_cons (pe_gi rfl T.c_HOPS_USED_UP) (pa_cons pe_int (pa_cons (pv 1) (pa_cons (pv 2) pa_nil))))))))) pss_nil)
      (pss_cons (ps_set (i := 3) sc_take_for_others.nd rfl (Or.inl rfl) (pe_call G_way_to (hr.mono (by decide)) rfl T.g_way_to k_way_to b_way_to .nil pass0 (pa_cons (pv 0) (pa_cons (pe_fld (pv 1) rfl) pa_nil))))
      (pss_cons (ps_if (pt_cmpR op_isN (pv 3) pe_non (nomark _)) (pss_one (ps_ret (pe_op op_cat (pe_lst (pa_cons (pe_gi rfl T.c_ERROR_BACK) pa_nil)) (pe_call G_error_back (hr.mono (by decide)) rfl T.g_error_back k_error_back b_error_back .nil pass0 (pa_cons (pv 0) (pa_cons (pe_gi rfl T.c_NO_WAY) (pa_cons pe_int (pa_cons (pv 1) (pa_cons (pv 2) pa_nil))))))))) pss_nil)
      (pss_cons (ps_if (pt_val (pe_call G_is_stuck (hr.mono (by decide)) rfl T.g_is_stuck k_is_stuck b_is_stuck .nil pass0 (pa_cons (pv 0) (pa_cons (pv 3) (pa_cons (pv 1) pa_nil))))) (pss_one (ps_ret (pe_op op_cat (pe_lst (pa_cons (pe_gi rfl T.c_ERROR_BACK) pa_nil)) (pe_call G_error_back (hr.mono (by decide)) rfl T.g_error_back k_error_back b_error_back .nil pass0 (pa_cons (pv 0) (pa_cons (pe_gi rfl T.c_DOES_NOT_FIT) (pa_cons (pe_call G_fits_by (hr.mono (by decide)) rfl T.g_fits_by k_fits_by b_fits_by .nil pass0 (pa_cons (pv 0) (pa_cons (pv 3) pa_nil))) (pa_cons (pv 1) (pa_cons (pv 2) pa_nil))))))))) pss_nil)
      (pss_cons (ps_fldaug (pv 1) pe_int in_sub)
      (pss_one (ps_ret (pe_op op_cat (pe_lst (pa_cons (pe_gi rfl T.c_PASSED_ON) pa_nil)) (pe_call G_sent_by (hr.mono (by decide)) rfl T.g_sent_by k_sent_by b_sent_by .nil pass0 (pa_cons (pv 0) (pa_cons (pv 3) (pa_cons (pv 1) (pa_cons (pe_slice sl_list (pv 2) (po_some (pe_gi rfl T.c_HEAD_LENGTH)) po_none) pa_nil)))))))))))))), ?_⟩
  obtain ⟨m, n, f, a, p, d, b, H0, rfl, X0, q⟩ := h
  unfold othersRes at q
  obtain ⟨dm, om⟩ := X0.mach.obj
  refine sq_if (b := !n.passes) (et_not (et_B (ev_fld (ev_var (i := 0) rfl) om T.cl_Machine T.n_Machine_passes_on F_Machine_passes_on))) (fun hc H1 e1 => ?_) (fun hc H1 e1 => ?_)
  · rw [Bool.not_eq_true'] at hc
    rw [if_pos hc] at q
    have X1 := X0.more e1
    exact ret_el (el_lst (ea_cons ev_c ea_nil) (by show 1 ≤ 100000; decide)) fun r H2 nr e2 h2 => q r H2 (Done.same X0.at_ (X1.ex.trans e2) (fresh_back X1.ex nr) h2)
  · rw [Bool.not_eq_false'] at hc
    rw [if_neg (by rw [hc]; decide)] at q
    have X1 := X0.more e1
    refine sq_if (b := (p.hops == 1)) (et_is (et_test (ev_op (fl_hops T (i := 1) rfl X1.hd) ev_c (rv_eq rfl))) (nat_eq_val p.hops 1)) (fun hh H2 e2 => ?_) (fun hh H2 e2 => ?_)
    · rw [beq_iff_eq] at hh
      rw [if_pos (by omega)] at q
      exact ret_err (kind := 2) (number := 0) rfl rfl rfl (X1.more e2) (by decide) ev_c q
    · rw [beq_eq_false_iff_ne] at hh
      have hops := X0.ok.hops
      rw [if_neg (by omega)] at q
      have X2 := X1.more e2
      have hto := X0.ok.to
      refine sq_setR (er_call (ea_cons (ev_var (i := 0) rfl) (ea_cons (fl_to T (i := 1) rfl X2.hd) ea_nil)) (wt_r (a := p.to) X2.mach (by omega))) fun z H3 e3 hz => ?_
      have X3 := X2.more e3
      cases hbst : n.best p.to with
      | none =>
        rw [hbst] at hz
        have z0 : z = .non := hz
        subst z0
        simp only [hbst] at q
        refine sq_if (b := true) (et_is (et_test (ev_isN (ev_var (i := 3) rfl))) rfl) (fun _ H4 e4 => ?_) (fun z => Bool.noConfusion z)
        exact ret_err (kind := 1) (number := 0) rfl rfl rfl (X3.more e4) (by decide) ev_c q
      | some wy =>
        rw [hbst] at hz
        obtain ⟨hw4, l, hl⟩ := best_link X0.at_.good hbst
        simp only [hbst, hl] at q
        have W3 : WayV K H3 (f.all m) z (three wy) := hz
        obtain ⟨wp, wdx, rfl, wn, wo⟩ := hz
        refine sq_if (b := false) (et_is (et_test (ev_isN (ev_var (i := 3) rfl))) rfl) (fun z => Bool.noConfusion z) (fun _ H4 e4 => ?_)
        have X4 := X3.more e4
        have W4 := W3.ex e4
        refine sq_if (b := p.uncut && decide (l.fits < b.length)) (et_B (ev_call (ea_cons (ev_var (i := 0) rfl) (ea_cons (ev_var (i := 3) rfl) (ea_cons (ev_var (i := 1) rfl) ea_nil))) fun H5 e5 Q5 q5 _ => ⟨m, n, f, .ref wp, f.all m, three wy, l, a, _, p.more, p.uncut, rfl, X4.mach.ex e5, W4.ex e5, hw4, hl, X4.hd.ex e5, rfl, q5⟩)) (fun hu H5 e5 => ?_) (fun hu H5 e5 => ?_)
        · rw [Bool.and_eq_true, decide_eq_true_eq] at hu
          rw [if_pos hu] at q
          have X5 := X4.more e5
          have W5 := W4.ex e5
          exact ret_err (kind := 3) (number := l.fits) rfl rfl rfl X5 (by decide) (ev_call (ea_cons (ev_var (i := 0) rfl) (ea_cons (ev_var (i := 3) rfl) ea_nil)) fun H6 e6 Q6 q6 _ => ⟨m, n, f, .ref wp, f.all m, three wy, l, rfl, X5.mach.ex e6, W5.ex e6, hw4, hl, q6⟩) q
        · have hu2 : ¬ (p.uncut = true ∧ l.fits < b.length) := by
            rw [← decide_eq_true_eq (p := l.fits < b.length), ← Bool.and_eq_true, hu]
            decide
          rw [if_neg hu2] at q
          have X5 := X4.more e5
          obtain ⟨hdx, ho⟩ := X5.hd
          refine sq_fldSub (ev_var (i := 1) rfl) ho T.cl_Head T.n_Head_hops F_Head_hops ev_c (by show 8 < 1000; decide) fun H6 e6 => ?_
          have hsub : ((hdOf p b.length).hops : Int) - 1 = ((p.hops - 1 : Nat) : Int) := by
            show (p.hops : Int) - 1 = _
            omega
          rw [hsub, hdF_hops]
          have X6 := X5.more e6
          have e07 : Ex H0 (upd H6 a (.ins (He.ga K "Head") hdx (hdF { hdOf p b.length with hops := p.hops - 1 }))) := Ex.mut X6.ex X0.new
          have wa : wp ≠ a := ne_of wo (X3.hd).choose_spec (fun z => by
            injection z with _ _ z
            exact hw_ne z)
          have da : d ≠ a := ne_of X6.bd (e6 _ _ ho) fun z => nomatch z
          generalize hH7 : upd H6 a (.ins (He.ga K "Head") hdx (hdF { hdOf p b.length with hops := p.hops - 1 })) = H7 at e07
          have M7 := X0.at_.ex e07
          have hd7 : HeadAt K H7 a (hdOf { p with hops := p.hops - 1 } b.length) := ⟨hdx, by rw [← hH7]; exact upd_same⟩
          have bd7 : H7 d = some (.lst (bv b)) := by
            rw [← hH7, upd_ne da]
            exact X6.bd
          have W7 : WayV K H7 (f.all m) (.ref wp) (three wy) := ⟨wp, wdx, rfl, wn, by rw [← hH7, upd_ne wa]; exact e6 _ _ (e5 _ _ (e4 _ _ wo))⟩
          have bl := X0.blen
          have bm := X0.ok.len
          have ol := out_len wy.link wy.next l { p with hops := p.hops - 1 }
          refine ret_x (x_front' (K := K) (k := 2) (n' := n) (ans := (Sv62.outBy wy.link wy.next l { p with hops := p.hops - 1 }).flatMap Sv62Neutral.wanted) M7 (by dsimp only at ol; omega) fun H8 e8 => ?_) fun z H' ⟨r, hz, dn⟩ => ?_
          · have sl := el_sl (K := K) (te := tVar 2) (tl := tPart (tC (.int 20))) (th := tNoPart) (σ := [some (.ref m), some (.ref a), some (.ref d), some (.ref wp)]) (H := H8) (lo := some ((20 : Nat) : Int)) (hi := none) (ev_var rfl) (eo_some ev_c) eo_none (sq_of (e8 _ _ bd7))
            rw [cut_from, bv_drop, ← X0.body] at sl
            refine x_callR (R := fun z H' => ∃ r, z = .ref r ∧ Done K H8 m f n ((Sv62.outBy wy.link wy.next l { p with hops := p.hops - 1 }).flatMap Sv62Neutral.wanted) r H') (ar_ev (ev_var (i := 0) rfl) (ar_ev (ev_var (i := 3) rfl) (ar_ev (ev_var (i := 1) rfl) (ar_es (es_el sl) ar_nil)))) fun ws H9 e9 ⟨r1, w1, r2, w2, r3, w3, c, r4, w4, hc4, w5⟩ Q9 E9 q9 => ?_
            subst w1 w2 w3 w4 w5
            have M9 := (M7.ex e8).ex e9
            exact ⟨m, n, f, .ref wp, f.all m, three wy, l, a, { p with hops := p.hops - 1 }, _, c, rfl, M9, (W7.ex e8).ex e9, hw4, hl, (hd7.ex e8).ex e9, hc4, by show p.hops - 1 < 256; omega, by have := X0.ok.what; show p.what < 256; omega, by show p.body.length ≤ 65515; omega, fun r Ha nr ea ka => q9 _ _ ⟨r, rfl, Done.after e9 (Done.same M9 ea nr ka)⟩⟩
          · subst hz
            exact q r H' (dn.after e07)
theorem ok_take_for_others (T : Txt K mg base) : DefOk P w K mg base 7 (He.ga K "take_for_others") ["machine", "head", "data"] (sp_take_for_others K) := by
  obtain ⟨fd, F⟩ := T.fd_take_for_others
  exact ⟨fd, okF_take_for_others T F, F.bindsN fun _ _ _ _ _ _ us hl => match us, hl with | [_, _, _], _ => rfl, F.kp⟩
end
end Lp
set_option maxHeartbeats 400000000
namespace Lp
open PySem PySem.Spec PyProof.Rows L2 Evl
def cameRes (n : Sv62.Net) (k : Nat) (p : Sv62.Packet) (b : Sv62.Bytes) : Sv62.Net × List Int :=
  if n.mine p.to = true then (if p.isPiece = true then pieceRes n k p else (n, wholeRes k p.what p.head p.body)) else othersRes n p b
/-! ### what is counted -/
def bump (c : Int) (n : Sv62.Net) : Sv62.Net := { n with told := n.told + (if c = 1 then 1 else 0), passed := n.passed + (if c = 2 then 1 else 0), dropped := n.dropped + (if c = 4 ∨ c = 5 then 1 else 0) }
def Counts (r : Sv62.Net × List Int) (x : Sv62.Net × (Int × List Sv62.Want)) : Prop := r.2 = x.2.1 :: x.2.2.flatMap Sv62Neutral.wanted ∧ x.1 = bump x.2.1 r.1 ∧ (x.2.1 = 1 ∨ x.2.1 = 2 ∨ x.2.1 = 3 ∨ x.2.1 = 4 ∨ x.2.1 = 5)
theorem cnt3 (n : Sv62.Net) : Counts (n, [3]) (n, 3, []) := ⟨rfl, rfl, .inr (.inr (.inl rfl))⟩
theorem cnt5 (n : Sv62.Net) : Counts (n, [5]) ({ n with dropped := n.dropped + 1 }, 5, []) := ⟨rfl, rfl, .inr (.inr (.inr (.inr rfl)))⟩
theorem cnt_deliver (n : Sv62.Net) (k what : Nat) (head body : Sv62.Bytes) : Counts (n, wholeRes k what head body) (n.deliver k what head body) := by
  unfold Sv62.Net.deliver wholeRes
  by_cases c : what = 1 ∧ Sv62.errorFine body = false
  · rw [if_pos c, if_pos c]
    exact cnt5 n
  · rw [if_neg c, if_neg c]
    refine ⟨?_, rfl, .inl rfl⟩
    simp
theorem begun_some (n : Sv62.Net) (p : Sv62.Packet) : ∃ x, (begun n p).partOf p = some x := by
  cases h : n.partOf p with
  | some x =>
    have : begun n p = n := by
      unfold begun
      rw [h]
    rw [this]
    exact ⟨x, h⟩
  | none =>
    have : begun n p = { n with parts := (if Sv62.PARTS ≤ n.parts.length then n.parts.drop 1 else n.parts) ++ [newPart n p] } := by
      unfold begun
      simp only [h]
    rw [this]
    unfold Sv62.Net.partOf
    dsimp only
    rw [List.find?_append]
    cases (if Sv62.PARTS ≤ n.parts.length then n.parts.drop 1 else n.parts).find? (fun x => x.of p) with
    | some y => exact ⟨y, rfl⟩
    | none =>
      rw [List.find?_cons_of_pos (by exact new_of n p)]
      exact ⟨_, rfl⟩
theorem cnt_piece (n : Sv62.Net) (k : Nat) (p : Sv62.Packet) : Counts (pieceRes n k p) (n.piece k p) := by
  obtain ⟨x, hx⟩ := begun_some n p
  have e : n.piece k p = if x.spoiled = true then ({ begun n p with dropped := (begun n p).dropped + 1 }, 5, []) else match x.put p with
      | .same => (begun n p, 3, [])
      | .spoils => ({ (begun n p).setPart p (spoiledOf x) with dropped := (begun n p).dropped + 1 }, 5, [])
      | .on y => if y.whole = false then ((begun n p).setPart p y, 3, []) else match y.first with
        | some f => ((begun n p).without p).deliver k p.what f.head y.body
        | none => ((begun n p).setPart p y, 3, []) := by
    have e0 : n.piece k p = match (begun n p).partOf p with
      | none => (n, 5, [])
      | some x => if x.spoiled = true then ({ begun n p with dropped := (begun n p).dropped + 1 }, 5, []) else match x.put p with
        | .same => (begun n p, 3, [])
        | .spoils => ({ (begun n p).setPart p (spoiledOf x) with dropped := (begun n p).dropped + 1 }, 5, [])
        | .on y => if y.whole = false then ((begun n p).setPart p y, 3, []) else match y.first with
          | some f => ((begun n p).without p).deliver k p.what f.head y.body
          | none => ((begun n p).setPart p y, 3, []) := rfl
    rw [e0]
    simp only [hx]
  rw [e]
  unfold pieceRes
  simp only [hx]
  by_cases c : x.spoiled = true
  · rw [if_pos c, if_pos c]
    exact cnt5 _
  · rw [if_neg c, if_neg c]
    cases x.put p with
    | same => exact cnt3 _
    | spoils => exact cnt5 ((begun n p).setPart p (spoiledOf x))
    | on y =>
      dsimp only
      by_cases cw : y.whole = false
      · rw [if_pos cw, if_pos cw]
        exact cnt3 _
      · rw [if_neg cw, if_neg cw]
        cases y.first with
        | none => exact cnt3 _
        | some g => exact cnt_deliver _ _ _ _ _
theorem cnt_back (n : Sv62.Net) (kind number : Nat) (p : Sv62.Packet) (b : Sv62.Bytes) : Counts (backRes n kind number p b) ({ (n.error kind number p b).1 with dropped := (n.error kind number p b).1.dropped + 1 }, 4, (n.error kind number p b).2) := ⟨rfl, rfl, .inr (.inr (.inr (.inl rfl)))⟩
theorem cnt_came (n : Sv62.Net) (k : Nat) (p : Sv62.Packet) (b : Sv62.Bytes) : Counts (cameRes n k p b) (n.came k p b) := by
  unfold cameRes Sv62.Net.came
  by_cases c1 : n.mine p.to = true
  · rw [if_pos c1]
    simp only [if_pos c1]
    by_cases c2 : p.isPiece = true
    · rw [if_pos c2]
      simp only [if_pos c2]
      exact cnt_piece n k p
    · rw [if_neg c2]
      simp only [if_neg c2]
      exact cnt_deliver _ _ _ _ _
  · rw [if_neg c1]
    simp only [if_neg c1]
    unfold othersRes
    by_cases c2 : n.passes = false
    · rw [if_pos c2]
      simp only [if_pos c2]
      exact cnt5 n
    · rw [if_neg c2]
      simp only [if_neg c2]
      by_cases c3 : p.hops ≤ 1
      · rw [if_pos c3]
        simp only [if_pos c3]
        exact cnt_back _ _ _ _ _
      · rw [if_neg c3]
        simp only [if_neg c3]
        cases n.best p.to with
        | none => exact cnt_back _ _ _ _ _
        | some w =>
          dsimp only
          cases n.link w.link with
          | none => exact cnt_back _ _ _ _ _
          | some l =>
            dsimp only
            by_cases c4 : p.uncut = true ∧ l.fits < b.length
            · rw [if_pos c4, if_pos c4]
              exact cnt_back _ _ _ _ _
            · rw [if_neg c4, if_neg c4]
              exact ⟨rfl, rfl, .inr (.inl rfl)⟩
theorem step_take (n : Sv62.Net) (k : Int) (b : Sv62.Bytes) : Sv62Neutral.step n [[7, k], Sv62Neutral.ofOctets b] = if Sv62.within k 0 3 = false ∨ Sv62.wide b = true then (n, [-1]) else match n.link k.toNat with
    | none => (n, [-4])
    | some _ => match Sv62.packetOf b with
      | none => (n, [-3])
      | some p => ((n.came k.toNat p b).1, (n.came k.toNat p b).2.1 :: (n.came k.toNat p b).2.2.flatMap Sv62Neutral.wanted) := by
  have e : Sv62Neutral.step n [[7, k], Sv62Neutral.ofOctets b] = ((Sv62.does n (.take k (Sv62Neutral.octets (Sv62Neutral.ofOctets b)))).1, (Sv62.does n (.take k (Sv62Neutral.octets (Sv62Neutral.ofOctets b)))).2.v :: (Sv62Neutral.ints (Sv62.does n (.take k (Sv62Neutral.octets (Sv62Neutral.ofOctets b)))).2.numbers ++ (Sv62.does n (.take k (Sv62Neutral.octets (Sv62Neutral.ofOctets b)))).2.wants.flatMap Sv62Neutral.wanted)) := rfl
  rw [e, octets_off]
  unfold Sv62.does
  by_cases c : Sv62.within k 0 3 = false ∨ Sv62.wide b = true
  · simp only [if_pos c]
    rfl
  · simp only [if_neg c]
    cases n.link k.toNat with
    | none => rfl
    | some l =>
      dsimp only
      cases Sv62.packetOf b with
      | none => rfl
      | some p => rfl
section
variable {P : Program} {w : World} {K : PySem.W.Frag} {mg : Str → Option Value} {base : Heap}
def sp_take_packet (K : PySem.W.Frag) : Sp := fun vs H Q _ => ∃ (m : Addr) (n : Sv62.Net) (f : Foot) (k : Nat) (a : Addr) (p : Sv62.Packet) (d : Addr) (b : Sv62.Bytes) (H0 : Hp), vs = [.ref m, .int (k : Int), .ref a, .ref d] ∧ Come K H0 H m n f a p d b ∧
  ∀ r H', Done K H0 m f (cameRes n k p b).1 (cameRes n k p b).2 r H' → Q (.ref r) H'
theorem len_take_packet {vs : List V} {H : Hp} {Q : VK} {E : XK} (h : sp_take_packet K vs H Q E) : vs.length = 4 := by
  obtain ⟨m, n, f, k, a, p, d, b, H0, rfl, _⟩ := h
  rfl
theorem sc_take_packet : FnScope ["machine", "link", "head", "data", "body"] ["machine", "link", "head", "data"] (defScope s_take_packet) := ⟨rfl, rfl, rfl, by decide +kernel, rfl, by decide +kernel, by decide +kernel⟩
theorem okF_take_packet (T : Txt K mg base) {fd : FuncData} (F : FunD K d_take_packet.name d_take_packet.qual d_take_packet.params d_take_packet.body d_take_packet.scope [] [] (He.fAd K d_take_packet.at_) fd) : FnOk P w K mg base CX0 8 (He.ga K "take_packet") fd ["machine", "link", "head", "data"] (sp_take_packet K) := by
  obtain ⟨fd_take_whole, G_take_whole, b_take_whole, k_take_whole⟩ := ok_take_whole (P := P) (w := w) (base := base) T
  obtain ⟨fd_is_piece, G_is_piece, b_is_piece, k_is_piece⟩ := ok_is_piece (P := P) (w := w) (base := base) T
  obtain ⟨fd_take_piece, G_take_piece, b_take_piece, k_take_piece⟩ := ok_take_piece (P := P) (w := w) (base := base) T
  obtain ⟨fd_Piece__init, G_Piece__init, b_Piece__init, k_Piece__init⟩ := ok_Piece__init (P := P) (w := w) (base := base) T
  obtain ⟨fd_is_for_machine, G_is_for_machine, b_is_for_machine, k_is_for_machine⟩ := ok_is_for_machine (P := P) (w := w) (base := base) T
  obtain ⟨fd_take_for_others, G_take_for_others, b_take_for_others, k_take_for_others⟩ := ok_take_for_others (P := P) (w := w) (base := base) T
  refine F.ok sc_take_packet (fun vs H Q E h => len_take_packet h) (fun cdv Ar outer s H vs Q E hr h => ?_)
  refine ⟨_, PSs.nox (pss_cons (ps_if (pt_not (pt_val (pe_call G_is_for_machine (hr.mono (by decide)) rfl T.g_is_for_machine k_is_for_machine b_is_for_machine .nil pass0 (pa_cons (pv 0) (pa_cons (pe_fld (pv 2) rfl) pa_nil))))) (pss_one (ps_ret (pe_call G_take_for_others (hr.mono (by decide)) rfl T.g_take_for_others k_take_for_others b_take_for_others .nil pass0 (pa_cons (pv 0) (pa_cons (pv 2) (pa_cons (pv 3) pa_nil)))))) pss_nil)
      (pss_cons (ps_set (i := 4) sc_take_packet.nd rfl (Or.inl rfl) (pe_slice sl_list (pv 3) (po_some (pe_gi rfl T.c_HEAD_LENGTH)) po_none))
      (pss_cons (ps_if (pt_val (pe_call G_is_piece (hr.mono (by decide)) rfl T.g_is_piece k_is_piece b_is_piece .nil pass0 (pa_cons (pv 2) pa_nil))) (pss_one (ps_ret (pe_call G_take_piece (hr.mono (by decide)) rfl T.g_take_piece k_take_piece b_take_piece .nil pass0 (pa_cons (pv 0) (pa_cons (pv 1) (pa_cons (pe_make T.mk_Piece G_Piece__init (hr.mono (by decide)) rfl T.g_Piece b_Piece__init .nil pass0 (pa_cons (pv 2) (pa_cons (pv 4) pa_nil))) pa_nil)))))) pss_nil)
      (pss_one (ps_ret (pe_call G_take_whole (hr.mono (by decide)) rfl T.g_take_whole k_take_whole b_take_whole .nil pass0 (pa_cons (pv 1) (pa_cons (pv 2) (pa_cons (pv 4) pa_nil))))))))), ?_⟩
  obtain ⟨m, n, f, k, a, p, d, b, H0, rfl, X0, q⟩ := h
  unfold cameRes at q
  refine sq_if (b := !n.mine p.to) (et_not (et_B (ev_call (ea_cons (ev_var (i := 0) rfl) (ea_cons (fl_to T (i := 2) rfl X0.hd) ea_nil)) fun H1 e1 Q1 q1 _ => ⟨m, n, f, p.to, rfl, X0.mach.ex e1, q1⟩))) (fun hc H1 e1 => ?_) (fun hc H1 e1 => ?_)
  · rw [Bool.not_eq_true'] at hc
    rw [if_neg (by rw [hc]; decide)] at q
    have X1 := X0.more e1
    exact ret_x (x_call (R := fun z H' => ∃ r, z = .ref r ∧ Done K H0 m f (othersRes n p b).1 (othersRes n p b).2 r H') (ea_cons (ev_var (i := 0) rfl) (ea_cons (ev_var (i := 2) rfl) (ea_cons (ev_var (i := 3) rfl) ea_nil))) fun H2 e2 Q2 E2 q2 => ⟨m, n, f, a, p, d, b, H0, rfl, X1.more e2, fun r H' dn => q2 _ _ ⟨r, rfl, dn⟩⟩) fun z H' ⟨r, hz, dn⟩ => by
      subst hz
      exact q r H' dn
  · rw [Bool.not_eq_false'] at hc
    rw [if_pos hc] at q
    have X1 := X0.more e1
    have sl := el_sl (K := K) (te := tVar 3) (tl := tPart (tC (.int 20))) (th := tNoPart) (σ := [some (.ref m), some (.int (k : Int)), some (.ref a), some (.ref d), none]) (H := H1) (lo := some ((20 : Nat) : Int)) (hi := none) (ev_var rfl) (eo_some ev_c) eo_none (sq_of X1.bd)
    rw [cut_from, bv_drop, ← X0.body] at sl
    refine sq_setEL sl fun bd H2 nb e2 k2 => ?_
    have X2 := X1.more e2
    have nb0 : H0 bd = none := fresh_back X1.ex nb
    have hlen := X0.blen
    have hbl := X0.ok.len
    refine sq_if (b := p.isPiece) (et_is (et_B (ev_call (ea_cons (ev_var (i := 2) rfl) ea_nil) fun H3 e3 Q3 q3 _ => ⟨a, _, rfl, X2.hd.ex e3, q3⟩)) ?_) (fun hp H3 e3 => ?_) (fun hp H3 e3 => ?_)
    · show (moreOf (p.more.toNat + 2 * p.uncut.toNat) || p.place != 0) = _
      rw [moreOf_flag]
      rfl
    · rw [if_pos hp] at q
      have X3 := X2.more e3
      have k3 := e3 _ _ k2
      refine ret_of (call_of (cons_of (ev_go (v := V.ref m) (ev_var (i := 0) rfl) fun H4 e4 => cons_of (ev_go (v := V.int (k : Int)) (ev_var (i := 1) rfl) fun H5 e5 => cons_of (make_of (cons_of (ev_go (v := V.ref a) (ev_var (i := 2) rfl) fun H6 e6 => cons_of (ev_go (v := V.ref bd) (ev_var (i := 4) rfl) fun H7 e7 => nil_of fun x dx nx ndx ne => ?_))))))))
      have e37 := ((e4.trans e5).trans e6).trans e7
      have X7 := X3.more e37
      have k7 := e37 _ _ k3
      have eN : Ex H7 (upd (upd H7 dx (.own x)) x (.ins (He.ga K "Piece") dx [])) := made_ex (Ex.refl H7) nx ndx (fun b o hb _ => hb)
      obtain ⟨dh, oh⟩ := X7.hd
      refine ⟨x, dx, a, bd, hdOf p b.length, p.body, rfl, upd_same, X7.hd.ex eN, eN _ _ k7, ne_of_none oh nx, ne_of_none k7 nx, fun H8 o8 keep => ⟨rfl, ?_⟩⟩
      have e78 : Ex H7 H8 := made_ex (Ex.refl H7) nx ndx keep
      have X8 := X7.more e78
      have f0 : ∀ {c : Addr}, H0 c = none → c ∉ f.all m := fun h => X0.at_.fresh h
      have y8 : PieceV K H8 (f.all m) (.ref x) p := by
        refine ⟨x, dx, a, bd, rfl, f0 (fresh_back X7.ex nx), f0 X0.new, f0 nb0, ?_, ?_, e78 _ _ k7⟩
        · rw [o8]
          unfold pcF endOf
          have hm : moreOf (hdOf p b.length).flags = p.more := moreOf_flag _ _
          rw [hm]
          rfl
        · rw [hlen]
          exact X8.hd
      refine nil_of ⟨m, n, f, k, .ref x, p, rfl, X8.mach, y8, ⟨by rw [hlen]; exact X0.ok, hp⟩, fun r H' dn => ?_⟩
      exact q r H' (dn.after X8.ex)
    · rw [if_neg (by rw [hp]; decide)] at q
      have X3 := X2.more e3
      have k3 := e3 _ _ k2
      have hops := X0.ok.hops
      have what := X0.ok.what
      have z := el_call (E := E0) (sp := sp_take_whole K) (xs := (wholeRes k p.what p.head p.body).map V.int) (σ := [some (.ref m), some (.int (k : Int)), some (.ref a), some (.ref d), some (.ref bd)]) (H := H3) (ea_cons (ev_var (i := 1) rfl) (ea_cons (ev_var (i := 2) rfl) (ea_cons (ev_var (i := 4) rfl) ea_nil))) fun H4 e4 Q4 q4 _ => ⟨k, a, hdOf p b.length, bd, p.body, rfl, X3.hd.ex e4, ⟨by show p.hops < 256; omega, by show p.what < 256; omega, flag_lt _ _⟩, e4 _ _ k3, by omega, by
        rw [hdOf_bytes, ← hlen]
        exact q4⟩
      exact ret_el z fun r H4 nr e4 k4 => q r H4 (Done.same X0.at_ (X3.ex.trans e4) (fresh_back X3.ex nr) k4)
theorem ok_take_packet (T : Txt K mg base) : DefOk P w K mg base 8 (He.ga K "take_packet") ["machine", "link", "head", "data"] (sp_take_packet K) := by
  obtain ⟨fd, F⟩ := T.fd_take_packet
  exact ⟨fd, okF_take_packet T F, F.bindsN fun _ _ _ _ _ _ us hl => match us, hl with | [_, _, _, _], _ => rfl, F.kp⟩
/-! ### take -/
def A_take (H : Hp) (S : List Addr) (rest : List V) (c : Sv62Neutral.Call) : Prop := ∃ (k : Int) (d : Addr) (b : Sv62.Bytes), rest = [.int k, .ref d] ∧ H d = some (.lst (bv b)) ∧ d ∉ S ∧ b.length ≤ 15900 ∧ c = [[7, k], Sv62Neutral.ofOctets b]
abbrev sp_answer_take (K : PySem.W.Frag) : Sp := spCall K A_take
theorem len_answer_take {vs : List V} {H : Hp} {Q : VK} {E : XK} (h : sp_answer_take K vs H Q E) : vs.length = 3 := by
  obtain ⟨m, n, f, rest, c, rfl, _, ⟨k, d, b, rfl, _⟩, _⟩ := h
  rfl
theorem sq_dAdd {td ty tv : TE} {u : TS} {D : Ends} {σ : L2.St} {H : Hp} {d : Addr} {kvs : List (L2.Key × V)} {k : L2.Key} {i j : Int} (hd : Ev td σ H (.ref d)) (hk : Ev ty σ H (kV k)) (hv : Ev tv σ H (.int j)) (od : H d = some (.dK kvs)) (hi : valV kvs k = some (.int i)) (hl : kvs.length < sizeLine)
    (q : ∀ H', Ex H H' → u D σ (upd H' d (.dK (putK kvs k (.int (i + j)))))) : tSeq (sDAug td ty tv rAdd) u D σ H :=
  hd H (Ex.refl H) _ fun H1 e1 => hk H1 e1 _ fun H2 e2 => ⟨d, .int i, rfl, by rw [← hi]; exact DGet.k (e2 _ _ (e1 _ _ od)), hv H2 (e1.trans e2) _ fun H3 e3 => ⟨i, j, rfl, rfl, _, DPut.k (e3 _ _ (e2 _ _ (e1 _ _ od))) hl, q H3 ((e1.trans e2).trans e3)⟩⟩
theorem bump_tk {c : Int} (hc : c = 1 ∨ c = 2 ∨ c = 3 ∨ c = 4 ∨ c = 5) (a b x y z : Nat) : ∃ (i : Nat) (x' y' z' : Nat), valV (tkv a b x y z) (.inl c) = some (.int (i : Int)) ∧ putK (tkv a b x y z) (.inl c) (.int ((i : Int) + 1)) = tkv (a + (if c = 1 then 1 else 0)) (b + (if c = 2 then 1 else 0)) x' y' z' ∧ y' + z' = y + z + (if c = 4 ∨ c = 5 then 1 else 0) := by
  rcases hc with rfl | rfl | rfl | rfl | rfl
  · exact ⟨a, x, y, z, rfl, rfl, rfl⟩
  · exact ⟨b, x, y, z, rfl, rfl, rfl⟩
  · exact ⟨x, x + 1, y, z, rfl, rfl, rfl⟩
  · exact ⟨y, x, y + 1, z, rfl, rfl, by simp; omega⟩
  · exact ⟨z, x, y, z + 1, rfl, rfl, by simp; omega⟩
theorem sc_answer_take : FnScope ["machine", "link", "data", "head", "answer"] ["machine", "link", "data"] (defScope s_answer_take) := ⟨rfl, rfl, rfl, by decide +kernel, rfl, by decide +kernel, by decide +kernel⟩
theorem okF_answer_take (T : Txt K mg base) {fd : FuncData} (F : FunD K d_answer_take.name d_answer_take.qual d_answer_take.params d_answer_take.body d_answer_take.scope [] [] (He.fAd K d_answer_take.at_) fd) : FnOk P w K mg base CX0 9 (He.ga K "answer_take") fd ["machine", "link", "data"] (sp_answer_take K) := by
  obtain ⟨fd_take_packet, G_take_packet, b_take_packet, k_take_packet⟩ := ok_take_packet (P := P) (w := w) (base := base) T
  obtain ⟨fd_read_head, G_read_head, b_read_head, k_read_head⟩ := ok_read_head (P := P) (w := w) (base := base) T
  obtain ⟨fd_is_link_number, G_is_link_number, b_is_link_number, k_is_link_number⟩ := ok_is_link_number (P := P) (w := w) (base := base) T
  refine F.ok sc_answer_take (fun vs H Q E h => len_answer_take h) (fun cdv Ar outer s H vs Q E hr h => ?_)
  refine ⟨_, PSs.nox (pss_cons (ps_if (PW.pt (pw_or (pt_not (pt_val (pe_call G_is_link_number (hr.mono (by decide)) rfl T.g_is_link_number k_is_link_number b_is_link_number .nil pass0 (pa_cons (pv 1) pa_nil)))) (pw_or1 (pt_cmpR op_gt (pe_callB call_len_seq (by rfl) T.f_len PySem.boot_len (pa_cons (pv 2) pa_nil)) (pe_gi rfl T.c_MOST_LENGTH) (nomark _))))) (pss_one (ps_ret (pe_lst (pa_cons (pe_gi rfl T.c_WRONG_ARGUMENTS) pa_nil)))) pss_nil)
      (pss_cons (ps_if (pt_cmpR op_isN (pe_ix ix_list (pe_fld (pv 0) rfl) (pv 1) (fun _ _ => rfl)) pe_non (nomark _)) (pss_one (ps_ret (pe_lst (pa_cons (pe_gi rfl T.c_NOT_NOW) pa_nil)))) pss_nil)
      (pss_cons (ps_set (i := 3) sc_answer_take.nd rfl (Or.inl rfl) (pe_call G_read_head (hr.mono (by decide)) rfl T.g_read_head k_read_head b_read_head .nil pass0 (pa_cons (pv 2) pa_nil)))
      (pss_cons (ps_if (PW.pt (pw_or (pt_cmpR op_isN (pv 3) pe_non (nomark _)) (pw_or1 (pt_cmpR op_ne (pe_fld (pv 3) rfl) (pe_callB call_len_seq (by rfl) T.f_len PySem.boot_len (pa_cons (pv 2) pa_nil)) (nomark _))))) (pss_one (ps_ret (pe_lst (pa_cons (pe_gi rfl T.c_NOT_AS_TOLD) pa_nil)))) pss_nil)
      (pss_cons (ps_set (i := 4) sc_answer_take.nd rfl (Or.inl rfl) (pe_call G_take_packet (hr.mono (by decide)) rfl T.g_take_packet k_take_packet b_take_packet .nil pass0 (pa_cons (pv 0) (pa_cons (pv 1) (pa_cons (pv 3) (pa_cons (pv 2) pa_nil))))))
      (pss_cons (ps_daug (hu_of hr) (pe_fld (pv 0) rfl) (pe_ix ix_list (pv 4) pe_int (fun _ _ => rfl)) pe_int in_add (fun _ _ _ => rfl))
      (pss_one (ps_ret (pv 4))))))))), ?_⟩
  obtain ⟨m, n, f, _, _, rfl, M, ⟨k, d, b, rfl, hd, nd, hlb, rfl⟩, q⟩ := h
  rw [step_take, not_wide (by omega)] at q
  refine sq_if (b := !Sv62.within k 0 3 || false) (et_or (et_not (et_B (ev_call (ea_cons (ev_var (i := 1) rfl) ea_nil) (spZ_v ⟨k, rfl, rfl⟩)))) fun _ => et_is (et_test (ev_op (ev_len (K := K) (ev_var (i := 2) rfl) (sq_of hd)) ev_c rv_I0)) ?_) (fun hb H1 e1 => ?_) (fun hb H1 e1 => ?_)
  · rw [bv_len, decide_eq_false_iff_not]
    omega
  · rw [Bool.or_false, Bool.not_eq_true'] at hb
    rw [if_pos (.inl hb)] at q
    exact ret_el (el_lst (ea_cons ev_c ea_nil) (by show 1 ≤ 100000; decide)) fun p H2 np e2 h2 => q p H2 (Done.same M (e1.trans e2) (fresh_back e1 np) h2)
  · rw [Bool.or_false, Bool.not_eq_false'] at hb
    rw [if_neg (by rw [hb]; simp)] at q
    have hk := within_iff.mp hb
    obtain ⟨kn, rfl⟩ : ∃ j : Nat, k = (j : Int) := ⟨k.toNat, by omega⟩
    rw [Int.toNat_natCast] at q
    have k4 : kn < 4 := by omega
    have M1 := M.ex e1
    obtain ⟨dm, om⟩ := M1.obj
    obtain ⟨vs, ol, pl⟩ := M1.lks
    obtain ⟨lv, hlv, hl2⟩ := pr_get pl (link_at M.good k4)
    have evl : Ev (tOp (rIxL K) (tFld K (tVar 0) "links") (tVar 1)) [some (.ref m), some (.int (kn : Int)), some (.ref d), none, none] H1 lv := ev_op (ev_fld (ev_var rfl) om T.cl_Machine T.n_Machine_links F_Machine_links) (ev_var rfl) (rv_ixL (sq_of ol) (atI_nat hlv))
    cases hln : n.link kn with
    | none =>
      rw [hln] at hl2
      have z0 : lv = .non := hl2
      subst z0
      simp only [hln] at q
      refine sq_if (b := true) (et_is (et_test (ev_isN evl)) rfl) (fun _ H2 e2 => ?_) (fun z => Bool.noConfusion z)
      exact ret_el (el_lst (ea_cons ev_c ea_nil) (by show 1 ≤ 100000; decide)) fun p H3 np e3 h3 => q p H3 (Done.same M ((e1.trans e2).trans e3) (fresh_back (e1.trans e2) np) h3)
    | some l =>
      rw [hln] at hl2
      obtain ⟨lp, ldx, rfl, _, _⟩ := hl2
      simp only [hln] at q
      refine sq_if (b := false) (et_is (et_test (ev_isN evl)) rfl) (fun z => Bool.noConfusion z) (fun _ H2 e2 => ?_)
      have e12 := e1.trans e2
      have hd2 := e12 _ _ hd
      have M2 := M.ex e12
      refine sq_setR (R := fun z H3 => match Sv62.firstOf b with | none => z = .non | some (p, k) => ∃ a, z = .ref a ∧ H2 a = none ∧ HeadAt K H3 a (hdOf p k)) (fun H3 e3 Q3 q3 => (ea_cons (ev_var (i := 2) rfl) ea_nil) H3 e3 _ fun H4 e4 => ⟨d, b, rfl, (e3.trans e4) _ _ hd2, fun hn H5 e5 => q3 _ H5 (e4.trans e5) ?_, fun p k hs a H5 na e5 hA => q3 _ H5 (e4.trans e5) ?_⟩) fun z H3 e3 hz => ?_
      · rw [hn]
      · rw [hs]
        exact ⟨a, rfl, fresh_back (e3.trans e4) na, hA⟩
      have e13 := e12.trans e3
      have hd3 := e3 _ _ hd2
      cases hf : Sv62.firstOf b with
      | none =>
        have hpo : Sv62.packetOf b = none := by
          unfold Sv62.packetOf
          simp only [hf]
        simp only [hf] at hz
        simp only [hpo] at q
        subst hz
        refine sq_if (b := true || false) (et_or (a := true) (et_is (et_test (ev_isN (ev_var (i := 3) rfl))) rfl) (fun z => Bool.noConfusion z)) (fun _ H4 e4 => ?_) (fun z => Bool.noConfusion z)
        exact ret_el (el_lst (ea_cons ev_c ea_nil) (by show 1 ≤ 100000; decide)) fun p H5 np e5 h5 => q p H5 (Done.same M ((e13.trans e4).trans e5) (fresh_back (e13.trans e4) np) h5)
      | some pk =>
        obtain ⟨p, k⟩ := pk
        simp only [hf] at hz
        obtain ⟨a, rfl, na, hA⟩ := hz
        obtain ⟨pok, pbody, plong, _⟩ := firstOf_ok hf
        refine sq_if (b := false || !(k == b.length)) (et_or (a := false) (et_is (et_test (ev_isN (ev_var (i := 3) rfl))) rfl) fun _ => et_is (et_test (ev_op (fl_length T (i := 3) rfl hA) (ev_len (K := K) (ev_var (i := 2) rfl) (sq_of hd3)) (rv_ne rfl))) ?_) (fun hc H4 e4 => ?_) (fun hc H4 e4 => ?_)
        · rw [bv_len]
          exact congrArg _ (nat_eq_val k b.length)
        · rw [Bool.false_or, Bool.not_eq_true', beq_eq_false_iff_ne] at hc
          have hpo : Sv62.packetOf b = none := by
            unfold Sv62.packetOf
            simp only [hf, if_neg hc]
          simp only [hpo] at q
          exact ret_el (el_lst (ea_cons ev_c ea_nil) (by show 1 ≤ 100000; decide)) fun p H5 np e5 h5 => q p H5 (Done.same M ((e13.trans e4).trans e5) (fresh_back (e13.trans e4) np) h5)
        · rw [Bool.false_or, Bool.not_eq_false', beq_iff_eq] at hc
          subst hc
          have hpo : Sv62.packetOf b = some p := by
            unfold Sv62.packetOf
            simp only [hf, if_true]
          simp only [hpo] at q
          have X4 : Come K H2 H4 m n f a p d b := ⟨M2, e3.trans e4, na, hA.ex e4, e4 _ _ hd3, nd, pok, pbody, plong⟩
          obtain ⟨c1, c2, c3⟩ := cnt_came n kn p b
          rw [c2, ← c1] at q
          refine sq_setX (x_call (R := fun z H' => ∃ r, z = .ref r ∧ Done K H2 m f (cameRes n kn p b).1 (cameRes n kn p b).2 r H') (ea_cons (ev_var (i := 0) rfl) (ea_cons (ev_var (i := 1) rfl) (ea_cons (ev_var (i := 3) rfl) (ea_cons (ev_var (i := 2) rfl) ea_nil)))) fun H5 e5 Q5 E5 q5 => ⟨m, n, f, kn, a, p, d, b, H2, rfl, X4.more e5, fun r H' dn => q5 _ _ ⟨r, rfl, dn⟩⟩) ?_
          rintro _ H5 ⟨r, rfl, f', mv, hnew, hout, hr⟩
          have M5 := mv.at_
          obtain ⟨dm5, om5⟩ := M5.obj
          obtain ⟨ta, tb, tc, ot, hsum⟩ := M5.tks
          obtain ⟨i, x', y', z', hv, hp', hyz⟩ := bump_tk c3 (cameRes n kn p b).1.told (cameRes n kn p b).1.passed ta tb tc
          have r0 : ((cameRes n kn p b).2.map V.int)[0]? = some (V.int (n.came kn p b).2.1) := by
            rw [c1]
            rfl
          refine sq_dAdd (kvs := tkv (cameRes n kn p b).1.told (cameRes n kn p b).1.passed ta tb tc) (k := .inl (n.came kn p b).2.1) (i := (i : Int)) (j := 1) (ev_fld (ev_var (i := 0) rfl) om5 T.cl_Machine T.n_Machine_taken F_Machine_taken) (ev_op (ev_var (i := 4) rfl) ev_c (rv_ixL (sq_of hr) (atI_nat (j := 0) r0))) ev_c ot hv (by show 5 < sizeLine; decide) fun H6 e6 => ?_
          rw [hp']
          have M6 := M5.ex e6
          have mv6 := M6.putTk ((cameRes n kn p b).1.told + (if (n.came kn p b).2.1 = 1 then 1 else 0)) ((cameRes n kn p b).1.passed + (if (n.came kn p b).2.1 = 2 then 1 else 0)) x' y' z'
          have eb : ({ (cameRes n kn p b).1 with told := (cameRes n kn p b).1.told + (if (n.came kn p b).2.1 = 1 then 1 else 0), passed := (cameRes n kn p b).1.passed + (if (n.came kn p b).2.1 = 2 then 1 else 0), dropped := y' + z' } : Sv62.Net) = bump (n.came kn p b).2.1 (cameRes n kn p b).1 := by
            unfold bump
            rw [hyz, hsum]
          rw [eb] at mv6
          have hr6 : (upd H6 f'.tk (.dK (tkv ((cameRes n kn p b).1.told + (if (n.came kn p b).2.1 = 1 then 1 else 0)) ((cameRes n kn p b).1.passed + (if (n.came kn p b).2.1 = 2 then 1 else 0)) x' y' z'))) r = some (.lst ((cameRes n kn p b).2.map V.int)) := mv6.keep _ _ (e6 _ _ hr) hout rfl
          refine ret_ev (ev_var (i := 4) rfl) fun H7 e7 => q r H7 (Done.after e12 ⟨f', ((mv.then e6).trans mv6).then e7, hnew, hout, e7 _ _ hr6⟩)
theorem ok_answer_take (T : Txt K mg base) : DefOk P w K mg base 9 (He.ga K "answer_take") ["machine", "link", "data"] (sp_answer_take K) := by
  obtain ⟨fd, F⟩ := T.fd_answer_take
  exact ⟨fd, okF_answer_take T F, F.bindsN fun _ _ _ _ _ _ us hl => match us, hl with | [_, _, _], _ => rfl, F.kp⟩
end
end Lp
set_option maxHeartbeats 400000000
namespace Lp
open PySem PySem.Spec PyProof.Rows L2 Evl
/-! ### a list of the caller's own, beside the machine -/
def Foot.plus (f : Foot) (r : Addr) : Foot := { f with av := r :: f.av }
theorem all_eq (f : Foot) (m : Addr) : f.all m = (m :: f.lk :: f.wy :: f.ga :: f.tk :: f.tb :: (f.gs.map (·.1) ++ f.gs.map (·.2))) ++ f.av := by
  unfold Foot.all
  simp only [List.cons_append, List.append_assoc]
theorem plus_perm (f : Foot) (m r : Addr) : ((f.plus r).all m).Perm (r :: f.all m) := by
  rw [all_eq, all_eq]
  exact List.perm_middle
theorem mem_plus {f : Foot} {m r b : Addr} : b ∈ (f.plus r).all m ↔ b = r ∨ b ∈ f.all m := by
  rw [(plus_perm f m r).mem_iff, List.mem_cons]
theorem Keep.refl {H : Hp} {S : List Addr} : Keep H H S := fun _ _ h _ _ => h
section
variable {K : PySem.W.Frag} {H H' : Hp} {m : Addr} {n : Sv62.Net} {f : Foot}
/-- the same in another heap, all that's said of it being kept -/
theorem MachAt.move {f' : Foot} (M : MachAt K H m n f) (hs : ∀ b ∈ f'.all m, b ∈ f.all m ∨ New H b) (e : ∀ b o, H b = some o → ntb o = true → b ∉ f'.av ∨ b ∉ f.av → H' b = some o) (nd : (f'.all m).Nodup) (h1 : f'.lk = f.lk) (h2 : f'.wy = f.wy) (h3 : f'.ga = f.ga) (h4 : f'.tk = f.tk) (h5 : f'.tb = f.tb) (h6 : f'.gs = f.gs) (tb : LamX.TabS H' f.tb qW) (avs : ∀ b ∈ f'.av, ∃ o, H' b = some o ∧ ntb o = true) : MachAt K H' m n f' := by
  have N := footNe M.nd
  obtain ⟨g1, ⟨dx, g2⟩, ⟨vs, g3, g4⟩, ⟨kvs, g5, g6⟩, g7, g8, ⟨a, b, c, g9, g10⟩, g11, g12, g13, g14, g15⟩ := id M
  have ina : ∀ {b}, b ∈ f.av → b ∈ f.all m := fun {b} h => by
    rw [all_eq, List.mem_append]
    exact .inr h
  have k : Keep H H' (f.all m) := fun b o hb hn t => e b o hb t (.inr fun z => hn (ina z))
  have av : ∀ {b}, (b ∈ f.av → False) → b ∉ f'.av ∨ b ∉ f.av := fun h => .inr h
  refine ⟨nd, ⟨dx, ?_⟩, ⟨vs, ?_, pr_map (fun _ _ y => y.keep k hs) g4⟩, ⟨kvs, ?_, pr_map (fun _ _ y => ⟨y.1, y.2.keep k hs⟩) g6⟩, ?_, ?_, ⟨a, b, c, ?_, g10⟩, h5.trans g11, by rw [h5]; exact tb, g13, g14, avs⟩
  · rw [h1, h2, h3, h4]
    exact e _ _ g2 rfl (av fun z => (N.av _ z).1 rfl)
  · rw [h1]
    exact e _ _ g3 rfl (av fun z => (N.av _ z).2.1 rfl)
  · rw [h2]
    exact e _ _ g5 rfl (av fun z => (N.av _ z).2.2.1 rfl)
  · rw [h3, h6]
    exact e _ _ g7 rfl (av fun z => (N.av _ z).2.2.2.1 rfl)
  · rw [h6]
    exact pr_mem (fun g hg x hx => hx.keep k hs (fun o q t => e _ _ q t (av fun z => (N.avg _ z g hg).1 rfl)) (fun o q t => e _ _ q t (av fun z => (N.avg _ z g hg).2 rfl))) g8
  · rw [h4]
    exact e _ _ g9 rfl (av fun z => (N.av _ z).2.2.2.2.1 rfl)
theorem MachAt.addAv (M : MachAt K H m n f) {r : Addr} {o : HO} (e : Ex H H') (nr : H r = none) (hr : H' r = some o) (ht : ntb o = true) : MachAt K H' m n (f.plus r) := by
  refine M.move (fun b hb => ?_) (fun b o hb _ _ => e _ _ hb) ?_ rfl rfl rfl rfl rfl rfl (M.tab.ext e) fun b hb => ?_
  · rcases mem_plus.mp hb with rfl | h
    · exact .inr (.of nr)
    · exact .inl h
  · rw [(plus_perm f m r).nodup_iff, List.nodup_cons]
    exact ⟨M.fresh nr, M.nd⟩
  · rcases List.mem_cons.mp hb with rfl | h
    · exact ⟨o, hr, ht⟩
    · obtain ⟨u, h1, h2⟩ := M.avs b h
      exact ⟨u, e _ _ h1, h2⟩
/-- the caller's list changes -/
theorem MachAt.setAv (M : MachAt K H m n f) {r : Addr} {xs ys : List V} (hr : r ∈ f.av) (h0 : H r = some (.lst xs)) : MachAt K (upd H r (.lst ys)) m n f := by
  have N := footNe M.nd
  obtain ⟨g1, ⟨dx, g2⟩, ⟨vs, g3, g4⟩, ⟨kvs, g5, g6⟩, g7, g8, ⟨a, b, c, g9, g10⟩, g11, g12, g13, g14, g15⟩ := id M
  have ra : r ∈ f.all m := by
    rw [all_eq, List.mem_append]
    exact .inr hr
  have k : Keep H (upd H r (.lst ys)) (f.all m) := Keep.upd ra
  have z : ∀ {b : Addr} {o : HO}, H b = some o → b ≠ r → upd H r (.lst ys) b = some o := fun h c => by
    rw [upd_ne c]
    exact h
  refine ⟨g1, ⟨dx, z g2 (N.av r hr).1⟩, ⟨vs, z g3 (N.av r hr).2.1, pr_map (fun _ _ y => y.keep k same_sub) g4⟩, ⟨kvs, z g5 (N.av r hr).2.2.1, pr_map (fun _ _ y => ⟨y.1, y.2.keep k same_sub⟩) g6⟩, z g7 (N.av r hr).2.2.2.1, pr_mem (fun g hg x hx => hx.keep k same_sub (fun o q t => z q (N.avg r hr g hg).1) (fun o q t => z q (N.avg r hr g hg).2)) g8, ⟨a, b, c, z g9 (N.av r hr).2.2.2.2.1, g10⟩, g11, tabS_upd g12 (N.av r hr).2.2.2.2.2 (fun c => by rw [h0]; intro q; exact codeO_lst (Option.some.inj q)), g13, g14, fun b hb => ?_⟩
  by_cases c : b = r
  · exact ⟨_, by rw [c]; exact upd_same, rfl⟩
  · obtain ⟨o, h1, h2⟩ := g15 b hb
    exact ⟨o, z h1 c, h2⟩
theorem MachAt.dropAv (M : MachAt K H m n f) {r : Addr} {l : List Addr} (h : f.av = r :: l) : MachAt K H m n { f with av := l } := by
  have e : ({ f with av := l } : Foot).plus r = f := by
    unfold Foot.plus
    cases f
    simp only at h
    subst h
    rfl
  have pm := plus_perm { f with av := l } m r
  rw [e] at pm
  refine M.move (fun b hb => .inl ?_) (fun b o hb _ _ => hb) ?_ rfl rfl rfl rfl rfl rfl M.tab fun b hb => M.avs b (by rw [h]; exact List.mem_cons_of_mem _ hb)
  · rw [pm.mem_iff]
    exact List.mem_cons_of_mem _ hb
  · have := pm.nodup_iff.mp M.nd
    exact (List.nodup_cons.mp this).2
/-- moved, with some of the caller's own things changed -/
structure MovB (K : PySem.W.Frag) (B : List Addr) (H : Hp) (m : Addr) (f : Foot) (n' : Sv62.Net) (H' : Hp) (f' : Foot) : Prop where
  at_ : MachAt K H' m n' f'
  sub : ∀ b ∈ f'.all m, b ∈ f.all m ∨ New H b
  keep : Keep H H' (f.all m)
  ava : f'.av = f.av
  avk : ∀ b ∈ B, ∀ o, H b = some o → ntb o = true → H' b = some o
  bs : ∀ b ∈ B, b ∈ f.av
theorem MovB.of {B : List Addr} (M : MachAt K H m n f) (hb : ∀ b ∈ B, b ∈ f.av) : MovB K B H m f n H f := ⟨M, same_sub, Keep.refl, rfl, fun _ _ _ h _ => h, hb⟩
theorem MovB.out {B : List Addr} {n' : Sv62.Net} {f' : Foot} (h : MovB K B H m f n' H' f') {p : Addr} {o : HO} (hp : H p = some o) (hn : p ∉ f.all m) (ht : ntb o = true) : p ∉ f'.all m := fun z => by
  rcases h.sub p z with z | z
  · exact hn z
  · rw [z _ hp] at ht
    cases ht
theorem MovB.trans {B : List Addr} {H1 : Hp} {n1 n2 : Sv62.Net} {f1 f2 : Foot} (a : MovB K B H m f n1 H1 f1) (b : Moved K H1 m f1 n2 H' f2) : MovB K B H m f n2 H' f2 := by
  refine ⟨b.at_, fun x hx => ?_, fun x o hx hn t => ?_, b.av.1.trans a.ava, fun x hx o h t => b.av.2 x (by rw [a.ava]; exact a.bs x hx) o (a.avk x hx o h t) t, a.bs⟩
  · rcases b.sub x hx with h | h
    · exact a.sub x h
    · by_cases c : x ∈ f.all m
      · exact .inl c
      · refine .inr fun o ho => ?_
        cases t : ntb o with
        | false => rfl
        | true =>
          have := h o (a.keep x o ho c t)
          rw [t] at this
          exact this
  · exact b.keep x o (a.keep x o hx hn t) (a.out hx hn t) t
theorem MovB.then {B : List Addr} {H1 : Hp} {n' : Sv62.Net} {f' : Foot} (d : MovB K B H m f n' H1 f') (e : Ex H1 H') : MovB K B H m f n' H' f' := d.trans (.same d.at_ e)
theorem MovB.upd {B : List Addr} {n' : Sv62.Net} {f' : Foot} {r : Addr} {xs ys : List V} (d : MovB K B H m f n' H' f') (hr : r ∈ f.av) (hb : r ∉ B) (h0 : H' r = some (.lst xs)) : MovB K B H m f n' (upd H' r (.lst ys)) f' := by
  have ra : r ∈ f.all m := by
    rw [all_eq, List.mem_append]
    exact .inr hr
  refine ⟨d.at_.setAv (by rw [d.ava]; exact hr) h0, d.sub, d.keep.trans (Keep.upd ra), d.ava, fun b hbb o h t => ?_, d.bs⟩
  rw [upd_ne (fun z => hb (by rw [← z]; exact hbb))]
  exact d.avk b hbb o h t
/-- what is seen from before the caller's list was there -/
theorem MovB.fin {H0 : Hp} {n0 n' : Sv62.Net} {f' : Foot} {r : Addr} (a : Moved K H0 m f n0 H f) (nr : H0 r = none ∨ r ∉ f.all m ∧ ∀ o, H0 r = some o → ntb o = false) (d : MovB K f.av H m (f.plus r) n' H' f') : Moved K H0 m f n' H' { f' with av := f.av } ∧ r ∉ ({ f' with av := f.av } : Foot).all m := by
  have ea : f'.av = r :: f.av := d.ava
  have e : ({ f' with av := f.av } : Foot).plus r = f' := by
    unfold Foot.plus
    cases f'
    simp only at ea
    subst ea
    rfl
  have pm := plus_perm { f' with av := f.av } m r
  rw [e] at pm
  have nd := List.nodup_cons.mp (pm.nodup_iff.mp d.at_.nd)
  refine ⟨⟨d.at_.dropAv ea, fun b hb => ?_, fun b o hb hn t => ?_, rfl, fun b hb o h t => d.avk b hb o (a.av.2 b hb o h t) t⟩, nd.1⟩
  · have hb' : b ∈ f'.all m := by
      rw [pm.mem_iff]
      exact List.mem_cons_of_mem _ hb
    rcases d.sub b hb' with h | h
    · rcases mem_plus.mp h with rfl | h
      · exact absurd hb nd.1
      · exact .inl h
    · exact a.isNew h
  · have br : b ≠ r := fun z => by
      subst z
      rcases nr with nr | ⟨_, nr⟩
      · rw [nr] at hb
        cases hb
      · rw [nr o hb] at t
        cases t
    refine d.keep b o (a.keep b o hb hn t) (fun z => ?_) t
    rcases mem_plus.mp z with z | z
    · exact br z
    · exact hn z
end
theorem s_extX {K : PySem.W.Frag} {ta te : TE} {D : Ends} {σ : L2.St} {H : Hp} {l : Addr} {xs : List V} (hl : H l = some (.lst xs)) (ha : Ev ta σ H (.ref l)) (h : ∀ H1, Ex H H1 → te σ H1 fun z H2 => rExtend (.ref l) [z] H2 fun _ H' => D.nx σ H') : tDrop (tBM K "list" rExtend ta (tCons te tNil)) D σ H := ha H (Ex.refl H) _ fun H1 e1 =>
  ⟨Or.inl ⟨rfl, xs, sq_of (e1 l _ hl)⟩, h H1 e1⟩
end Lp
set_option maxHeartbeats 400000000
namespace Lp
open PySem PySem.Spec PyProof.Rows L2 Evl
/-! ### given up -/
def giveRes (n : Sv62.Net) (x : Sv62.Part) : Sv62.Net × List Int := match x.first with
  | some p => ((n.error 5 0 p p.bytes).1, (n.error 5 0 p p.bytes).2.flatMap Sv62Neutral.wanted)
  | none => (n, [])
def giveStep (y : Sv62.Net × List Sv62.Want) (x : Sv62.Part) : Sv62.Net × List Sv62.Want := match x.first with
  | some p => ((y.1.error 5 0 p p.bytes).1, y.2 ++ (y.1.error 5 0 p p.bytes).2)
  | none => y
theorem err_parts (n : Sv62.Net) (qs : List Sv62.Part) (kind number : Nat) (p : Sv62.Packet) (b : Sv62.Bytes) : ({ n with parts := qs } : Sv62.Net).error kind number p b = ({ (n.error kind number p b).1 with parts := qs }, (n.error kind number p b).2) := by
  unfold Sv62.Net.error
  by_cases c : p.what = 1 ∨ p.place ≠ 0 ∨ p.to = Sv62.EVERYBODY
  · rw [if_pos c, if_pos c]
  · rw [if_neg c, if_neg c]
    have h1 : ({ n with parts := qs } : Sv62.Net).own p.from_ = n.own p.from_ := rfl
    have h2 : ({ n with parts := qs } : Sv62.Net).best p.from_ = n.best p.from_ := rfl
    rw [h1, h2]
    by_cases c2 : n.own p.from_ = true
    · rw [if_pos c2, if_pos c2]
      rfl
    · rw [if_neg c2, if_neg c2]
      cases n.best p.from_ with
      | none => rfl
      | some w =>
        have h3 : ({ n with parts := qs } : Sv62.Net).link w.link = n.link w.link := rfl
        dsimp only
        rw [h3]
        cases n.link w.link with
        | none => rfl
        | some l => rfl
theorem err_same (n : Sv62.Net) (kind number : Nat) (p : Sv62.Packet) (b : Sv62.Bytes) : (n.error kind number p b).1.parts = n.parts := by
  have := err_parts n n.parts kind number p b
  have e : ({ n with parts := n.parts } : Sv62.Net) = n := rfl
  rw [e] at this
  have h := congrArg (fun r => r.1.parts) this
  exact h
theorem give_eq (y : Sv62.Net × List Sv62.Want) (qs : List Sv62.Part) (x : Sv62.Part) : (giveRes { y.1 with parts := qs } x).1 = { (giveStep y x).1 with parts := qs } ∧ (giveStep y x).2.flatMap Sv62Neutral.wanted = y.2.flatMap Sv62Neutral.wanted ++ (giveRes { y.1 with parts := qs } x).2 := by
  unfold giveRes giveStep
  cases x.first with
  | none => exact ⟨rfl, by simp⟩
  | some p =>
    dsimp only
    rw [err_parts]
    exact ⟨rfl, by rw [List.flatMap_append]⟩
theorem give_len (n : Sv62.Net) (x : Sv62.Part) : (giveRes n x).2.length ≤ 1000 := by
  unfold giveRes
  cases x.first with
  | none => simp
  | some p => exact err_len _ _ _ _ _
theorem step_parts (y : Sv62.Net × List Sv62.Want) (x : Sv62.Part) : (giveStep y x).1.parts = y.1.parts := by
  unfold giveStep
  cases x.first with
  | none => rfl
  | some p => exact err_same _ _ _ _ _
theorem fold_parts : ∀ (l : List Sv62.Part) (y : Sv62.Net × List Sv62.Want), (l.foldl giveStep y).1.parts = y.1.parts
  | [], _ => rfl
  | x :: r, y => by rw [List.foldl_cons, fold_parts r, step_parts]
def lateB (t : Nat) (x : Sv62.Part) : Bool := decide (x.since + Sv62.LATE ≤ t)
def tickNet (n : Sv62.Net) (t : Nat) : Sv62.Net := { n with now := t, parts := n.parts.filter fun x => !lateB t x }
def tickAcc (n : Sv62.Net) (t i : Nat) : Sv62.Net × List Sv62.Want := ((n.parts.take i).filter (lateB t)).foldl giveStep (tickNet n t, [])
theorem step_tick (n : Sv62.Net) (t : Nat) (ht : t < 2 ^ 63) : Sv62Neutral.step n [[9, (t : Int)]] = if t < n.now then (n, [-1]) else ((tickAcc n t n.parts.length).1, 0 :: (tickAcc n t n.parts.length).2.flatMap Sv62Neutral.wanted) := by
  have e : Sv62Neutral.step n [[9, (t : Int)]] = ((Sv62.does n (.tick (t : Int))).1, (Sv62.does n (.tick (t : Int))).2.v :: (Sv62Neutral.ints (Sv62.does n (.tick (t : Int))).2.numbers ++ (Sv62.does n (.tick (t : Int))).2.wants.flatMap Sv62Neutral.wanted)) := rfl
  rw [e]
  unfold Sv62.does
  by_cases c : t < n.now
  · have c' : (t : Int) < (n.now : Int) ∨ (2 : Int) ^ 63 ≤ (t : Int) := .inl (by omega)
    simp only [if_pos c']
    rw [if_pos c]
    rfl
  · have c' : ¬ ((t : Int) < (n.now : Int) ∨ (2 : Int) ^ 63 ≤ (t : Int)) := by
      rintro (h | h)
      · omega
      · have : (2 : Int) ^ 63 = 9223372036854775808 := by decide
        have : (2 : Nat) ^ 63 = 9223372036854775808 := by decide
        omega
    simp only [if_neg c']
    rw [if_neg c]
    unfold tickAcc
    rw [List.take_of_length_le (Nat.le_refl _)]
    rfl
def tickAt (n : Sv62.Net) (t i : Nat) : Sv62.Net := { (tickAcc n t i).1 with parts := (n.parts.take i).filter (fun x => !lateB t x) ++ n.parts.drop i }
theorem tick_zero (n : Sv62.Net) (t : Nat) : tickAt n t 0 = { n with now := t } := rfl
theorem tick_end (n : Sv62.Net) (t : Nat) : tickAt n t n.parts.length = (tickAcc n t n.parts.length).1 := by
  have h : (tickAcc n t n.parts.length).1.parts = n.parts.filter fun x => !lateB t x := fold_parts _ _
  unfold tickAt
  rw [List.take_of_length_le (Nat.le_refl _), List.drop_of_length_le (Nat.le_refl _), List.append_nil, ← h]
theorem take_one {α : Type} {l : List α} {i : Nat} {x : α} (h : l[i]? = some x) : l.take (i + 1) = l.take i ++ [x] := by
  rw [List.take_add_one, h]
  rfl
theorem drop_one' {α : Type} {l : List α} {i : Nat} {x : α} (h : l[i]? = some x) : l.drop i = x :: l.drop (i + 1) := by
  obtain ⟨h1, h2⟩ := List.getElem?_eq_some_iff.mp h
  rw [List.drop_eq_getElem_cons h1, h2]
theorem tick_not {n : Sv62.Net} {t i : Nat} {x : Sv62.Part} (h : n.parts[i]? = some x) (hl : lateB t x = false) : tickAcc n t (i + 1) = tickAcc n t i ∧ tickAt n t (i + 1) = tickAt n t i := by
  have e1 : tickAcc n t (i + 1) = tickAcc n t i := by
    unfold tickAcc
    rw [take_one h, List.filter_append, List.filter_cons_of_neg (by rw [hl]; decide), List.filter_nil, List.append_nil]
  refine ⟨e1, ?_⟩
  unfold tickAt
  rw [e1, take_one h, List.filter_append, List.filter_cons_of_pos (by rw [hl]; rfl), List.filter_nil, List.append_assoc, drop_one' h]
  rfl
theorem tick_late {n : Sv62.Net} {t i : Nat} {x : Sv62.Part} (h : n.parts[i]? = some x) (hl : lateB t x = true) : tickAcc n t (i + 1) = giveStep (tickAcc n t i) x ∧ (tickAt n t i).parts.eraseIdx ((n.parts.take i).filter fun x => !lateB t x).length = (n.parts.take (i + 1)).filter (fun x => !lateB t x) ++ n.parts.drop (i + 1) := by
  refine ⟨?_, ?_⟩
  · unfold tickAcc
    rw [take_one h, List.filter_append, List.filter_cons_of_pos (by rw [hl]), List.filter_nil, List.foldl_append]
    rfl
  · unfold tickAt
    dsimp only
    rw [drop_one' h, List.eraseIdx_append_of_length_le (Nat.le_refl _), Nat.sub_self, List.eraseIdx_cons_zero, take_one h, List.filter_append, List.filter_cons_of_neg (by rw [hl]; decide), List.filter_nil, List.append_nil]
theorem tick_at {n : Sv62.Net} {t i : Nat} {x : Sv62.Part} (h : n.parts[i]? = some x) : (tickAt n t i).parts[((n.parts.take i).filter fun x => !lateB t x).length]? = some x := by
  unfold tickAt
  dsimp only
  rw [drop_one' h, List.getElem?_append_right (Nat.le_refl _), Nat.sub_self]
  rfl
theorem ar_el {te : TE} {tr : TA} {σ : L2.St} {H : Hp} {xs : List V} {R : List V → Hp → Prop} (h : EvL te σ H xs) (hr : EvAR tr σ H R) : EvAR (tCons te tr) σ H fun vs H' => ∃ p r, vs = .ref p :: r ∧ H p = none ∧ H' p = some (.lst xs) ∧ R r H' := fun H1 e Q q =>
  h H1 e _ fun p H2 np e2 hp => hr H2 (e.trans e2) _ fun vs H3 e3 r => q _ H3 (e2.trans e3) ⟨p, vs, rfl, fresh_back e np, e3 _ _ hp, r⟩
section
variable {P : Program} {w : World} {K : PySem.W.Frag} {mg : Str → Option Value} {base : Heap}
def sp_given_up (K : PySem.W.Frag) : Sp := fun vs H Q _ => ∃ (m : Addr) (n : Sv62.Net) (f : Foot) (S : List Addr) (g pl : Addr) (sp : Bool) (ps : List Sv62.Packet) (x : Sv62.Part), vs = [.ref m, .ref g] ∧ MachAt K H m n f ∧ GObj K H S g pl sp ps ∧ PartIs x ps ∧ (∀ b ∈ f.all m, b ∈ S) ∧
  ∀ r H', Done K H m f (giveRes n x).1 (giveRes n x).2 r H' → Q (.ref r) H'
theorem len_given_up {vs : List V} {H : Hp} {Q : VK} {E : XK} (h : sp_given_up K vs H Q E) : vs.length = 2 := by
  obtain ⟨m, n, f, S, g, pl, sp, ps, x, rfl, _⟩ := h
  rfl
theorem sc_given_up : FnScope ["machine", "gathering", "first"] ["machine", "gathering"] (defScope s_given_up) := ⟨rfl, rfl, rfl, by decide +kernel, rfl, by decide +kernel, by decide +kernel⟩
theorem okF_given_up (T : Txt K mg base) {fd : FuncData} (F : FunD K d_given_up.name d_given_up.qual d_given_up.params d_given_up.body d_given_up.scope [] [] (He.fAd K d_given_up.at_) fd) : FnOk P w K mg base CX0 7 (He.ga K "given_up") fd ["machine", "gathering"] (sp_given_up K) := by
  obtain ⟨fd_error_back, G_error_back, b_error_back, k_error_back⟩ := ok_error_back (P := P) (w := w) (base := base) T
  obtain ⟨fd_head_bytes, G_head_bytes, b_head_bytes, k_head_bytes⟩ := ok_head_bytes (P := P) (w := w) (base := base) T
  obtain ⟨fd_first_piece, G_first_piece, b_first_piece, k_first_piece⟩ := ok_first_piece (P := P) (w := w) (base := base) T
  refine F.ok sc_given_up (fun vs H Q E h => len_given_up h) (fun cdv Ar outer s H vs Q E hr h => ?_)
  refine ⟨_, PSs.nox (pss_cons (ps_set (i := 2) sc_given_up.nd rfl (Or.inl rfl) (pe_call G_first_piece (hr.mono (by decide)) rfl T.g_first_piece k_first_piece b_first_piece .nil pass0 (pa_cons (pv 1) pa_nil)))
      (pss_cons (ps_if (pt_cmpR op_isN (pv 2) pe_non (nomark _)) (pss_one (ps_ret (pe_lst pa_nil))) pss_nil)
      (pss_one (ps_ret (pe_call G_error_back (hr.mono (by decide)) rfl T.g_error_back k_error_back b_error_back .nil pass0 (pa_cons (pv 0) (pa_cons (pe_gi rfl T.c_PIECES_MISSING) (pa_cons pe_int (pa_cons (pe_fld (pv 2) rfl) (pa_cons (pe_op op_cat (pe_call G_head_bytes (hr.mono (by decide)) rfl T.g_head_bytes k_head_bytes b_head_bytes .nil pass0 (pa_cons (pe_fld (pv 2) rfl) pa_nil)) (pe_fld (pv 2) rfl)) pa_nil)))))))))), ?_⟩
  obtain ⟨m, n, f, S, g, pl, sp, ps, x, rfl, M, GO, px, hS, q⟩ := h
  refine sq_setR (R := fun z H2 => match x.first with | none => z = .non | some p => PieceV K H2 S z p) (fun H2 e2 Q2 q2 => (ea_cons (ev_var (i := 1) rfl) ea_nil) H2 e2 _ fun H3 e3 => ⟨S, g, pl, sp, ps, rfl, GO.ex (e2.trans e3), fun hn H4 e4 => q2 _ H4 (e3.trans e4) ?_, fun p hp v H4 e4 y => q2 _ H4 (e3.trans e4) ?_⟩) fun z H1 e1 hz => ?_
  · rw [px.first, hn]
  · rw [px.first, hp]
    exact y
  unfold giveRes at q
  cases hf : x.first with
  | none =>
    simp only [hf] at hz q
    subst hz
    refine sq_if (b := true) (et_is (et_test (ev_isN (ev_var (i := 2) rfl))) rfl) (fun _ H2 e2 => ?_) (fun z => Bool.noConfusion z)
    exact ret_el (el_lst ea_nil (by show 0 ≤ 100000; decide)) fun r H3 nr e3 k3 => q r H3 (Done.same M ((e1.trans e2).trans e3) (fresh_back (e1.trans e2) nr) k3)
  | some p =>
    simp only [hf] at hz q
    obtain ⟨a, dx, hh, b, rfl, na, nh, nb, oa, hA, ob⟩ := id hz
    refine sq_if (b := false) (et_is (et_test (ev_isN (ev_var (i := 2) rfl))) rfl) (fun z => Bool.noConfusion z) (fun _ H2 e2 => ?_)
    have e12 := e1.trans e2
    have M2 := M.ex e12
    have y2 := PieceV.ex e2 hz
    have hA2 := hA.ex e2
    have oa2 := e2 _ _ oa
    have hp : p ∈ ps := List.mem_of_find?_eq_some (px.first.symm.trans hf)
    have pk := (px.ok p hp).pk
    have hs : HdSm (hdOf p (20 + p.body.length)) := ⟨Nat.lt_of_le_of_lt pk.hops.2 (by decide), Nat.lt_of_le_of_lt pk.what.2 (by decide), flag_lt _ _⟩
    have pl1 := pk.len
    have evh : Ev (tFld K (tVar 2) "head") [some (.ref m), some (.ref g), some (.ref a)] H2 (.ref hh) := ev_fld (ev_var (i := 2) rfl) oa2 T.cl_Piece T.n_Piece_head F_Piece_head
    have ct : EvL (tOp rCat (tCall (sp_head_bytes K) [] E0 (tCons (tFld K (tVar 2) "head") tNil)) (tFld K (tVar 2) "body")) [some (.ref m), some (.ref g), some (.ref a)] H2 (bv p.bytes) := by
      have z := el_cat (es_el (el_call (E := E0) (ea_cons evh ea_nil) (hb_L hA2 hs))) (fp_body T (σ := [some (.ref m), some (.ref g), some (.ref a)]) (i := 2) rfl y2) (by
        rw [bv_len, bv_len, bytes_len]
        exact line_le (by omega))
      rw [hdOf_bytes, ← bv_app] at z
      exact z
    refine ret_x (x_callR (R := fun z H' => ∃ r, z = .ref r ∧ Done K H2 m f (n.error 5 0 p p.bytes).1 ((n.error 5 0 p p.bytes).2.flatMap Sv62Neutral.wanted) r H') (ar_ev (ev_var (i := 0) rfl) (ar_ev (ev_c (v := V.int 5)) (ar_ev (ev_c (v := V.int 0)) (ar_ev evh (ar_el ct ar_nil))))) fun ws H3 e3 ⟨r1, w1, r2, w2, r3, w3, r4, w4, c, r5, w5, nc, hc, w6⟩ Q3 E3 q3 => ?_) fun z H' ⟨r, hz, dn⟩ => ?_
    · subst w1 w2 w3 w4 w5 w6
      exact ⟨m, n, f, 5, 0, hh, p, _, c, p.bytes, rfl, M2.ex e3, by decide, hA2.ex e3, fun z => nh (hS _ z), hc, M2.fresh nc, pk.from_.1, pk.from_.2, fun r H4 dn => q3 _ _ ⟨r, rfl, dn.after e3⟩⟩
    · subst hz
      exact q r H' (dn.after e12)
theorem ok_given_up (T : Txt K mg base) : DefOk P w K mg base 7 (He.ga K "given_up") ["machine", "gathering"] (sp_given_up K) := by
  obtain ⟨fd, F⟩ := T.fd_given_up
  exact ⟨fd, okF_given_up T F, F.bindsN fun _ _ _ _ _ _ us hl => match us, hl with | [_, _], _ => rfl, F.kp⟩
end
end Lp
set_option maxHeartbeats 400000000
namespace Lp
open PySem PySem.Spec PyProof.Rows L2 Evl
/-- a tuple is none of the machine's own things -/
theorem MachAt.noTup {K : PySem.W.Frag} {H : Hp} {m : Addr} {n : Sv62.Net} {f : Foot} {b : Addr} {xs : List V} (M : MachAt K H m n f) (hb : H b = some (.tup xs)) : b ∈ f.all m → b ∈ f.av := by
  intro z
  obtain ⟨dx, h2⟩ := M.obj
  obtain ⟨vs, h3, _⟩ := M.lks
  obtain ⟨kvs, h5, _⟩ := M.wys
  obtain ⟨a, b', c, h9, _⟩ := M.tks
  obtain ⟨ps, h12, _⟩ := M.tab
  have no : ∀ {o : HO}, H b = some o → (∀ ys, o ≠ .tup ys) → False := fun {o} ho hn => by
    rw [hb] at ho
    exact hn xs (Option.some.inj ho).symm
  simp only [Foot.all, List.mem_cons, List.mem_append, List.mem_map] at z
  rcases z with rfl | rfl | rfl | rfl | rfl | rfl | ⟨g, hg, rfl⟩ | ⟨g, hg, rfl⟩ | h
  · exact (no h2 fun _ z => nomatch z).elim
  · exact (no h3 fun _ z => nomatch z).elim
  · exact (no h5 fun _ z => nomatch z).elim
  · exact (no M.gas fun _ z => nomatch z).elim
  · exact (no h9 fun _ z => nomatch z).elim
  · exact (no h12 fun _ z => nomatch z).elim
  · obtain ⟨x, _, dx, vs, ps, o1, _⟩ := paired_in M.gat g hg
    exact (no o1 fun _ z => nomatch z).elim
  · obtain ⟨x, _, dx, vs, ps, _, o2, _⟩ := paired_in M.gat g hg
    exact (no o2 fun _ z => nomatch z).elim
  · exact h
section
variable {P : Program} {w : World} {K : PySem.W.Frag} {mg : Str → Option Value} {base : Heap}
/-! ### tick -/
def A_tick (_ : Hp) (_ : List Addr) (rest : List V) (c : Sv62Neutral.Call) : Prop := ∃ t : Nat, rest = [.int (t : Int)] ∧ t < 2 ^ 63 ∧ c = [[9, (t : Int)]]
abbrev sp_answer_tick (K : PySem.W.Frag) : Sp := spCall K A_tick
theorem len_answer_tick {vs : List V} {H : Hp} {Q : VK} {E : XK} (h : sp_answer_tick K vs H Q E) : vs.length = 2 := by
  obtain ⟨m, n, f, rest, c, rfl, _, ⟨t, rfl, _⟩, _⟩ := h
  rfl
def tickAns (n : Sv62.Net) (t i : Nat) : List Int := 0 :: (tickAcc n t i).2.flatMap Sv62Neutral.wanted
theorem sc_answer_tick : FnScope ["machine", "now", "answer", "key"] ["machine", "now"] (defScope s_answer_tick) := ⟨rfl, rfl, rfl, by decide +kernel, rfl, by decide +kernel, by decide +kernel⟩
theorem okF_answer_tick (T : Txt K mg base) {fd : FuncData} (F : FunD K d_answer_tick.name d_answer_tick.qual d_answer_tick.params d_answer_tick.body d_answer_tick.scope [] [] (He.fAd K d_answer_tick.at_) fd) : FnOk P w K mg base CX0 8 (He.ga K "answer_tick") fd ["machine", "now"] (sp_answer_tick K) := by
  obtain ⟨fd_given_up, G_given_up, b_given_up, k_given_up⟩ := ok_given_up (P := P) (w := w) (base := base) T
  refine F.ok sc_answer_tick (fun vs H Q E h => len_answer_tick h) (fun cdv Ar outer s H vs Q E hr h => ?_)
  refine ⟨_, PSs.nox (pss_cons (ps_if (pt_cmpR op_lt (pv 1) (pe_fld (pv 0) rfl) (nomark _)) (pss_one (ps_ret (pe_lst (pa_cons (pe_gi rfl T.c_WRONG_ARGUMENTS) pa_nil)))) pss_nil)
      (pss_cons (ps_fld (pv 0) (pv 1) rfl)
      (pss_cons (ps_set (i := 2) sc_answer_tick.nd rfl (Or.inl rfl) (pe_lst (pa_cons pe_int pa_nil)))
      (pss_cons (ps_for PassesOwn.never rfl (pi_list (pe_callTy (call_list_dT rfl) (by rfl) T.f_list (by decide +kernel) (pa_cons (pe_fld (pv 0) rfl) pa_nil))) (pg_name (i := 3) sc_answer_tick.nd rfl (Or.inl rfl)) (pss_one (ps_if (pt_cmpR op_ge (pe_op op_sub (pv 1) (pe_fld (pe_dget (hu_of hr) (pe_fld (pv 0) rfl) (pv 3) (fun _ _ => rfl)) rfl)) (pe_gi rfl T.c_PATIENCE) (nomark _)) (pss_one (ps_expr (pe_bm PySem.F.plainAttrs_list PySem.F.slot_list_extend PySem.F.type_list_extend mt_extend (pv 2) (pa_cons (pe_call G_given_up (hr.mono (by decide)) rfl T.g_given_up k_given_up b_given_up .nil pass0 (pa_cons (pv 0) (pa_cons (pe_popT (hu_of hr) (pe_fld (pv 0) rfl) (pv 3) ⟨rfl, rfl, rfl, rfl⟩) pa_nil))) pa_nil)))) pss_nil)))
      (pss_one (ps_ret (pv 2))))))), ?_⟩
  obtain ⟨m, n, f, _, _, rfl, M, ⟨t, rfl, ht, rfl⟩, q⟩ := h
  rw [step_tick n t ht] at q
  refine sq_if (b := decide (t < n.now)) (et_is (et_test (ev_op (ev_var (i := 1) rfl) (fm_time T (i := 0) rfl M) rv_I0)) ?_) (fun hc H1 e1 => ?_) (fun hc H1 e1 => ?_)
  · apply decide_eq_decide.mpr
    omega
  · rw [if_pos (of_decide_eq_true hc)] at q
    exact ret_el (el_lst (ea_cons ev_c ea_nil) (by show 1 ≤ 100000; decide)) fun p H2 np e2 h2 => q p H2 (Done.same M (e1.trans e2) (fresh_back e1 np) h2)
  · rw [if_neg (of_decide_eq_false hc)] at q
    have M1 := M.ex e1
    obtain ⟨dm, om⟩ := M1.obj
    refine sq_fld (y := .int (t : Int)) (ev_var (i := 1) rfl) (ev_var (i := 0) rfl) om T.cl_Machine T.n_Machine_time (by show 7 < 1000; decide) fun H2 e2 => ?_
    rw [F_Machine_put_time]
    have mvA : Moved K H m f (tickAt n t 0) (upd H2 m (.ins (He.ga K "Machine") dm (F_Machine (.ref f.lk) (.ref f.wy) (.bl n.passes) (.ref f.ga) (.int (t : Int)) (.int (n.name : Int)) (.ref f.tk)))) f := ((M1.ex e2).put (e2 _ _ om) n.passes t n.name M.gp.name).after (e1.trans e2)
    generalize hHm : upd H2 m (.ins (He.ga K "Machine") dm (F_Machine (.ref f.lk) (.ref f.wy) (.bl n.passes) (.ref f.ga) (.int (t : Int)) (.int (n.name : Int)) (.ref f.tk))) = Hm at mvA
    refine sq_setEL (xs := [.int 0]) (el_lst (ea_cons ev_c ea_nil) (by show 1 ≤ 100000; decide)) fun r Hr nr er kr => ?_
    have Mr : MachAt K Hr m (tickAt n t 0) (f.plus r) := mvA.at_.addAv er nr kr rfl
    have hgl : f.gs.length = n.parts.length := M.gat.length
    have hparts : (tickAt n t 0).parts = n.parts := rfl
    refine q_forE (K := K) (R := fun l xs H1 => ∃ bs : List Addr, xs = bs.map V.ref ∧ Ex Hr H1 ∧ Hr l = none ∧ IsKeys H1 (dOf f.gs n.parts) bs) (fun Q k => keys_go (fm_ga T (i := 0) rfl Mr) Mr.gas fun l bs H2 nl e2 hl hk => k l _ H2 hl ⟨bs, rfl, e2, nl, hk⟩) fun l xs H1 hl1 hR => ?_
    obtain ⟨bs, rfl, eR, nl, hk⟩ := hR
    have M1' := Mr.ex eR
    have lout : l ∉ (f.plus r).all m := Mr.fresh nl
    have hbl : bs.length = n.parts.length := by
      rw [← hk.length]
      exact dOf_len (K := K) (H := H) (S := f.all m) M.gat
    have mvR : Moved K H m f (tickAt n t 0) H1 f := mvA.then (er.trans eR)
    have nrb : r ∉ f.av := fun z => M.fresh (p := r) (by
      cases hr : H r with
      | none => rfl
      | some o =>
        obtain ⟨u, h1, h2⟩ := M.avs r z
        have := mvA.av.2 r z u h1 h2
        rw [nr] at this
        cases this) (by rw [all_eq, List.mem_append]; exact .inr z)
    have nr0 : H r = none ∨ r ∉ f.all m ∧ ∀ o, H r = some o → ntb o = false := by
      by_cases c : r ∈ f.all m
      · exfalso
        exact mvA.at_.fresh nr c
      · refine .inr ⟨c, fun o ho => ?_⟩
        cases tt : ntb o with
        | false => rfl
        | true =>
          have := mvA.keep r o ho c tt
          rw [nr] at this
          cases this
    refine ⟨fun i σ' H' => ∃ (v3 : Option V) (fi : Foot), σ' = [some (.ref m), some (.int (t : Int)), some (.ref r), v3] ∧ MovB K f.av H1 m (f.plus r) (tickAt n t i) H' fi ∧ H' r = some (.lst ((tickAns n t i).map V.int)) ∧ (tickAns n t i).length ≤ 1000 * i + 1, ⟨none, f.plus r, rfl, .of M1' (fun b hb => List.mem_cons_of_mem _ hb), eR _ _ kr, by show 1 ≤ _; omega⟩, fun i σ' H' _ z => ?_, fun i y σ' H' hy z => ?_, fun σ' H' z => ?_⟩
    · obtain ⟨_, _, _, mb, _⟩ := z
      exact sq_of (mb.keep _ _ hl1 lout rfl)
    · obtain ⟨v3, fi, rfl, mb, hr', hlen⟩ := z
      rw [List.getElem?_map] at hy
      cases hbi : bs[i]? with
      | none =>
        rw [hbi] at hy
        cases hy
      | some b =>
        rw [hbi] at hy
        obtain rfl : V.ref b = y := Option.some.inj hy
        have hi : i < n.parts.length := by
          rw [← hbl]
          exact (List.getElem?_eq_some_iff.mp hbi).1
        have hi64 := M.gp.few
        obtain ⟨x, hx⟩ : ∃ x, n.parts[i]? = some x := ⟨_, List.getElem?_eq_getElem hi⟩
        obtain ⟨g0, hg0⟩ : ∃ g, f.gs[i]? = some g := ⟨_, List.getElem?_eq_getElem (by omega)⟩
        obtain ⟨kv, hkv, hkb⟩ := pr_get hk hbi
        have ekv : kv = (pkey x, V.ref g0.1) := by
          have h1 : (dOf f.gs n.parts)[i]? = some (pkey x, V.ref g0.1) := by
            unfold dOf
            rw [List.getElem?_zipWith, hx, hg0]
          rw [h1] at hkv
          exact (Option.some.inj hkv).symm
        subst ekv
        have kb : H' b = some (.tup ((pkey x).map kV)) := by
          by_cases c : b ∈ (f.plus r).all m
          · have := M1'.noTup hkb c
            rcases List.mem_cons.mp this with rfl | h
            · rw [eR _ _ kr] at hkb
              cases hkb
            · exact mb.avk b h _ hkb rfl
          · exact mb.keep _ _ hkb c rfl
        have Mi := mb.at_
        have hj := tick_at (t := t) hx
        obtain ⟨g, hg, ga⟩ := pr_get Mi.gat hj
        obtain ⟨dxg, vs, ps, o1, o2, pp, px⟩ := id ga
        have hv : valV (dOf fi.gs (tickAt n t i).parts) (pkey x) = some (.ref g.1) := dOf_val Mi.gp.nd hj hg
        refine if_ev (b := lateB t x) (et_is (et_test (ev_op (ev_op (ev_var (i := 1) rfl) (ev_fld (ev_atT (fm_ga T (i := 0) rfl Mi) (ev_var (i := 3) rfl) Mi.gas kb hv) o1 T.cl_Gathering T.n_Gathering_began F_Gathering_began) rv_I0) ev_c rv_I0)) ?_) (fun hlate H2 e2 => ?_) (fun hlate H2 e2 => ?_)
        · show decide ((30000 : Int) ≤ (t : Int) - (x.since : Int)) = decide (x.since + 30000 ≤ t)
          apply decide_eq_decide.mpr
          omega
        · obtain ⟨ta, te⟩ := tick_late hx hlate
          refine s_extX (K := K) (e2 _ _ hr') (ev_var (i := 2) rfl) fun H3 e3 => ?_
          refine call_of (cons_of (ev_go (v := V.ref m) (ev_var (i := 0) rfl) fun H4 e4 => cons_of ?_))
          have e24 := (e2.trans e3).trans e4
          have M4 := Mi.ex e24
          refine popT_of (fm_ga T (i := 0) rfl M4) M4.gas fun H5 e5 => ev_go (v := V.ref b) (ev_var (i := 3) rfl) fun H6 e6 => ?_
          have e26 := (e24.trans e5).trans e6
          have M6 := Mi.ex e26
          refine ⟨dOf fi.gs (tickAt n t i).parts, pkey x, b, .ref g.1, rfl, M6.gas, e26 _ _ kb, hv, nil_of ?_⟩
          rw [dOf_drop Mi.gat.length Mi.gp.nd hj]
          have mvD := M6.dropGa ((n.parts.take i).filter fun x => !lateB t x).length
          have N := footNe M6.nd
          have hgm : g ∈ fi.gs := List.mem_of_getElem? hg
          generalize hH7 : upd H6 fi.ga (.dT (dOf (fi.gs.eraseIdx ((n.parts.take i).filter fun x => !lateB t x).length) ((tickAt n t i).parts.eraseIdx ((n.parts.take i).filter fun x => !lateB t x).length))) = H7 at mvD
          have gob : GObj K H7 (fi.all m) g.1 g.2 x.spoiled ps := by
            refine ⟨⟨dxg, V.int (x.since : Int), ?_⟩, vs, ?_, pr_map (fun _ _ y => (y.ex e26).keep mvD.keep same_sub) pp⟩
            · rw [← hH7, upd_ne (N.one g hgm).2.2.2.1.symm]
              exact e26 _ _ o1
            · rw [← hH7, upd_ne (N.two g hgm).2.2.2.1.symm]
              exact e26 _ _ o2
          rw [te] at mvD
          refine ⟨m, _, _, fi.all m, g.1, g.2, x.spoiled, ps, x, rfl, mvD.at_, gob, px, fun c hc => (all_sub (List.eraseIdx_sublist _ _)).subset hc, fun r2 H8 dn => ?_⟩
          obtain ⟨f8, mv8, _, out8, h8⟩ := dn
          have mb8 := ((mb.then e26).trans mvD).trans mv8
          obtain ⟨ge1, ge2⟩ := give_eq (tickAcc n t i) ((n.parts.take (i + 1)).filter (fun x => !lateB t x) ++ n.parts.drop (i + 1)) x
          have gl := give_len { (tickAcc n t i).1 with parts := (n.parts.take (i + 1)).filter (fun x => !lateB t x) ++ n.parts.drop (i + 1) } x
          have rin : r ∈ fi.av := by
            rw [mb.ava]
            exact List.mem_cons_self
          have r7 : H7 r = some (.lst ((tickAns n t i).map V.int)) := mvD.av.2 r rin _ (e26 _ _ hr') rfl
          have r8 : H8 r = some (.lst ((tickAns n t i).map V.int)) := mv8.av.2 r rin _ r7 rfl
          have en : (giveRes { (tickAcc n t i).1 with parts := (n.parts.take (i + 1)).filter (fun x => !lateB t x) ++ n.parts.drop (i + 1) } x).1 = tickAt n t (i + 1) := by
            rw [ge1, ← ta]
            rfl
          have ea : tickAns n t (i + 1) = tickAns n t i ++ (giveRes { (tickAcc n t i).1 with parts := (n.parts.take (i + 1)).filter (fun x => !lateB t x) ++ n.parts.drop (i + 1) } x).2 := by
            unfold tickAns
            rw [ta, ge2]
            rfl
          refine ⟨r, r2, _, _, rfl, rfl, r8, h8, ?_, ?_⟩
          · rw [List.length_map, List.length_map]
            exact line_le (by
              have := Nat.add_le_add hlen gl
              refine Nat.le_trans this ?_
              omega)
          · rw [← List.map_append]
            refine ⟨_, f8, rfl, ?_, ?_, ?_⟩
            · have mb9 := mb8.upd (ys := ((tickAns n t i ++ (giveRes { (tickAcc n t i).1 with parts := (n.parts.take (i + 1)).filter (fun x => !lateB t x) ++ n.parts.drop (i + 1) } x).2).map V.int)) (r := r) List.mem_cons_self nrb r8
              rw [← en]
              exact mb9
            · rw [ea]
              exact upd_same
            · rw [ea, List.length_append]
              refine Nat.le_trans (Nat.add_le_add hlen gl) ?_
              omega
        · obtain ⟨ta, te⟩ := tick_not hx hlate
          refine ⟨_, fi, rfl, ?_, ?_, ?_⟩
          · rw [te]
            exact mb.then e2
          · unfold tickAns
            rw [ta]
            exact e2 _ _ hr'
          · unfold tickAns
            rw [ta]
            refine Nat.le_trans hlen ?_
            omega
    · obtain ⟨v3, fi, rfl, mb, hr', hlen⟩ := z
      rw [List.length_map, hbl] at mb hr'
      rw [tick_end] at mb
      refine ret_ev (ev_var (i := 2) rfl) fun H2 e2 => ?_
      obtain ⟨mvF, rout⟩ := MovB.fin mvR nr0 (mb.then e2)
      refine q r H2 ⟨_, mvF, ?_, rout, e2 _ _ hr'⟩
      rcases nr0 with h | h
      · exact .inr (.of h)
      · exact .inr fun o ho => h.2 o ho
theorem ok_answer_tick (T : Txt K mg base) : DefOk P w K mg base 8 (He.ga K "answer_tick") ["machine", "now"] (sp_answer_tick K) := by
  obtain ⟨fd, F⟩ := T.fd_answer_tick
  exact ⟨fd, okF_answer_tick T F, F.bindsN fun _ _ _ _ _ _ us hl => match us, hl with | [_, _], _ => rfl, F.kp⟩
end
end Lp
set_option maxHeartbeats 400000000
namespace Lp
open PySem PySem.Spec PyProof.Rows L2 Evl
theorem pe_gr {X : Cx} {x : Str} {a : Addr} {pos : Pos} (hg : Gl X x) (h : X.mg x = some (.ref a)) (hd : (x == ("__debug__" : Str)) = false := by decide) : PE X (.Name x pos) (tC (.ref a)) := pe_glob hg h rfl hd
/-! ### one call -/
inductive CallC (H : Hp) (S : List Addr) (d : Addr) : Int → List Int → Sv62Neutral.Call → Prop
  | new : CallC H S d 0 [] [[0]]
  | link {k : Int} {a : Nat} {b g : Int} : a < 2 ^ 32 → CallC H S d 1 [k, (a : Int), b, g] [[1, k, (a : Int), b, g]]
  | pass {on : Int} : CallC H S d 2 [on] [[2, on]]
  | way {a : Nat} {b k : Int} {x : Nat} : a < 2 ^ 32 → CallC H S d 3 [(a : Int), b, k, (x : Int)] [[3, (a : Int), b, k, (x : Int)]]
  | away {a : Nat} {b : Int} : a < 2 ^ 32 → CallC H S d 4 [(a : Int), b] [[4, (a : Int), b]]
  | best {a : Nat} : a < 2 ^ 32 → CallC H S d 5 [(a : Int)] [[5, (a : Int)]]
  | send {what : Int} {s t : Nat} {hops uncut link : Int} {b : Sv62.Bytes} : H d = some (.lst (bv b)) → d ∉ S → b.length ≤ 15900 → t < 4294967296 → CallC H S d 6 [what, (s : Int), (t : Int), hops, uncut, link] [[6, what, (s : Int), (t : Int), hops, uncut, link], Sv62Neutral.ofOctets b]
  | take {k : Int} {b : Sv62.Bytes} : H d = some (.lst (bv b)) → d ∉ S → b.length ≤ 15900 → CallC H S d 7 [k] [[7, k], Sv62Neutral.ofOctets b]
  | error {kind : Int} {z : Nat} {b : Sv62.Bytes} : H d = some (.lst (bv b)) → d ∉ S → b.length ≤ 15900 → CallC H S d 8 [kind, (z : Int)] [[8, kind, (z : Int)], Sv62Neutral.ofOctets b]
  | tick {t : Nat} : t < 2 ^ 63 → CallC H S d 9 [(t : Int)] [[9, (t : Int)]]
  | told : CallC H S d 10 [] [[10]]
theorem sq_skip {t u : TS} {D : Ends} {σ : L2.St} {H : Hp} {j k : Int} (hs : σ[1]? = some (some (.int j))) (hne : decide (V.int j = V.int k) = false) (q : ∀ H', Ex H H' → u D σ H') : tSeq (tIfS (tTest (tOp rEq (tVar 1) (tC (.int k)))) t tNext) u D σ H :=
  sq_if (b := false) (et_is (et_test (ev_op (ev_var hs) ev_c (rv_eq rfl))) hne) (fun z => Bool.noConfusion z) fun _ H' e => q H' e
theorem sq_hit {t u : TS} {D : Ends} {σ : L2.St} {H : Hp} {j : Int} (hs : σ[1]? = some (some (.int j))) (q : ∀ H', Ex H H' → t { D with nx := u D } σ H') : tSeq (tIfS (tTest (tOp rEq (tVar 1) (tC (.int j)))) t tNext) u D σ H :=
  sq_if (b := true) (et_is (et_test (ev_op (ev_var hs) ev_c (rv_eq rfl))) (by simp)) (fun _ H' e => q H' e) fun z => Bool.noConfusion z
section
variable {P : Program} {w : World} {K : PySem.W.Frag} {mg : Str → Option Value} {base : Heap}
theorem ret_one {A : Hp → List Addr → List V → Sv62Neutral.Call → Prop} {ta : TA} {D : Ends} {σ : L2.St} {H0 H : Hp} {m : Addr} {n : Sv62.Net} {f : Foot} {rest : List V} {c : Sv62Neutral.Call} {E : XK} (M : MachAt K H0 m n f) (e : Ex H0 H) (ha : EvA ta σ H (.ref m :: rest)) (hA : ∀ H2, Ex H0 H2 → A H2 (f.all m) rest c)
    (q : ∀ p H', Done K H0 m f (Sv62Neutral.step n c).1 (Sv62Neutral.step n c).2 p H' → D.rt (.ref p) H') : tRet (tCall (spCall K A) [] E ta) D σ H :=
  ret_x (x_call (R := fun z H' => ∃ p, z = .ref p ∧ Done K H0 m f (Sv62Neutral.step n c).1 (Sv62Neutral.step n c).2 p H') ha fun H2 e2 Q2 E2 q2 => ⟨m, n, f, rest, c, rfl, M.ex (e.trans e2), hA H2 (e.trans e2), fun p H' dn => q2 _ _ ⟨p, rfl, dn.after (e.trans e2)⟩⟩) fun z H' ⟨p, hz, dn⟩ => by
    subst hz
    exact q p H' dn
theorem ev_num {σ : L2.St} {H : Hp} {nb : Addr} {xs : List Int} {x : Int} (i : Nat) (hs : σ[2]? = some (some (.ref nb))) (hn : H nb = some (.lst (xs.map V.int))) (hx : xs[i]? = some x) : Ev (tOp (rIxL K) (tVar 2) (tC (.int (i : Int)))) σ H (.int x) :=
  ev_op (ev_var hs) ev_c (rv_ixL (sq_of hn) (atI_nat (j := i) (by rw [List.getElem?_map, hx]; rfl)))
def sp_answer_to (K : PySem.W.Frag) : Sp := fun vs H Q _ => ∃ (m : Addr) (n : Sv62.Net) (f : Foot) (call : Int) (xs : List Int) (nb d : Addr) (c : Sv62Neutral.Call), vs = [.ref m, .int call, .ref nb, .ref d] ∧ MachAt K H m n f ∧ H nb = some (.lst (xs.map V.int)) ∧ CallC H (f.all m) d call xs c ∧
  ∀ p H', Done K H m f (Sv62Neutral.step n c).1 (Sv62Neutral.step n c).2 p H' → Q (.ref p) H'
theorem len_answer_to {vs : List V} {H : Hp} {Q : VK} {E : XK} (h : sp_answer_to K vs H Q E) : vs.length = 4 := by
  obtain ⟨m, n, f, call, xs, nb, d, c, rfl, _⟩ := h
  rfl
theorem sc_answer_to : FnScope ["machine", "call", "numbers", "row"] ["machine", "call", "numbers", "row"] (defScope s_answer_to) := ⟨rfl, rfl, rfl, by decide +kernel, rfl, by decide +kernel, by decide +kernel⟩
theorem okF_answer_to (T : Txt K mg base) {fd : FuncData} (F : FunD K d_answer_to.name d_answer_to.qual d_answer_to.params d_answer_to.body d_answer_to.scope [] [] (He.fAd K d_answer_to.at_) fd) : FnOk P w K mg base CX0 10 (He.ga K "answer_to") fd ["machine", "call", "numbers", "row"] (sp_answer_to K) := by
  obtain ⟨fd_answer_told, G_answer_told, b_answer_told, k_answer_told⟩ := ok_answer_told (P := P) (w := w) (base := base) T
  obtain ⟨fd_answer_tick, G_answer_tick, b_answer_tick, k_answer_tick⟩ := ok_answer_tick (P := P) (w := w) (base := base) T
  obtain ⟨fd_answer_error, G_answer_error, b_answer_error, k_answer_error⟩ := ok_answer_error (P := P) (w := w) (base := base) T
  obtain ⟨fd_answer_take, G_answer_take, b_answer_take, k_answer_take⟩ := ok_answer_take (P := P) (w := w) (base := base) T
  obtain ⟨fd_answer_send, G_answer_send, b_answer_send, k_answer_send⟩ := ok_answer_send (P := P) (w := w) (base := base) T
  obtain ⟨fd_answer_best, G_answer_best, b_answer_best, k_answer_best⟩ := ok_answer_best (P := P) (w := w) (base := base) T
  obtain ⟨fd_answer_away, G_answer_away, b_answer_away, k_answer_away⟩ := ok_answer_away (P := P) (w := w) (base := base) T
  obtain ⟨fd_answer_way, G_answer_way, b_answer_way, k_answer_way⟩ := ok_answer_way (P := P) (w := w) (base := base) T
  obtain ⟨fd_answer_pass, G_answer_pass, b_answer_pass, k_answer_pass⟩ := ok_answer_pass (P := P) (w := w) (base := base) T
  obtain ⟨fd_answer_link, G_answer_link, b_answer_link, k_answer_link⟩ := ok_answer_link (P := P) (w := w) (base := base) T
  obtain ⟨fd_answer_new, G_answer_new, b_answer_new, k_answer_new⟩ := ok_answer_new (P := P) (w := w) (base := base) T
  refine F.ok sc_answer_to (fun vs H Q E h => len_answer_to h) (fun cdv Ar outer s H vs Q E hr h => ?_)
  refine ⟨_, PSs.nox (pss_cons (ps_if (pt_cmpR op_eq (pv 1) (pe_gi rfl T.c_NEW) (nomark _)) (pss_one (ps_ret (pe_call G_answer_new (hr.mono (by decide)) rfl T.g_answer_new k_answer_new b_answer_new .nil pass0 (pa_cons (pv 0) pa_nil)))) pss_nil)
      (pss_cons (ps_if (pt_cmpR op_eq (pv 1) (pe_gi rfl T.c_LINK) (nomark _)) (pss_one (ps_ret (pe_call G_answer_link (hr.mono (by decide)) rfl T.g_answer_link k_answer_link b_answer_link .nil pass0 (pa_cons (pv 0) (pa_cons (pe_ix ix_list (pv 2) pe_int (fun _ _ => rfl)) (pa_cons (pe_ix ix_list (pv 2) pe_int (fun _ _ => rfl)) (pa_cons (pe_ix ix_list (pv 2) pe_int (fun _ _ => rfl)) (pa_cons (pe_ix ix_list (pv 2) pe_int (fun _ _ => rfl)) pa_nil)))))))) pss_nil)
      (pss_cons (ps_if (pt_cmpR op_eq (pv 1) (pe_gi rfl T.c_PASS) (nomark _)) (pss_one (ps_ret (pe_call G_answer_pass (hr.mono (by decide)) rfl T.g_answer_pass k_answer_pass b_answer_pass .nil pass0 (pa_cons (pv 0) (pa_cons (pe_ix ix_list (pv 2) pe_int (fun _ _ => rfl)) pa_nil))))) pss_nil)
      (pss_cons (ps_if (pt_cmpR op_eq (pv 1) (pe_gi rfl T.c_WAY) (nomark _)) (pss_one (ps_ret (pe_call G_answer_way (hr.mono (by decide)) rfl T.g_answer_way k_answer_way b_answer_way .nil pass0 (pa_cons (pv 0) (pa_cons (pe_ix ix_list (pv 2) pe_int (fun _ _ => rfl)) (pa_cons (pe_ix ix_list (pv 2) pe_int (fun _ _ => rfl)) (pa_cons (pe_ix ix_list (pv 2) pe_int (fun _ _ => rfl)) (pa_cons (pe_ix ix_list (pv 2) pe_int (fun _ _ => rfl)) pa_nil)))))))) pss_nil)
      (pss_cons (ps_if (pt_cmpR op_eq (pv 1) (pe_gi rfl T.c_AWAY) (nomark _)) (pss_one (ps_ret (pe_call G_answer_away (hr.mono (by decide)) rfl T.g_answer_away k_answer_away b_answer_away .nil pass0 (pa_cons (pv 0) (pa_cons (pe_ix ix_list (pv 2) pe_int (fun _ _ => rfl)) (pa_cons (pe_ix ix_list (pv 2) pe_int (fun _ _ => rfl)) pa_nil)))))) pss_nil)
      (pss_cons (ps_if (pt_cmpR op_eq (pv 1) (pe_gi rfl T.c_BEST) (nomark _)) (pss_one (ps_ret (pe_call G_answer_best (hr.mono (by decide)) rfl T.g_answer_best k_answer_best b_answer_best .nil pass0 (pa_cons (pv 0) (pa_cons (pe_ix ix_list (pv 2) pe_int (fun _ _ => rfl)) pa_nil))))) pss_nil)
      (pss_cons (ps_if (pt_cmpR op_eq (pv 1) (pe_gi rfl T.c_SEND) (nomark _)) (pss_one (ps_ret (pe_call G_answer_send (hr.mono (by decide)) rfl T.g_answer_send k_answer_send b_answer_send .nil pass0 (pa_cons (pv 0) (pa_cons (pe_ix ix_list (pv 2) pe_int (fun _ _ => rfl)) (pa_cons (pe_ix ix_list (pv 2) pe_int (fun _ _ => rfl)) (pa_cons (pe_ix ix_list (pv 2) pe_int (fun _ _ => rfl)) (pa_cons (pe_ix ix_list (pv 2) pe_int (fun _ _ => rfl)) (pa_cons (pe_ix ix_list (pv 2) pe_int (fun _ _ => rfl)) (pa_cons (pe_ix ix_list (pv 2) pe_int (fun _ _ => rfl)) (pa_cons (pv 3) pa_nil))))))))))) pss_nil)
      (pss_cons (ps_if (pt_cmpR op_eq (pv 1) (pe_gi rfl T.c_TAKE) (nomark _)) (pss_one (ps_ret (pe_call G_answer_take (hr.mono (by decide)) rfl T.g_answer_take k_answer_take b_answer_take .nil pass0 (pa_cons (pv 0) (pa_cons (pe_ix ix_list (pv 2) pe_int (fun _ _ => rfl)) (pa_cons (pv 3) pa_nil)))))) pss_nil)
      (pss_cons (ps_if (pt_cmpR op_eq (pv 1) (pe_gi rfl T.c_ERROR_desk) (nomark _)) (pss_one (ps_ret (pe_call G_answer_error (hr.mono (by decide)) rfl T.g_answer_error k_answer_error b_answer_error .nil pass0 (pa_cons (pv 0) (pa_cons (pe_ix ix_list (pv 2) pe_int (fun _ _ => rfl)) (pa_cons (pe_ix ix_list (pv 2) pe_int (fun _ _ => rfl)) (pa_cons (pv 3) pa_nil))))))) pss_nil)
      (pss_cons (ps_if (pt_cmpR op_eq (pv 1) (pe_gi rfl T.c_TICK) (nomark _)) (pss_one (ps_ret (pe_call G_answer_tick (hr.mono (by decide)) rfl T.g_answer_tick k_answer_tick b_answer_tick .nil pass0 (pa_cons (pv 0) (pa_cons (pe_ix ix_list (pv 2) pe_int (fun _ _ => rfl)) pa_nil))))) pss_nil)
      (pss_one (ps_ret (pe_call G_answer_told (hr.mono (by decide)) rfl T.g_answer_told k_answer_told b_answer_told .nil pass0 (pa_cons (pv 0) pa_nil)))))))))))))), ?_⟩
  obtain ⟨m, n, f, call, xs, nb, d, c, rfl, M, hn, hc, q⟩ := h
  have sk : True := trivial
  cases hc with
  | new => exact sq_hit rfl fun H1 e1 => ret_one M e1 (ea_cons (ev_var (i := 0) rfl) ea_nil) (fun _ _ => ⟨rfl, rfl⟩) q
  | link ha =>
    refine sq_skip rfl rfl fun H1 e1 => sq_hit rfl fun H2 e2 => ?_
    have h2 := (e1.trans e2) _ _ hn
    exact ret_one M (e1.trans e2) (ea_cons (ev_var (i := 0) rfl) (ea_cons (ev_num 0 rfl h2 rfl) (ea_cons (ev_num 1 rfl h2 rfl) (ea_cons (ev_num 2 rfl h2 rfl) (ea_cons (ev_num 3 rfl h2 rfl) ea_nil))))) (fun _ _ => ⟨_, _, _, _, rfl, ha, rfl⟩) q
  | pass =>
    refine sq_skip rfl rfl fun H1 e1 => sq_skip rfl rfl fun H2 e2 => sq_hit rfl fun H3 e3 => ?_
    have ee := (e1.trans e2).trans e3
    exact ret_one M ee (ea_cons (ev_var (i := 0) rfl) (ea_cons (ev_num 0 rfl (ee _ _ hn) rfl) ea_nil)) (fun _ _ => ⟨_, rfl, rfl⟩) q
  | way ha =>
    refine sq_skip rfl rfl fun H1 e1 => sq_skip rfl rfl fun H2 e2 => sq_skip rfl rfl fun H3 e3 => sq_hit rfl fun H4 e4 => ?_
    have ee := ((e1.trans e2).trans e3).trans e4
    have h2 := ee _ _ hn
    exact ret_one M ee (ea_cons (ev_var (i := 0) rfl) (ea_cons (ev_num 0 rfl h2 rfl) (ea_cons (ev_num 1 rfl h2 rfl) (ea_cons (ev_num 2 rfl h2 rfl) (ea_cons (ev_num 3 rfl h2 rfl) ea_nil))))) (fun _ _ => ⟨_, _, _, _, rfl, ha, rfl⟩) q
  | away ha =>
    refine sq_skip rfl rfl fun H1 e1 => sq_skip rfl rfl fun H2 e2 => sq_skip rfl rfl fun H3 e3 => sq_skip rfl rfl fun H4 e4 => sq_hit rfl fun H5 e5 => ?_
    have ee := (((e1.trans e2).trans e3).trans e4).trans e5
    have h2 := ee _ _ hn
    exact ret_one M ee (ea_cons (ev_var (i := 0) rfl) (ea_cons (ev_num 0 rfl h2 rfl) (ea_cons (ev_num 1 rfl h2 rfl) ea_nil))) (fun _ _ => ⟨_, _, rfl, ha, rfl⟩) q
  | best ha =>
    refine sq_skip rfl rfl fun H1 e1 => sq_skip rfl rfl fun H2 e2 => sq_skip rfl rfl fun H3 e3 => sq_skip rfl rfl fun H4 e4 => sq_skip rfl rfl fun H5 e5 => sq_hit rfl fun H6 e6 => ?_
    have ee := ((((e1.trans e2).trans e3).trans e4).trans e5).trans e6
    have h2 := ee _ _ hn
    exact ret_one M ee (ea_cons (ev_var (i := 0) rfl) (ea_cons (ev_num 0 rfl h2 rfl) ea_nil)) (fun _ _ => ⟨_, rfl, ha, rfl⟩) q
  | send hd nd hl ht =>
    refine sq_skip rfl rfl fun H1 e1 => sq_skip rfl rfl fun H2 e2 => sq_skip rfl rfl fun H3 e3 => sq_skip rfl rfl fun H4 e4 => sq_skip rfl rfl fun H5 e5 => sq_skip rfl rfl fun H6 e6 => sq_hit rfl fun H7 e7 => ?_
    have ee := (((((e1.trans e2).trans e3).trans e4).trans e5).trans e6).trans e7
    have h2 := ee _ _ hn
    exact ret_one M ee (ea_cons (ev_var (i := 0) rfl) (ea_cons (ev_num 0 rfl h2 rfl) (ea_cons (ev_num 1 rfl h2 rfl) (ea_cons (ev_num 2 rfl h2 rfl) (ea_cons (ev_num 3 rfl h2 rfl) (ea_cons (ev_num 4 rfl h2 rfl) (ea_cons (ev_num 5 rfl h2 rfl) (ea_cons (ev_var (i := 3) rfl) ea_nil)))))))) (fun H8 e8 => ⟨_, _, _, _, _, _, d, _, rfl, e8 _ _ hd, nd, hl, ht, rfl⟩) q
  | take hd nd hl =>
    refine sq_skip rfl rfl fun H1 e1 => sq_skip rfl rfl fun H2 e2 => sq_skip rfl rfl fun H3 e3 => sq_skip rfl rfl fun H4 e4 => sq_skip rfl rfl fun H5 e5 => sq_skip rfl rfl fun H6 e6 => sq_skip rfl rfl fun H7 e7 => sq_hit rfl fun H8 e8 => ?_
    have ee := ((((((e1.trans e2).trans e3).trans e4).trans e5).trans e6).trans e7).trans e8
    have h2 := ee _ _ hn
    exact ret_one M ee (ea_cons (ev_var (i := 0) rfl) (ea_cons (ev_num 0 rfl h2 rfl) (ea_cons (ev_var (i := 3) rfl) ea_nil))) (fun H9 e9 => ⟨_, d, _, rfl, e9 _ _ hd, nd, hl, rfl⟩) q
  | error hd nd hl =>
    refine sq_skip rfl rfl fun H1 e1 => sq_skip rfl rfl fun H2 e2 => sq_skip rfl rfl fun H3 e3 => sq_skip rfl rfl fun H4 e4 => sq_skip rfl rfl fun H5 e5 => sq_skip rfl rfl fun H6 e6 => sq_skip rfl rfl fun H7 e7 => sq_skip rfl rfl fun H8 e8 => sq_hit rfl fun H9 e9 => ?_
    have ee := (((((((e1.trans e2).trans e3).trans e4).trans e5).trans e6).trans e7).trans e8).trans e9
    have h2 := ee _ _ hn
    exact ret_one M ee (ea_cons (ev_var (i := 0) rfl) (ea_cons (ev_num 0 rfl h2 rfl) (ea_cons (ev_num 1 rfl h2 rfl) (ea_cons (ev_var (i := 3) rfl) ea_nil)))) (fun Ha ea => ⟨_, _, d, _, rfl, ea _ _ hd, nd, hl, rfl⟩) q
  | tick ht =>
    refine sq_skip rfl rfl fun H1 e1 => sq_skip rfl rfl fun H2 e2 => sq_skip rfl rfl fun H3 e3 => sq_skip rfl rfl fun H4 e4 => sq_skip rfl rfl fun H5 e5 => sq_skip rfl rfl fun H6 e6 => sq_skip rfl rfl fun H7 e7 => sq_skip rfl rfl fun H8 e8 => sq_skip rfl rfl fun H9 e9 => sq_hit rfl fun Ha ea => ?_
    have ee := ((((((((e1.trans e2).trans e3).trans e4).trans e5).trans e6).trans e7).trans e8).trans e9).trans ea
    have h2 := ee _ _ hn
    exact ret_one M ee (ea_cons (ev_var (i := 0) rfl) (ea_cons (ev_num 0 rfl h2 rfl) ea_nil)) (fun _ _ => ⟨_, rfl, ht, rfl⟩) q
  | told =>
    refine sq_skip rfl rfl fun H1 e1 => sq_skip rfl rfl fun H2 e2 => sq_skip rfl rfl fun H3 e3 => sq_skip rfl rfl fun H4 e4 => sq_skip rfl rfl fun H5 e5 => sq_skip rfl rfl fun H6 e6 => sq_skip rfl rfl fun H7 e7 => sq_skip rfl rfl fun H8 e8 => sq_skip rfl rfl fun H9 e9 => sq_skip rfl rfl fun Ha ea => ?_
    have ee := ((((((((e1.trans e2).trans e3).trans e4).trans e5).trans e6).trans e7).trans e8).trans e9).trans ea
    exact ret_one M ee (ea_cons (ev_var (i := 0) rfl) ea_nil) (fun _ _ => ⟨rfl, rfl⟩) q
theorem ok_answer_to (T : Txt K mg base) : DefOk P w K mg base 10 (He.ga K "answer_to") ["machine", "call", "numbers", "row"] (sp_answer_to K) := by
  obtain ⟨fd, F⟩ := T.fd_answer_to
  exact ⟨fd, okF_answer_to T F, F.bindsN fun _ _ _ _ _ _ us hl => match us, hl with | [_, _, _, _], _ => rfl, F.kp⟩
def sp_end_of_call (K : PySem.W.Frag) : Sp := fun vs H Q _ => ∃ (a : Addr) (ns : List Int) (call : Int) (behind : Nat), vs = [.ref a, .int call, .int (behind : Int)] ∧ SqL K H a (ns.map V.int) ∧
  (if call = 6 ∨ call = 7 ∨ call = 8 then ∃ k : Nat, ns[behind]? = some (k : Int) ∧ RetV (.int ((behind + 1 + k : Nat) : Int)) H Q else RetV (.int (behind : Int)) H Q)
theorem len_end_of_call {vs : List V} {H : Hp} {Q : VK} {E : XK} (h : sp_end_of_call K vs H Q E) : vs.length = 3 := by
  obtain ⟨a, ns, call, behind, rfl, _⟩ := h
  rfl
theorem sc_end_of_call : FnScope ["calls", "call", "behind"] ["calls", "call", "behind"] (defScope s_end_of_call) := ⟨rfl, rfl, rfl, by decide +kernel, rfl, by decide +kernel, by decide +kernel⟩
theorem okF_end_of_call (T : Txt K mg base) {fd : FuncData} (F : FunD K d_end_of_call.name d_end_of_call.qual d_end_of_call.params d_end_of_call.body d_end_of_call.scope [] [] (He.fAd K d_end_of_call.at_) fd) : FnOk P w K mg base CX0 1 (He.ga K "end_of_call") fd ["calls", "call", "behind"] (sp_end_of_call K) := by
  refine F.ok sc_end_of_call (fun vs H Q E h => len_end_of_call h) (fun cdv Ar outer s H vs Q E hr h => ?_)
  refine ⟨_, PSs.nox (pss_cons (ps_if (pt_cmpR op_in_seq (pv 1) (pe_gr rfl T.g_WITH_ROW) (by rfl)) (pss_one (ps_ret (pe_op op_add (pe_op op_add (pv 2) pe_int) (pe_ix ix_list (pv 0) (pv 2) (fun _ _ => rfl))))) pss_nil)
      (pss_one (ps_ret (pv 2)))), ?_⟩
  obtain ⟨a, ns, call, behind, rfl, sq, q⟩ := h
  have iv : inV (.int call) (tup_WITH_ROW.map V.int) = (call == 6 || (call == 7 || call == 8)) := by
    show (eqV (V.int 6) (V.int call) || (eqV (V.int 7) (V.int call) || (eqV (V.int 8) (V.int call) || false))) = _
    have e : ∀ k : Int, eqV (V.int k) (V.int call) = (call == k) := fun k => by
      show decide (k = call) = _
      rw [Bool.eq_iff_iff, decide_eq_true_eq, beq_iff_eq]
      exact eq_comm
    rw [e, e, e, Bool.or_false]
  refine sq_if (b := (call == 6 || (call == 7 || call == 8))) (et_is (et_test (ev_op (ev_var (i := 1) rfl) ev_c (rv_isT (tupB_ok T.w_WITH_ROW H) rfl rfl))) iv) (fun hc H1 e1 => ?_) (fun hc H1 e1 => ?_)
  · simp only [Bool.or_eq_true, beq_iff_eq] at hc
    rw [if_pos hc] at q
    obtain ⟨k, hk, q⟩ := q
    refine ret_ev (ev_is (ev_op (ev_op (ev_var (i := 2) rfl) ev_c rv_I0) (ev_op (ev_var (i := 0) rfl) (ev_var (i := 2) rfl) (rv_ixL (v := .int (k : Int)) (ex_l e1 sq) (atI_nat (j := behind) (by rw [List.getElem?_map, hk]; rfl)))) rv_I0) ?_) fun H2 e2 => q H2 (e1.trans e2)
    show V.int ((behind : Int) + 1 + (k : Int)) = _
    congr 1
  · have hc2 : ¬ (call = 6 ∨ call = 7 ∨ call = 8) := by
      intro z
      have : (call == 6 || (call == 7 || call == 8)) = true := by
        simp only [Bool.or_eq_true, beq_iff_eq]
        exact z
      rw [hc] at this
      cases this
    rw [if_neg hc2] at q
    exact ret_ev (ev_var (i := 2) rfl) fun H2 e2 => q H2 (e1.trans e2)
theorem ok_end_of_call (T : Txt K mg base) : DefOk P w K mg base 1 (He.ga K "end_of_call") ["calls", "call", "behind"] (sp_end_of_call K) := by
  obtain ⟨fd, F⟩ := T.fd_end_of_call
  exact ⟨fd, okF_end_of_call T F, F.bindsN fun _ _ _ _ _ _ us hl => match us, hl with | [_, _, _], _ => rfl, F.kp⟩
end
/-! ### what is read is a call -/
theorem len1 {α : Type} {l : List α} (h : l.length = 1) : ∃ a, l = [a] := match l, h with | [a], _ => ⟨a, rfl⟩
theorem len2 {α : Type} {l : List α} (h : l.length = 2) : ∃ a b, l = [a, b] := match l, h with | [a, b], _ => ⟨a, b, rfl⟩
theorem len4 {α : Type} {l : List α} (h : l.length = 4) : ∃ a b c d, l = [a, b, c, d] := match l, h with | [a, b, c, d], _ => ⟨a, b, c, d, rfl⟩
theorem len6 {α : Type} {l : List α} (h : l.length = 6) : ∃ a b c d e f, l = [a, b, c, d, e, f] := match l, h with | [a, b, c, d, e, f], _ => ⟨a, b, c, d, e, f, rfl⟩
theorem nat_of {z : Int} (h : 0 ≤ z) : ∃ k : Nat, z = (k : Int) := ⟨z.toNat, by omega⟩
theorem wiI {lo hi z : Int} : PyInside.within lo hi z = true ↔ lo ≤ z ∧ z ≤ hi := by
  unfold PyInside.within
  rw [Bool.and_eq_true, decide_eq_true_eq, decide_eq_true_eq]
theorem off_oct {b : List Int} (h : b.all (PyInside.within 0 255) = true) : b = Sv62Neutral.ofOctets (Sv62Neutral.octets b) := by
  unfold Sv62Neutral.ofOctets Sv62Neutral.octets
  rw [List.map_map]
  conv => lhs; rw [← List.map_id b]
  apply List.map_congr_left
  intro z hz
  have := wiI.mp (List.all_eq_true.mp h z hz)
  show z = ((UInt8.ofNat z.toNat).toNat : Int)
  rw [UInt8.toNat_ofNat']
  omega
inductive RowC (b : List Int) : Int → List Int → Prop
  | send {what : Int} {s t : Nat} {hops uncut link : Int} : t < 4294967296 → RowC b 6 [what, (s : Int), (t : Int), hops, uncut, link]
  | take {k : Int} : RowC b 7 [k]
  | error {kind : Int} {z : Nat} : RowC b 8 [kind, (z : Int)]
theorem call_num {p : Int} {n : Nat} {xs : List Int} (h : PySv62.shape p = some (n, 0)) (hl : xs.length = n) (hi : Inside [p :: xs]) (H : Hp) (S : List Addr) (d : Addr) : CallC H S d p xs [p :: xs] ∧ (tab_NUMBERS_BEHIND.lookup p = some (.int (n : Int))) ∧ ¬ (p = 6 ∨ p = 7 ∨ p = 8) := by
  unfold PySv62.shape at h
  have hi2 : (PyInside.each (PySv62.bound p).1 xs && PyInside.lists (PySv62.bound p).2 []) = true := hi
  rw [Bool.and_eq_true] at hi2
  have hi3 := hi2.1
  by_cases c0 : p = 0
  · subst c0
    obtain rfl : n = 0 := by
      have := Option.some.inj h
      exact (congrArg Prod.fst this).symm
    obtain rfl := List.length_eq_zero_iff.mp hl
    exact ⟨.new, rfl, by decide⟩
  rw [if_neg c0] at h
  by_cases c1 : p = 1
  · subst c1
    obtain rfl : n = 4 := (congrArg Prod.fst (Option.some.inj h)).symm
    obtain ⟨a, b, c, e, rfl⟩ := len4 hl
    have z : (PyInside.within (-2147483648) 2147483647 a && (PyInside.within 0 4294967295 b && (PyInside.within (-2147483648) 2147483647 c && (PyInside.within (-2147483648) 2147483647 e && true)))) = true := hi3
    simp only [Bool.and_eq_true, wiI] at z
    obtain ⟨k, rfl⟩ := nat_of z.2.1.1
    exact ⟨.link (by omega), rfl, by decide⟩
  rw [if_neg c1] at h
  by_cases c2 : p = 2
  · subst c2
    obtain rfl : n = 1 := (congrArg Prod.fst (Option.some.inj h)).symm
    obtain ⟨a, rfl⟩ := len1 hl
    exact ⟨.pass, rfl, by decide⟩
  rw [if_neg c2] at h
  by_cases c3 : p = 3
  · subst c3
    obtain rfl : n = 4 := (congrArg Prod.fst (Option.some.inj h)).symm
    obtain ⟨a, b, c, e, rfl⟩ := len4 hl
    have z : (PyInside.within 0 4294967295 a && (PyInside.within (-2147483648) 2147483647 b && (PyInside.within (-2147483648) 2147483647 c && (PyInside.within 0 4294967295 e && true)))) = true := hi3
    simp only [Bool.and_eq_true, wiI] at z
    obtain ⟨k, rfl⟩ := nat_of z.1.1
    obtain ⟨x, rfl⟩ := nat_of z.2.2.2.1.1
    exact ⟨.way (by omega), rfl, by decide⟩
  rw [if_neg c3] at h
  by_cases c4 : p = 4
  · subst c4
    obtain rfl : n = 2 := (congrArg Prod.fst (Option.some.inj h)).symm
    obtain ⟨a, b, rfl⟩ := len2 hl
    have z : (PyInside.within 0 4294967295 a && (PyInside.within (-2147483648) 2147483647 b && true)) = true := hi3
    simp only [Bool.and_eq_true, wiI] at z
    obtain ⟨k, rfl⟩ := nat_of z.1.1
    exact ⟨.away (by omega), rfl, by decide⟩
  rw [if_neg c4] at h
  by_cases c5 : p = 5
  · subst c5
    obtain rfl : n = 1 := (congrArg Prod.fst (Option.some.inj h)).symm
    obtain ⟨a, rfl⟩ := len1 hl
    have z : (PyInside.within 0 4294967295 a && true) = true := hi3
    simp only [Bool.and_eq_true, wiI] at z
    obtain ⟨k, rfl⟩ := nat_of z.1.1
    exact ⟨.best (by omega), rfl, by decide⟩
  rw [if_neg c5] at h
  by_cases c6 : p = 6
  · rw [if_pos c6] at h
    cases h
  rw [if_neg c6] at h
  by_cases c7 : p = 7
  · rw [if_pos c7] at h
    cases h
  rw [if_neg c7] at h
  by_cases c8 : p = 8
  · rw [if_pos c8] at h
    cases h
  rw [if_neg c8] at h
  by_cases c9 : p = 9
  · subst c9
    obtain rfl : n = 1 := (congrArg Prod.fst (Option.some.inj h)).symm
    obtain ⟨a, rfl⟩ := len1 hl
    have z : (PyInside.within 0 9223372036854775807 a && true) = true := hi3
    simp only [Bool.and_eq_true, wiI] at z
    obtain ⟨k, rfl⟩ := nat_of z.1.1
    exact ⟨.tick (by omega), rfl, by decide⟩
  rw [if_neg c9] at h
  by_cases c10 : p = 10
  · subst c10
    obtain rfl : n = 0 := (congrArg Prod.fst (Option.some.inj h)).symm
    obtain rfl := List.length_eq_zero_iff.mp hl
    exact ⟨.told, rfl, by decide⟩
  rw [if_neg c10] at h
  cases h
theorem call_row {p : Int} {n : Nat} {xs b : List Int} (h : PySv62.shape p = some (n, 1)) (hl : xs.length = n) (hi : Inside [p :: xs, b]) : (tab_NUMBERS_BEHIND.lookup p = some (.int (n : Int))) ∧ (p = 6 ∨ p = 7 ∨ p = 8) ∧ ∀ (H : Hp) (S : List Addr) (d : Addr), H d = some (.lst (b.map V.int)) → d ∉ S → CallC H S d p xs [p :: xs, b] := by
  unfold PySv62.shape at h
  have hi2 : (PyInside.each (PySv62.bound p).1 xs && PyInside.lists (PySv62.bound p).2 [b]) = true := hi
  rw [Bool.and_eq_true] at hi2
  obtain ⟨hi3, hi4⟩ := hi2
  have row : PyInside.lists [((0 : Int), (255 : Int), (0 : Nat), (15900 : Nat))] [b] = true → ∃ o : Sv62.Bytes, b = Sv62Neutral.ofOctets o ∧ o.length ≤ 15900 := fun z => by
    have z2 : ((decide (0 ≤ b.length) && decide (b.length ≤ 15900) && b.all (PyInside.within 0 255)) && true) = true := z
    simp only [Bool.and_eq_true, decide_eq_true_eq] at z2
    refine ⟨Sv62Neutral.octets b, off_oct z2.1.2, ?_⟩
    unfold Sv62Neutral.octets
    rw [List.length_map]
    exact z2.1.1.2
  by_cases c0 : p = 0
  · rw [if_pos c0] at h
    cases h
  rw [if_neg c0] at h
  by_cases c1 : p = 1
  · rw [if_pos c1] at h
    cases h
  rw [if_neg c1] at h
  by_cases c2 : p = 2
  · rw [if_pos c2] at h
    cases h
  rw [if_neg c2] at h
  by_cases c3 : p = 3
  · rw [if_pos c3] at h
    cases h
  rw [if_neg c3] at h
  by_cases c4 : p = 4
  · rw [if_pos c4] at h
    cases h
  rw [if_neg c4] at h
  by_cases c5 : p = 5
  · rw [if_pos c5] at h
    cases h
  rw [if_neg c5] at h
  by_cases c6 : p = 6
  · subst c6
    obtain rfl : n = 6 := (congrArg Prod.fst (Option.some.inj h)).symm
    obtain ⟨a1, a2, a3, a4, a5, a6, rfl⟩ := len6 hl
    have z : (PyInside.within (-2147483648) 2147483647 a1 && (PyInside.within 0 4294967295 a2 && (PyInside.within 0 4294967295 a3 && (PyInside.within (-2147483648) 2147483647 a4 && (PyInside.within (-2147483648) 2147483647 a5 && (PyInside.within (-2147483648) 2147483647 a6 && true)))))) = true := hi3
    simp only [Bool.and_eq_true, wiI] at z
    obtain ⟨s, rfl⟩ := nat_of z.2.1.1
    obtain ⟨t, rfl⟩ := nat_of z.2.2.1.1
    obtain ⟨o, rfl, ho⟩ := row hi4
    exact ⟨rfl, .inl rfl, fun H S d hd nd => .send (by rw [bv_off]; exact hd) nd ho (by omega)⟩
  rw [if_neg c6] at h
  by_cases c7 : p = 7
  · subst c7
    obtain rfl : n = 1 := (congrArg Prod.fst (Option.some.inj h)).symm
    obtain ⟨a, rfl⟩ := len1 hl
    obtain ⟨o, rfl, ho⟩ := row hi4
    exact ⟨rfl, .inr (.inl rfl), fun H S d hd nd => .take (by rw [bv_off]; exact hd) nd ho⟩
  rw [if_neg c7] at h
  by_cases c8 : p = 8
  · subst c8
    obtain rfl : n = 2 := (congrArg Prod.fst (Option.some.inj h)).symm
    obtain ⟨a, e, rfl⟩ := len2 hl
    have z : (PyInside.within (-2147483648) 2147483647 a && (PyInside.within 0 4294967295 e && true)) = true := hi3
    simp only [Bool.and_eq_true, wiI] at z
    obtain ⟨k, rfl⟩ := nat_of z.2.1.1
    obtain ⟨o, rfl, ho⟩ := row hi4
    exact ⟨rfl, .inr (.inr rfl), fun H S d hd nd => .error (by rw [bv_off]; exact hd) nd ho⟩
  rw [if_neg c8] at h
  by_cases c9 : p = 9
  · rw [if_pos c9] at h
    cases h
  rw [if_neg c9] at h
  by_cases c10 : p = 10
  · rw [if_pos c10] at h
    cases h
  rw [if_neg c10] at h
  cases h
end Lp
set_option maxHeartbeats 400000000
namespace Lp
open PySem PySem.Spec PyProof.Rows L2 Evl
theorem sq_keep {K : PySem.W.Frag} {H H' : Hp} {S : List Addr} {a : Addr} {xs : List V} (h : SqL K H a xs) (k : Keep H H' S) (ha : ∀ o, H a = some o → ntb o = true → a ∉ S) : SqL K H' a xs := by
  rcases h with (h | ⟨o, h⟩) | h
  · exact .inl (.inl (k _ _ h (ha _ h rfl) rfl))
  · exact .inl (.inr ⟨o, k _ _ h (ha _ h rfl) rfl⟩)
  · exact .inr h
theorem q_app16 {K : PySem.W.Frag} {ta te : TE} {u : TS} {D : Ends} {σ : L2.St} {H : Hp} {l : Addr} {xs : List V} {v : V} (hl : H l = some (.lst xs)) (ha : Ev ta σ H (.ref l)) (h : Ev te σ H v) (hz : xs.length < 16000000) (k : ∀ H1, Ex H H1 → u D σ (upd H1 l (.lst (xs ++ [v])))) :
    tSeq (tDrop (tBM K "list" rAppend ta (tCons te tNil))) u D σ H := ha H (Ex.refl H) _ fun H1 e1 =>
  ⟨Or.inl ⟨rfl, xs, sq_of (e1 l _ hl)⟩, h H1 e1 _ fun H2 e2 => ⟨l, xs, v, rfl, rfl, e2 l _ (e1 l _ hl), Nat.lt_of_lt_of_le hz (by rw [sizeLine_eq]; decide), k H2 (e1.trans e2)⟩⟩
theorem ev_tab {K : PySem.W.Frag} {kvs : List (Int × He.Dv)} {ty : TE} {σ : L2.St} {H : Hp} {k i : Int} (h : Ev ty σ H (.int k)) (hl : kvs.lookup k = some (.int i)) : Ev (tTab K kvs ty) σ H (.int i) := fun H1 e Q q =>
  h H1 e _ fun H2 e2 => ⟨k, .int i, rfl, hl, q H2 e2⟩
theorem s_set1 {te : TE} {D : Ends} {σ : L2.St} {H : Hp} {i : Nat} {v : V} (h : Ev te σ H v) (q : ∀ H', Ex H H' → D.nx (σ.set i (some v)) H') : tAsg te (gName i) D σ H := h H (Ex.refl H) _ q
theorem drop_mid {α : Type} {l t u : List α} {i : Nat} {x : α} (h : l.drop i = x :: (t ++ u)) : i < l.length ∧ l[i]? = some x ∧ (l.drop (i + 1)).take t.length = t ∧ l.drop (i + 1 + t.length) = u := by
  have hi : i < l.length := by
    have := congrArg List.length h
    rw [List.length_drop, List.length_cons] at this
    omega
  have h1 := List.drop_eq_getElem_cons hi
  rw [h] at h1
  injection h1 with h2 h3
  refine ⟨hi, by rw [List.getElem?_eq_getElem hi, h2], ?_, ?_⟩
  · rw [← h3, List.take_left]
  · rw [← List.drop_drop, ← h3, List.drop_left]
section
variable {P : Program} {w : World} {K : PySem.W.Frag} {mg : Str → Option Value} {base : Heap}
/-- what answers promises -/
def sp_answers (K : PySem.W.Frag) : Sp := fun vs H Q _ => ∃ (a : Addr) (ns : List Int), vs = [.ref a] ∧ SqL K H a (ns.map V.int) ∧ ns.length ≤ 16000 ∧ PySv62.answers_asked ns = true ∧ LamX.TabS H (lamP K) qW ∧
  ∀ (H' : Hp) (p : Addr), H' p = some (.lst ((PySv62.answers ns).map V.int)) → Q (.ref p) H'
theorem len_answers {vs : List V} {H : Hp} {Q : VK} {E : XK} (h : sp_answers K vs H Q E) : vs.length = 1 := by
  obtain ⟨a, ns, rfl, _⟩ := h
  rfl
theorem sc_answers : FnScope ["calls", "machine", "laid_out", "at", "call", "behind", "end", "answer"] ["calls"] (defScope s_answers) := ⟨rfl, rfl, rfl, by decide +kernel, rfl, by decide +kernel, by decide +kernel⟩
theorem okF_answers (T : Txt K mg base) {fd : FuncData} (F : FunD K d_answers.name d_answers.qual d_answers.params d_answers.body d_answers.scope [] [] (He.fAd K d_answers.at_) fd) : FnOk P w K mg base CX0 11 (He.ga K "answers") fd ["calls"] (sp_answers K) := by
  obtain ⟨fd_answer_to, G_answer_to, b_answer_to, k_answer_to⟩ := ok_answer_to (P := P) (w := w) (base := base) T
  obtain ⟨fd_end_of_call, G_end_of_call, b_end_of_call, k_end_of_call⟩ := ok_end_of_call (P := P) (w := w) (base := base) T
  obtain ⟨fd_Machine__init, G_Machine__init, b_Machine__init, k_Machine__init⟩ := ok_Machine__init (P := P) (w := w) (base := base) T
  refine F.ok sc_answers (fun vs H Q E h => len_answers h) (fun cdv Ar outer s H vs Q E hr h => ?_)
  refine ⟨_, PSs.nox (pss_cons (ps_set (i := 1) sc_answers.nd rfl (Or.inl rfl) (pe_make0 T.mk_Machine G_Machine__init (hr.mono (by decide)) rfl T.g_Machine b_Machine__init .nil pass0))
      (pss_cons (ps_set (i := 2) sc_answers.nd rfl (Or.inl rfl) (pe_lst pa_nil))
      (pss_cons (ps_set (i := 3) sc_answers.nd rfl (Or.inl rfl) pe_int)
      (pss_cons (ps_while PassesOwn.never (pt_cmpR op_lt (pv 3) (pe_callB call_len_seq (by rfl) T.f_len PySem.boot_len (pa_cons (pv 0) pa_nil)) (nomark _)) (pss_cons (ps_set (i := 4) sc_answers.nd rfl (Or.inl rfl) (pe_ix ix_list (pv 0) (pv 3) (fun _ _ => rfl)))
      (pss_cons (ps_set (i := 5) sc_answers.nd rfl (Or.inl rfl) (pe_op op_add (pe_op op_add (pv 3) pe_int) (pe_tab (by rfl) T.g_NUMBERS_BEHIND T.w_NUMBERS_BEHIND (pv 4) (fun _ _ => rfl))))
      (pss_cons (ps_set (i := 6) sc_answers.nd rfl (Or.inl rfl) (pe_call G_end_of_call (hr.mono (by decide)) rfl T.g_end_of_call k_end_of_call b_end_of_call .nil pass0 (pa_cons (pv 0) (pa_cons (pv 4) (pa_cons (pv 5) pa_nil)))))
      (pss_cons (ps_set (i := 7) sc_answers.nd rfl (Or.inl rfl) (pe_call G_answer_to (hr.mono (by decide)) rfl T.g_answer_to k_answer_to b_answer_to .nil pass0 (pa_cons (pv 1) (pa_cons (pv 4) (pa_cons (pe_slice sl_list (pv 0) (po_some (pe_op op_add (pv 3) pe_int)) (po_some (pv 5))) (pa_cons (pe_slice sl_list (pv 0) (po_some (pe_op op_add (pv 5) pe_int)) (po_some (pv 6))) pa_nil))))))
      (pss_cons (ps_expr (pe_bm PySem.F.plainAttrs_list PySem.F.slot_list_append PySem.F.type_list_append mt_append (pv 2) (pa_cons (pe_callB call_len_seq (by rfl) T.f_len PySem.boot_len (pa_cons (pv 7) pa_nil)) pa_nil)))
      (pss_cons (ps_expr (pe_bm PySem.F.plainAttrs_list PySem.F.slot_list_extend PySem.F.type_list_extend mt_extend (pv 2) (pa_cons (pv 7) pa_nil)))
      (pss_one (ps_set (i := 3) sc_answers.nd rfl (Or.inl rfl) (pv 6))))))))))
      (pss_one (ps_ret (pv 2))))))), ?_⟩
  obtain ⟨a, ns, rfl, sqa, hlen, hask, tb, q⟩ := h
  obtain ⟨cs, A⟩ := asked_of hask
  obtain ⟨tps, htb, _⟩ := id tb
  refine sq_setX (R := fun z H' => ∃ m f, z = .ref m ∧ MachAt K H' m Sv62.fresh f ∧ f.av = [] ∧ Ex H H' ∧ ∀ b ∈ f.all m, H b = none ∨ b = lamP K) (fun Q1 q1 => make_of (nil_of fun x dx nx nd ne => ⟨x, dx, rfl, upd_same, fun H' lk wy ga tk F => ⟨rfl, q1 _ _ ⟨x, ⟨lk, wy, ga, tk, lamP K, [], []⟩, rfl, ?_, rfl, made_ex (Ex.refl H) nx nd F.keep, fun b hb => ?_⟩⟩⟩)) ?_
  · have eN : Ex H (upd (upd H dx (.own x)) x (.ins (He.ga K "Machine") dx [])) := made_ex (Ex.refl H) nx nd (fun b o hb _ => hb)
    exact F.mach (tb.ext eN) ⟨_, upd_same, fun c => codeO_ins⟩ (ne_of_none htb nx) (fun _ h => (nomatch h)) (fun h => nomatch h) (fun h => nomatch h) .nil
  · have nn : ∀ {b : Addr}, upd (upd H dx (.own x)) x (.ins (He.ga K "Machine") dx []) b = none → H b = none := fun {b} h => by
      by_cases c1 : b = x
      · rw [c1]
        exact nx
      · by_cases c2 : b = dx
        · rw [c2]
          exact nd
        · rw [upd_ne c1, upd_ne c2] at h
          exact h
    simp only [Foot.all, List.map_nil, List.nil_append, List.mem_cons, List.not_mem_nil, or_false] at hb
    rcases hb with rfl | rfl | rfl | rfl | rfl | rfl
    · exact .inl nx
    · exact .inl (nn F.nl)
    · exact .inl (nn F.nw)
    · exact .inl (nn F.ng)
    · exact .inl (nn F.nt)
    · exact .inr rfl
  rintro _ HM ⟨m, f, rfl, M, fav, eM, hold⟩
  refine sq_setEL (xs := []) (el_lst (vs := []) ea_nil (by show 0 ≤ 100000; decide)) fun r Hr nr er kr => ?_
  have Mr : MachAt K Hr m Sv62.fresh (f.plus r) := M.addAv er nr kr rfl
  have sq1 : SqL K Hr a (ns.map V.int) := ex_l (eM.trans er) sqa
  have aout : (∃ (o : Obj) (its : Array Value) (n : Nat), K.lookup a = some o ∧ o.cls = .type "list" ∧ o.dict = none ∧ o.data = .seq its n ∧ its.size ≤ sizeLine ∧ Vals (ns.map V.int) its.toList) ∨ a ∉ (f.plus r).all m := by
    have go : ∀ o, H a = some o → ntb o = true → a ∉ (f.plus r).all m := fun o ho ht z => by
      rcases mem_plus.mp z with rfl | z
      · rw [eM _ _ ho] at nr
        cases nr
      · rcases hold a z with h | h
        · rw [h] at ho
          cases ho
        · rw [h, htb] at ho
          cases ho
          cases ht
    rcases sqa with (h | ⟨o, h⟩) | h
    · exact .inr (go _ h rfl)
    · exact .inr (go _ h rfl)
    · exact .inl h
  have sqK : ∀ {n' : Sv62.Net} {f' : Foot} {Hx : Hp}, MovB K [] Hr m (f.plus r) n' Hx f' → SqL K Hx a (ns.map V.int) := fun {n' f' Hx} mb => by
    rcases aout with h | h
    · exact .inr h
    · exact sq_keep sq1 mb.keep fun _ _ _ => h
  refine sq_set (v := .int ((0 : Nat) : Int)) ev_c fun H0 e0 => ?_
  have tl := told_length Sv62Neutral.start cs
  have sh := A.short
  have fw := A.few
  refine q_while (fun k σ' H' => ∃ (i : Nat) (cs' : List Call) (n' : Sv62.Net) (f' : Foot) (laid : List Int) (o4 o5 o6 o7 : Option V), σ' = [some (.ref a), some (.ref m), some (.ref r), some (.int (i : Int)), o4, o5, o6, o7] ∧ k = cs'.length ∧ Reads (ns.drop i) cs' ∧ i ≤ ns.length ∧ MovB K [] Hr m (f.plus r) n' H' f' ∧ H' r = some (.lst (laid.map V.int)) ∧ PyFlat.told (PyFlat.played Sv62Neutral.step Sv62Neutral.start cs) = laid ++ PyFlat.told (PyFlat.played Sv62Neutral.step n' cs') ∧ ∀ c ∈ cs', Inside c) cs.length
    ⟨0, cs, Sv62.fresh, f.plus r, [], none, none, none, none, rfl, rfl, A.reads, Nat.zero_le _, (MovB.of Mr (fun _ h => absurd h (by simp))).then e0, e0 _ _ kr, rfl, A.inside⟩ (fun k σ' H' z => ?_)
  obtain ⟨i, cs', n', f', laid, o4, o5, o6, o7, rfl, rfl, rd, hi, mb, hr', hdue, hins⟩ := z
  have sqi := sqK mb
  refine ⟨decide (i < ns.length), et_is (et_test (ev_op (ev_var (i := 3) rfl) (ev_len (K := K) (ev_var (i := 0) rfl) sqi) rv_I0)) ?_, fun hb H1 e1 => ?_, fun hb H1 e1 => ?_⟩
  · rw [List.length_map]
    apply decide_eq_decide.mpr
    omega
  · have hlt : i < ns.length := of_decide_eq_true hb
    -- what stands there
    have one : ∃ (p : Int) (xs t : List Int) (c : Call) (cs2 : List Call) (n e : Nat) (ys : List Int), cs' = c :: cs2 ∧ ns[i]? = some p ∧ xs.length = n ∧ tab_NUMBERS_BEHIND.lookup p = some (.int (n : Int)) ∧ (ns.drop (i + 1)).take n = xs ∧ ns.drop e = t ∧ e ≤ ns.length ∧ Reads t cs2 ∧
        (if p = 6 ∨ p = 7 ∨ p = 8 then ∃ k : Nat, ns[i + 1 + n]? = some (k : Int) ∧ e = i + 1 + n + 1 + k else e = i + 1 + n) ∧ (ns.drop (i + 1 + n + 1)).take (e - (i + 1 + n + 1)) = ys ∧ (∀ (H : Hp) (S : List Addr) (d : Addr), H d = some (.lst (ys.map V.int)) → d ∉ S → CallC H S d p xs c) := by
      generalize hd : ns.drop i = l at rd
      cases rd with
      | nil =>
        have := congrArg List.length hd
        rw [List.length_drop] at this
        simp at this
        omega
      | @num p n xs t cs2 hs hx ht =>
        obtain ⟨d1, d2, d3, d4⟩ := drop_mid hd
        obtain ⟨c1, c2, c3⟩ := call_num hs hx (hins _ List.mem_cons_self) (fun _ => none) [] 0
        rw [hx] at d3 d4
        refine ⟨p, xs, t, _, cs2, n, i + 1 + n, [], rfl, d2, hx, c2, d3, d4, ?_, ht, by rw [if_neg c3], by rw [Nat.sub_eq_zero_of_le (by omega)]; rfl, fun H S d _ _ => (call_num hs hx (hins _ List.mem_cons_self) H S d).1⟩
        have := congrArg List.length hd
        rw [List.length_drop, List.length_cons, List.length_append] at this
        omega
      | @row p n xs b t cs2 hs hx ht =>
        obtain ⟨d1, d2, d3, d4⟩ := drop_mid hd
        obtain ⟨g1, g2, g3, g4⟩ := drop_mid d4
        obtain ⟨c1, c2, c3⟩ := call_row hs hx (hins _ List.mem_cons_self)
        rw [hx] at d3 g2 g3 g4 g1
        refine ⟨p, xs, t, _, cs2, n, i + 1 + n + 1 + b.length, b, rfl, d2, hx, c1, d3, g4, ?_, ht, by rw [if_pos c2]; exact ⟨b.length, g2, rfl⟩, by rw [Nat.add_sub_cancel_left]; exact g3, fun H S d hdd nd => c3 H S d hdd nd⟩
        have := congrArg List.length hd
        rw [List.length_drop, List.length_cons, List.length_append, List.length_cons, List.length_append] at this
        omega
    obtain ⟨p, xs, t, c, cs2, n, e, ys, rfl, hp, hx, htab, hxs, hte, hel, hrd, hend, hys, hcall⟩ := one
    refine ⟨_, fun σ2 H2 hN => ⟨cs2.length, by rw [List.length_cons]; exact Nat.lt_succ_self _, hN⟩, ?_⟩
    have mb1 := mb.then e1
    have sq1 := sqK mb1
    refine sq_set (v := .int p) (ev_op (ev_var (i := 0) rfl) (ev_var (i := 3) rfl) (rv_ixL sq1 (atI_nat (j := i) (by rw [List.getElem?_map, hp]; rfl)))) fun H2 e2 => ?_
    refine sq_set (v := .int ((i + 1 + n : Nat) : Int)) (ev_op (ev_op (ev_var (i := 3) rfl) ev_c rv_I0) (ev_tab (ev_var (i := 4) rfl) htab) rv_I0) fun H3 e3 => ?_
    have e13 := e2.trans e3
    refine sq_set (v := .int (e : Int)) (ev_call (ea_cons (ev_var (i := 0) rfl) (ea_cons (ev_var (i := 4) rfl) (ea_cons (ev_var (i := 5) rfl) ea_nil))) fun H4 e4 Q4 q4 _ => ⟨a, ns, p, i + 1 + n, rfl, ex_l (e13.trans e4) sq1, ?_⟩) fun H4 e4 => ?_
    · by_cases c6 : p = 6 ∨ p = 7 ∨ p = 8
      · rw [if_pos c6] at hend ⊢
        obtain ⟨k, hk, rfl⟩ := hend
        exact ⟨k, hk, q4⟩
      · rw [if_neg c6] at hend ⊢
        subst hend
        exact q4
    have e14 := e13.trans e4
    have mb4 := mb1.then e14
    have sq4 := sqK mb4
    have s1 := el_sl (K := K) (te := tVar 0) (tl := tPart (tOp (rI0 fun i j => .int (i + j)) (tVar 3) (tC (.int 1)))) (th := tPart (tVar 5)) (σ := [some (.ref a), some (.ref m), some (.ref r), some (.int (i : Int)), some (.int p), some (.int ((i + 1 + n : Nat) : Int)), some (.int (e : Int)), o7]) (H := H4) (lo := some ((i + 1 : Nat) : Int)) (hi := some ((i + 1 + n : Nat) : Int)) (ev_var rfl) (eo_some (ev_op (ev_var rfl) ev_c rv_I0)) (eo_some (ev_var rfl)) sq4
    rw [cut_part, ← List.map_drop, ← List.map_take, Nat.add_sub_cancel_left, hxs] at s1
    have s2 := el_sl (K := K) (te := tVar 0) (tl := tPart (tOp (rI0 fun i j => .int (i + j)) (tVar 5) (tC (.int 1)))) (th := tPart (tVar 6)) (σ := [some (.ref a), some (.ref m), some (.ref r), some (.int (i : Int)), some (.int p), some (.int ((i + 1 + n : Nat) : Int)), some (.int (e : Int)), o7]) (H := H4) (lo := some ((i + 1 + n + 1 : Nat) : Int)) (hi := some (e : Int)) (ev_var rfl) (eo_some (ev_op (ev_var rfl) ev_c rv_I0)) (eo_some (ev_var rfl)) sq4
    rw [cut_part, ← List.map_drop, ← List.map_take, hys] at s2
    refine sq_setX (x_callR (R := fun z H' => ∃ x, z = .ref x ∧ Done K H4 m f' (Sv62Neutral.step n' c).1 (Sv62Neutral.step n' c).2 x H') (ar_ev (ev_var (i := 1) rfl) (ar_ev (ev_var (i := 4) rfl) (ar_el s1 (ar_el s2 ar_nil)))) fun ws H5 e5 ⟨r1, w1, r2, w2, d1, r3, w3, nd1, hd1, d2, r4, w4, nd2, hd2, w5⟩ Q5 E5 q5 => ?_) ?_
    · subst w1 w2 w3 w4 w5
      exact ⟨m, n', f', p, xs, d1, d2, c, rfl, mb4.at_.ex e5, hd1, hcall H5 _ d2 hd2 (mb4.at_.fresh nd2), fun x H6 dn => q5 _ _ ⟨x, rfl, dn.after e5⟩⟩
    rintro _ H5 ⟨x, rfl, f5, mv5, _, out5, hx5⟩
    have mb5 := mb4.trans mv5
    have rin : r ∈ f'.av := by
      rw [mb.ava]
      exact List.mem_cons_self
    have r5 : H5 r = some (.lst (laid.map V.int)) := mv5.av.2 r rin _ (e14 _ _ (e1 _ _ hr')) rfl
    have rx : x ≠ r := fun z => out5 (by
      rw [z, all_eq, List.mem_append, mb5.ava]
      exact .inr List.mem_cons_self)
    rw [told_played_cons] at hdue
    have hl1 : laid.length + ((Sv62Neutral.step n' c).2.length + 1) ≤ 1000400 := by
      have := congrArg List.length hdue
      rw [tl, List.length_append, List.length_cons, List.length_append] at this
      omega
    refine q_app16 (K := K) r5 (ev_var (i := 2) rfl) (ev_len (K := K) (ev_var (i := 7) rfl) (sq_of hx5)) (by rw [List.length_map]; omega) fun H6 e6 => ?_
    rw [List.length_map]
    have mb6 := (mb5.then e6).upd (r := r) (ys := laid.map V.int ++ [V.int ((Sv62Neutral.step n' c).2.length : Int)]) List.mem_cons_self (fun h => nomatch h) (e6 _ _ r5)
    generalize hH7 : upd H6 r (.lst (laid.map V.int ++ [V.int ((Sv62Neutral.step n' c).2.length : Int)])) = H7 at mb6
    have r7 : H7 r = some (.lst (laid.map V.int ++ [V.int ((Sv62Neutral.step n' c).2.length : Int)])) := by
      rw [← hH7]
      exact upd_same
    have x7 : H7 x = some (.lst ((Sv62Neutral.step n' c).2.map V.int)) := by
      rw [← hH7, upd_ne rx]
      exact e6 _ _ hx5
    refine q_ext (K := K) r7 (ev_var (i := 2) rfl) (es_at (ev_var (i := 7) rfl) x7) (by
      rw [List.length_append, List.length_map, List.length_map]
      exact line_le (by show laid.length + 1 + _ ≤ _; omega)) fun H8 e8 => ?_
    have mb8 := (mb6.then e8).upd (r := r) (ys := (laid.map V.int ++ [V.int ((Sv62Neutral.step n' c).2.length : Int)]) ++ (Sv62Neutral.step n' c).2.map V.int) List.mem_cons_self (fun h => nomatch h) (e8 _ _ r7)
    refine s_set1 (v := .int (e : Int)) (ev_var (i := 6) rfl) fun H9 e9 => ?_
    refine ⟨e, cs2, (Sv62Neutral.step n' c).1, f5, laid ++ (((Sv62Neutral.step n' c).2.length : Int) :: (Sv62Neutral.step n' c).2), _, _, _, _, rfl, rfl, by rw [hte]; exact hrd, hel, mb8.then e9, ?_, ?_, fun c' hc' => hins c' (List.mem_cons_of_mem _ hc')⟩
    · rw [e9 _ _ upd_same]
      simp
    · rw [hdue]
      simp
  · have hge : ns.length ≤ i := Nat.not_lt.mp (of_decide_eq_false hb)
    rw [List.drop_of_length_le hge] at rd
    cases rd
    refine ret_ev (ev_var (i := 2) rfl) fun H2 e2 => q H2 r ?_
    have el : laid = PySv62.answers ns := by
      rw [A.due, hdue]
      show laid = laid ++ PyFlat.told []
      simp [PyFlat.told]
    rw [← el]
    exact e2 _ _ (e1 _ _ hr')
theorem ok_answers (T : Txt K mg base) : DefOk P w K mg base 11 (He.ga K "answers") ["calls"] (sp_answers K) := by
  obtain ⟨fd, F⟩ := T.fd_answers
  exact ⟨fd, okF_answers T F, F.bindsN fun _ _ _ _ _ _ us hl => match us, hl with | [_], _ => rfl, F.kp⟩
end
end Lp
set_option maxHeartbeats 400000000
namespace Lp
open PySem PySem.Spec PyProof.Rows L2 Evl
open PySem.W (Codec OpenSpec WData WellAll ReadsW)
/-- a call's end where the written part has one table of code objects besides: my own form -/
theorem call_table {P : Program} {w : World} {K : PySem.W.Frag} {mg mb : Str → Option Value} {k : Nat} {fa c tp : Addr} {fd : FuncData} {ps : List Str} {sp : Sp} {s₁ : Shared} {vals : List Value} {ds : List WData} {R : PySem.W.WRecords} {cl : Str → Option Addr} {d0 : WData}
    (inK : K.In s₁.heap) (gl : s₁.heap.Ns mainGlobals mg) (bu : s₁.heap.Ns builtinsNs mb) (boot : ∀ x : Str, x ≠ "__name__" → mb x = bootBuiltins x) (lim : s₁.heap.NoLimit) (gens : s₁.gens = #[])
    (tabH : s₁.heap.get? tp = some { cls := .none, data := .fields #[] }) (tabK : K.lookup tp = none) (C : PySem.W.CodeHd s₁.heap c tp)
    (bmain : ∃ (bm : Addr) (ob : Obj), mg "__builtins__" = some (.ref bm) ∧ bm ≠ builtinsNs ∧ s₁.heap.get? bm = some ob ∧ ob.cls = .type "module" ∧ ob.dict = some builtinsNs ∧ ob.data = .plain)
    (well : WellAll w.params s₁.heap vals ds) (plain : plWs ds = true) (light : ∀ d ∈ ds, d.weight ≤ 1048576) (room : Room k callerA)
    (F : ∀ base : Heap, K.In base → base.Ns mainGlobals mg → LamX.TabB base mg c tp → FnOk P w K mg base CX0 k fa fd ps sp) (binds : ∀ (s : Shared) (us : List Value), us.length = ps.length → BindsTo s fd ⟨us, []⟩ (ps.zip us)) (count : ds.length = ps.length)
    (S : ∀ (H : Hp) (xs : List V), OnlyF H → H tp = none → DwAll K H xs ds → sp xs (upd H tp (.tbl #[])) (fun v H' => Dw K H' v d0) fun _ _ _ => False) :
    codeAny (model P w) callerA (.call (.ref fa) ⟨vals, []⟩) (fun r s' => ∃ u as, r = .ok (.ret u) ∧ ReadsW R cl s'.heap u d0 as ∧ OldK s₁.heap s'.heap ∧ s'.os = s₁.os ∧ AllBare s'.gens) s₁ := by
  obtain ⟨A, inA, areas⟩ := area_all ds vals well plain light
  have only : OnlyF (argH K s₁.heap A) := argH_only areas
  have okA : HOk P w (argH K s₁.heap A) s₁.heap := argH_ok areas
  have each := dw_all inK areas ds vals well plain inA
  have rel := vals_toV inA
  have apart : ∀ b u, argH K s₁.heap A b = some u → K.lookup b = none := fun b u q => (argH_is areas q).1
  have seqs : ∀ {b : Addr} {o : Obj}, s₁.heap.get? b = some o → (∀ vs n, o.data ≠ .seq vs n) → argH K s₁.heap A b = none := fun {b o} e d => by
    cases q : argH K s₁.heap A b with
    | none => rfl
    | some u =>
      exfalso
      obtain ⟨_, vs, _, _, ⟨e2, _⟩ | ⟨e2, _⟩⟩ := argH_is areas q
      · rw [e2] at e
        cases e
        exact d _ _ rfl
      · rw [e2] at e
        cases e
        exact d _ _ rfl
  generalize argH K s₁.heap A = G at only okA each apart seqs
  have tpG : G tp = none := seqs tabH fun vs n z => nomatch z
  have hok : HOk P w (upd G tp (.tbl #[])) s₁.heap := HOk.laidN okA (fun _ _ e => e) tpG (by exact tabH)
  have atT : (upd G tp (.tbl #[])) tp = some (.tbl #[]) := upd_same
  have off : ∀ {b : Addr}, b ≠ tp → (upd G tp (.tbl #[])) b = G b := fun hb => upd_ne hb
  generalize hH : upd G tp (.tbl #[]) = H at hok atT off
  have under : ∀ {b : Addr} {o : Obj}, s₁.heap.get? b = some o → H b = none → (hidT s₁.heap H).get? b = some o := fun e n => hidT_get e n
  have no : ∀ {b : Addr} {o : Obj}, s₁.heap.get? b = some o → (∀ vs n, o.data ≠ .seq vs n) → o.data ≠ .fields #[] → H b = none := fun {b o} e d1 d2 => by
    have hb : b ≠ tp := fun z => by
      rw [z, tabH] at e
      cases e
      exact d2 rfl
    rw [off hb]
    exact seqs e d1
  have nsK : ∀ {b : Addr} {m : Str → Option Value}, s₁.heap.Ns b m → (hidT s₁.heap H).Ns b m := fun {b m} ⟨o, es, ep, e, d, r⟩ => ⟨o, es, ep, under e (no e (fun vs n z => by
    rw [d] at z
    cases z) fun z => by
    rw [d] at z
    cases z), d, r⟩
  have nK : ∀ b o, K.lookup b = some o → H b = none := fun b o e => by
    have hb : b ≠ tp := fun z => by
      rw [z, tabK] at e
      cases e
    rw [off hb]
    cases q : G b with
    | none => rfl
    | some u =>
      rw [apart b u q] at e
      cases e
  have inKb : K.In (hidT s₁.heap H) := fun b o e => under (inK b o e) (nK b o e)
  have modK : L2.Mod K mg (hidT s₁.heap H) := ⟨inKb, nsK gl, ⟨mb, nsK bu, boot⟩, let ⟨mc, h1, h2⟩ := lim; ⟨mc, nsK h1, h2⟩⟩
  have TB : LamX.TabB (hidT s₁.heap H) mg c tp := by
    refine ⟨?_, ?_, fun z => ?_⟩
    · obtain ⟨o, us, file, tf, flags, tg, inF, text, tt, g1, r1, r2, r3, r4, r5, r6, r7, r8, hne⟩ := C
      refine ⟨o, us, file, tf, flags, tg, inF, text, tt, under g1 (no g1 (fun vs n z => ?_) fun z => ?_), r1, r2, r3, r4, r5, r6, r7, r8, hne⟩
      · rw [r2] at z
        cases z
      · rw [r2] at z
        cases z
        simp at r3
    · obtain ⟨bm, ob, b1, b2, b3, b4, b5, b6⟩ := bmain
      have nG : bm ≠ mainGlobals := fun q => by
        obtain ⟨o, es, ep, e, hd, _⟩ := gl
        rw [q, e] at b3
        cases b3
        rw [hd] at b6
        cases b6
      have nP : bm ≠ tp := fun q => by
        rw [q, tabH] at b3
        cases b3
        cases b6
      refine ⟨bm, ob, b1, b2, nG, nP, under b3 (no b3 (fun vs n z => ?_) fun z => ?_), b4, b5, b6⟩
      · rw [b6] at z
        cases z
      · rw [b6] at z
        cases z
    · obtain ⟨o, es, ep, e, hd, _⟩ := gl
      rw [z, tabH] at e
      cases e
      cases hd
  have env0 : Env0 P w K mg (hidT s₁.heap H) callerA [] s₁ H := ⟨rfl, modK, fun b o e => of_hidT e, Nat.le_of_eq (hidT_size _ _), trivial, fun b hb => absurd (show b ∈ ([] : List Addr) from hb) (by simp), hok, .of_eq gens⟩
  have hl : vals.length = ps.length := by
    rw [wellAll_len well]
    exact count
  refine codeAny_mono ((F _ inKb (nsK gl) TB).run callerA [] s₁ H ⟨vals, []⟩ vals (vals.map toV) _ _ room env0 (binds s₁ vals hl) rel (by rw [← hH]; exact S G _ only tpG each)) fun r s' x => ?_
  cases r with
  | error e => exact (show False from x).elim
  | ok fl =>
    cases fl with
    | next => exact False.elim x
    | brk => exact False.elim x
    | cont => exact False.elim x
    | ret u =>
      obtain ⟨v, H', os, bare, un, hok', r', q⟩ := x
      have kept : ∀ b o, b ≠ tp → s₁.heap.get? b = some o → s'.heap.get? b = some o := fun b o hb e => by
        cases q2 : H b with
        | none => exact un.keep b o e q2 (by intro z; exact absurd (show b ∈ ([] : List Addr) from z) (by simp)) (by simp)
        | some u2 =>
          rw [off hb] at q2
          rcases only b with z | ⟨ob, u3, z⟩
          · rw [q2] at z
            cases z
          · have z' : H b = some (.frz ob u3) := by
              rw [off hb]
              exact z
            have z2 := un.frzs b ob _ z'
            obtain ⟨g1, _⟩ := hok b _ z'
            obtain ⟨g2, _⟩ := hok' b _ z2
            rw [e] at g1
            cases g1
            exact g2
      obtain ⟨more, grown⟩ : ∃ more : Array Value, s'.heap.get? tp = some { cls := .none, data := .fields more } := by
        obtain ⟨more, z⟩ := un.tbls tp #[] atT
        exact ⟨_, hok' tp _ z⟩
      have inK' : K.In s'.heap := fun b o e => kept b o (fun z => by
        rw [z, tabK] at e
        cases e) (inK b o e)
      obtain ⟨as, hrd⟩ := Dw.reads (R := R) (cl := cl) hok' inK' d0 v u q r'
      refine ⟨u, as, rfl, hrd, ⟨fun b o e => ?_, fun b o e => ?_⟩, os, bare⟩
      · by_cases hb : b = tp
        · subst hb
          rw [tabH] at e
          cases e
          exact .inr (.inl ⟨(C.tab tabH).isCodeTable, rfl, #[], more, rfl, by rw [Array.empty_append]; exact grown⟩)
        · exact .inl (kept b o hb e)
      · by_cases hb : b = tp
        · subst hb
          exact ⟨_, grown⟩
        · exact ⟨o, kept b o hb e⟩
/-- the end of a Spec row over a head that tells its written part by facts, one table of code objects besides -/
theorem end_by_table {r : OpenSpec} {k : Nat} {q : Program} {loose : List Str} {XP : (Str → Option Value) → Heap → Prop} {YP : World → Heap → Prop} {d : DefRec} {ps : List Str} {sp : PySem.W.Frag → Sp}
    (well : r.wellSaid = true) (len : r.args.length = ps.length) (room : Room k callerA)
    (F : ∀ (w : World) (mg : Str → Option Value) (f : Addr) (h : Heap), YP w h → h.Ns mainGlobals mg → mg d.name = some (.ref f) →
      ∃ (K : PySem.W.Frag) (fd : FuncData), K.In h ∧ h.get? (lamP K) = some { cls := .none, data := .fields #[] } ∧ K.lookup (lamP K) = none ∧ PySem.W.CodeHd h (lamC K) (lamP K) ∧ (∀ (s : Shared) (us : List Value), us.length = ps.length → BindsTo s fd ⟨us, []⟩ (ps.zip us)) ∧ ∀ b : Heap, K.In b → b.Ns mainGlobals mg → LamX.TabB b mg (lamC K) (lamP K) → FnOk r.prog w K mg b CX0 k f fd ps (sp K))
    (S : ∀ (K : PySem.W.Frag) (H : Hp) (xs : List V) (a : Codec.denoteAll r.args), OnlyF H → H (lamP K) = none → Codec.withinAll r.args a = true → Codec.app r.args r.asked a = true → DwAll K H xs (Codec.encAll r.args a) →
      sp K xs (upd H (lamP K) (.tbl #[])) (fun v H' => Dw K H' v (r.ret.enc (Codec.app r.args r.f a))) fun _ _ _ => False) :
    PySem.W.WalkOS q loose XP YP r d [] (fun f vs => PySem.call f vs) := by
  intro wd st0 st1 mg mb G told f ob pm code doc dfl kwd hob hdat hcode hdf hmg hgen given vals adr ok lay rd well_vals low
  obtain ⟨val, dec_eq, asked⟩ := PySem.W.os_pre_some ok
  obtain ⟨enc_eq, inside⟩ := Codec.encAll_of_decAll r.args given val dec_eq
  subst enc_eq
  obtain ⟨K, fd, inK, t1, t2, t3, binds, keeps⟩ := F wd mg f _ told G.T.g hmg
  have count : (Codec.encAll r.args val).length = ps.length := by
    rw [encAll_len]
    exact len
  have ran := call_table (R := []) (cl := _root_.PySem.classAt st0.heap) (d0 := r.ret.enc (Codec.app r.args r.f val)) inK G.T.g G.T.b G.T.builtins G.T.nolimit hgen t1 t2 t3 G.T.bmain well_vals (pl_encAll _ _) (layable_weight lay) room keeps binds count
    (fun H xs only tp each => S K H xs val only tp inside asked each)
  refine PySem.W.enter_call (codeAny_mono ran fun res st2 outcome => ?_)
  obtain ⟨u, adr2, rfl, reads, old, os_same, bare⟩ := outcome
  refine ⟨.inl ⟨u, _, adr2, rfl, fun _ => rfl, reads, ?_, fun z => Bool.noConfusion (show false = true from z)⟩, old, os_same, bare⟩
  exact (OpenSpec.post_iff well inside _ _).mpr rfl
end Lp
set_option maxHeartbeats 400000000
open PySem PySem.W PySem.Calls PyProof.Rows
theorem PySem.Challenge.cw_linkpieces_s01_answers_holds : PySem.Challenge.rw_linkpieces_s01_answers.Holds := by
  w_on
  refine HandSHeadRun.head_spec (r := PySem.Challenge.rw_linkpieces_s01_answers) (q := view PySem.Challenge.rw_linkpieces_s01_answers.prog [Lp.iAns]) (H := Lp.hk) (ob := Lp.ob) (M := Lp.steps) (loose := Lp.loose) (d := HandSHeadRun.topDef PySem.Challenge.rw_linkpieces_s01_answers.prog Lp.iAns) (kwd := []) Lp.ob_eq
    (by kernel_rfl) (fun s => by kernel_rfl) Lp.run (by kernel_rfl) (by kernel_rfl) (by kernel_rfl) os_shapes (by decide +kernel) (by decide +kernel) ⟨rfl, rfl, rfl, rfl, rfl, by decide +kernel⟩ ?hw ?hc
  case hw => exact ⟨[.list [.int 0]], by decide +kernel, by decide +kernel⟩
  case hc =>
    refine Lp.end_by_table (r := PySem.Challenge.rw_linkpieces_s01_answers) (k := 11) (ps := ["calls"]) (sp := Lp.sp_answers) (by decide +kernel) rfl ⟨rfl, by decide, by decide⟩ ?F ?S
    case F =>
      intro w mg f h Y G hmg0
      obtain ⟨K, KX, c⟩ := Y
      have hmg : mg ("answers" : PySem.Str) = some (.ref f) := by
        have e : (HandSHeadRun.topDef PySem.Challenge.rw_linkpieces_s01_answers.prog Lp.iAns).name = ("answers" : PySem.Str) := by kernel_rfl
        rw [← e]
        exact hmg0
      have c1 := c.hd Lp.lamD (List.mem_singleton.mpr rfl)
      have c2 := c.out Lp.lamD (List.mem_singleton.mpr rfl)
      have c3 := c.empty Lp.lamD (List.mem_singleton.mpr rfl)
      have g : mg ("answers" : PySem.Str) = some (.ref (He.ga K "answers")) := He.glo_ok KX G (c.t.d.fact 133 (f := .glo "answers") rfl)
      have e := hmg.symm.trans g
      cases e
      obtain ⟨fd, FD⟩ : ∃ fd, L2.FunD K Lp.d_answers.name Lp.d_answers.qual Lp.d_answers.params Lp.d_answers.body Lp.d_answers.scope [] [] (He.fAd K Lp.d_answers.at_) fd := c.t.d.def_ 80 (d := Lp.d_answers) rfl
      exact ⟨K, fd, KX, c3, c2, PySem.W.codeHd_of_K KX c1, FD.bindsA fun _ _ _ _ _ _ us hl => match us, hl with | [_], _ => rfl, fun b _ _ TB => Lp.okF_answers ⟨⟨h, KX, G⟩, c.t.d, c.more, TB⟩ FD⟩
    case S =>
      intro K H xs a hO htp hwi hask hx
      cases hx with
      | cons h1 h2 =>
        cases h2
        cases h1 with
        | lst hs ha =>
          have e := L2.ints_dw a.1 _ ha
          subst e
          have q : ((Codec.inLen 0 16000 a.1 && a.1.all (Codec.inInt (-2147483648) 9223372036854775807)) && true) = true := hwi
          rw [Bool.and_eq_true, Bool.and_eq_true] at q
          exact ⟨_, a.1, rfl, Evl.ex_l (Evl.Ex.new htp) hs, (Codec.inNat_iff.mp q.1.1).2, hask, ⟨#[], L2.upd_same, trivial, fun pos cv hc => nomatch hc⟩, fun H' p hp => .lst (L2.SqL.of hp) (L2.dw_ints _)⟩
#print axioms PySem.Challenge.cw_linkpieces_s01_answers_holds
