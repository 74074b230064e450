import PyProof.Rows.All
import Wide.All
import OpenK.AllK
import Wide.FinOn
import Open.SpecLaws
import KE.OsGo
import HandS.ForSpec
import HandS.TryMany
import HandS.Comp
import HandS.Dict
import HandS.WordsDict
import HandS.Iter
import HandS.Walk
import HandS.Text
import HandS.Conv
import HandS.SetKeys
import PySem.Challenge.RW_mirrorpool_s01_answers
set_option Elab.async false
set_option linter.all false
set_option maxRecDepth 100000
set_option maxHeartbeats 4000000
namespace Mp
open PySem PySem.Spec PyProof.Rows L2
/-! ### rules of one's own -/
def topS (i : Nat) : Stmt := PySem.Challenge.pw_mirrorpool_s01_answers.main.body.getD i (.Pass ⟨0, 0, 0, 0⟩)
/-- a module's whole number -/
def GI (mg : Str → Option Value) (x : Str) (n : Int) : Prop := ∃ t, mg x = some (.int n t)
theorem pe_gint {X : Cx} {x : Str} {n : Int} {pos : Pos} (h : GI X.mg x n) (hg : Gl X x := by rfl) (hdb : (x == ("__debug__" : Str)) = false := by decide) : PE X (.Name x pos) (tC (.int n)) :=
  h.elim fun t e => pe_glob hg e ⟨t, rfl⟩ hdb
/-- X(), X an own exception class without own __init__ -/
theorem pmk_own0 {X : Cx} {C : Addr} {bmB : List Value} {B newId initId : String} {x : Str} {p pos : Pos} (F : ExcBaseFacts B newId initId bmB) (q : PySem.W.excIn X.K C bmB newId = true) (gC : X.mg x = some (.ref C))
    (kC : PySem.W.keepIn X.K (.ref C) = true) (r : Raises X (.ref C)) (hg : Gl X x) (hdb : (x == ("__debug__" : Str)) = false := by decide) :
    PMk X (.Call (.Name x p) [] [] pos) (fun _ H Q => Q (.ref C) none H) := by
  intro pins s σ H Q I h
  refine wpAny_Call_Name_kw (ld_glob I hg gC ?_ hdb)
  refine PySem.W.callWith_K0 I.kIn kC ?_
  show wpAny _ _ (call (.ref C) []) _ _ _
  obtain ⟨bm, N, nm, qn, bs, hdct, sn, sub, ab, col, dd, k0, k1, k2, k3, k5, mN, hC, hN, hni, T⟩ := exc_obj I.kIn q
  refine wpAny_call_exc_subT F T hC hN hni (fun h' e hm => ?_) (Nat.zero_le _)
  exact mk_of I hm r h (I.hok.gone hm.new)
/-- a def of the text, with its address, its object, how its arguments bind -/
structure Fn (K : PySem.W.Frag) (x qual : Str) (st : Stmt) (ps : List Str) where
  f : Addr
  fd : FuncData
  F : Fun K x qual st f fd
  b : Binds K fd ps []
/-- an error of the class at S is what «except S» names -/
theorem exm_self {K : PySem.W.Frag} {S : Addr} (h1 : PySem.W.subIn K (.ref S) (.type "BaseException") = some true) (h2 : PySem.W.isClsIn K S = true) (h3 : PySem.W.typeIn K (.ref S) = some (.type "type")) (h4 : PySem.W.subIn K (.ref S) (.ref S) = some true) :
    PySem.W.exmOne K (.ref S) (.ref S) = some true := by
  have e1 : (PySem.W.subIn K (.ref S) (.type "BaseException") == some true) = true := by rw [h1] <;> rfl
  have e2 : ((PySem.W.clsIn K S).isSome && PySem.W.typeIn K (.ref S) == some (.type "type")) = true := by
    have h2' : (PySem.W.clsIn K S).isSome = true := h2
    rw [h2', h3] <;> rfl
  show (if (PySem.W.subIn K (.ref S) (.type "BaseException") == some true) = true then (if ((PySem.W.clsIn K S).isSome && PySem.W.typeIn K (.ref S) == some (.type "type")) = true then PySem.W.subIn K (.ref S) (.ref S) else none) else none) = some true
  rw [if_pos e1, if_pos e2]
  exact h4
theorem if_t {c : Bool} {A B : Prop} (hc : c = true) (h : A) : if c = true then A else B := by
  rw [if_pos hc]
  exact h
theorem if_f {c : Bool} {A B : Prop} (hc : c = false) (h : B) : if c = true then A else B := by
  rw [hc, if_neg Bool.false_ne_true]
  exact h
theorem lk_here {k : Str} {v : V} {r : List (Str × V)} : List.lookup k ((k, v) :: r) = some v := by
  have e : (k == k) = true := beq_self_eq_true k
  simp only [List.lookup, e]
theorem lk_past {k g : Str} {v : V} {r : List (Str × V)} (h : (k == g) = false) : List.lookup k ((g, v) :: r) = List.lookup k r := by
  simp only [List.lookup, h]
theorem put_here {f : Str} {v x : V} {r : List (Str × V)} : putF f v ((f, x) :: r) = (f, v) :: r := if_pos rfl
theorem put_past {f g : Str} {v x : V} {r : List (Str × V)} (h : ¬ g = f) : putF f v ((g, x) :: r) = (g, x) :: putF f v r := if_neg h
/-- natural numbers as values -/
abbrev nv (n : Nat) : V := .int (n : Int)
abbrev nvs (l : List Nat) : List V := l.map nv
abbrev st_is_block : Stmt := topS 2
abbrev st_whole_block : Stmt := topS 3
abbrev st_told_bytes : Stmt := topS 4
abbrev st_Call_init : Stmt := inClass (topS 20) 0
abbrev st_Reader_init : Stmt := inClass (topS 21) 0
abbrev st_Reader_has_more : Stmt := inClass (topS 21) 1
abbrev st_Reader_take_number : Stmt := inClass (topS 21) 2
abbrev st_Reader_take_numbers : Stmt := inClass (topS 21) 3
abbrev st_Reader_take_lists : Stmt := inClass (topS 21) 4
abbrev st_Reader_take_call : Stmt := inClass (topS 21) 5
abbrev st_Device_init : Stmt := inClass (topS 23) 0
abbrev st_Device_has_block : Stmt := inClass (topS 23) 1
abbrev st_Device_sure_block : Stmt := inClass (topS 23) 2
abbrev st_Device_block_now : Stmt := inClass (topS 23) 3
abbrev st_Device_read : Stmt := inClass (topS 23) 4
abbrev st_Device_take : Stmt := inClass (topS 23) 5
abbrev st_Device_write : Stmt := inClass (topS 23) 6
abbrev st_Device_flush : Stmt := inClass (topS 23) 7
abbrev st_Device_peek : Stmt := inClass (topS 23) 8
abbrev st_Device_leave : Stmt := inClass (topS 23) 9
abbrev st_Device_sicken : Stmt := inClass (topS 23) 10
abbrev st_Device_rot : Stmt := inClass (topS 23) 11
abbrev st_Device_lose_power : Stmt := inClass (topS 23) 12
abbrev st_Device_tear : Stmt := inClass (topS 23) 13
abbrev st_first_entries : Stmt := topS 33
abbrev st_strike : Stmt := topS 34
abbrev st_Line_init : Stmt := inClass (topS 35) 0
abbrev st_Line_there : Stmt := inClass (topS 35) 1
abbrev st_Line_count_ask : Stmt := inClass (topS 35) 2
abbrev st_Line_switch_off : Stmt := inClass (topS 35) 3
abbrev st_Line_peek : Stmt := inClass (topS 35) 4
abbrev st_Line_alive : Stmt := inClass (topS 35) 5
abbrev st_Line_read : Stmt := inClass (topS 35) 6
abbrev st_Line_write : Stmt := inClass (topS 35) 7
abbrev st_Line_flush : Stmt := inClass (topS 35) 8
abbrev st_can_be_pool : Stmt := topS 45
abbrev st_Pool_init : Stmt := inClass (topS 46) 0
abbrev st_Pool_places : Stmt := inClass (topS 46) 1
abbrev st_Pool_has_place : Stmt := inClass (topS 46) 2
abbrev st_Pool_has_slot : Stmt := inClass (topS 46) 3
abbrev st_Pool_has_device : Stmt := inClass (topS 46) 4
abbrev st_Pool_state_of : Stmt := inClass (topS 46) 5
abbrev st_Pool_give_state : Stmt := inClass (topS 46) 6
abbrev st_Pool_mirror_at : Stmt := inClass (topS 46) 7
abbrev st_Pool_block_at : Stmt := inClass (topS 46) 8
abbrev st_Pool_good_ones : Stmt := inClass (topS 46) 9
abbrev st_Pool_those_not_out : Stmt := inClass (topS 46) 10
abbrev st_Pool_put : Stmt := inClass (topS 46) 11
abbrev st_Pool_put_all : Stmt := inClass (topS 46) 12
abbrev st_Pool_read : Stmt := inClass (topS 46) 13
abbrev st_Pool_write : Stmt := inClass (topS 46) 14
abbrev st_Pool_flush : Stmt := inClass (topS 46) 15
abbrev st_Pool_slots : Stmt := inClass (topS 46) 16
abbrev st_Pool_put_slot : Stmt := inClass (topS 46) 17
abbrev st_divided : Stmt := topS 50
abbrev st_place_bytes : Stmt := topS 51
abbrev st_Sums_init : Stmt := inClass (topS 52) 0
abbrev st_Sums_of_block : Stmt := inClass (topS 52) 1
abbrev st_read_answer : Stmt := topS 58
abbrev st_write_answer : Stmt := topS 59
abbrev st_slots_answer : Stmt := topS 60
abbrev st_put_slot_answer : Stmt := topS 61
abbrev st_state_answer : Stmt := topS 62
abbrev st_state_given : Stmt := topS 63
abbrev st_give_state_answer : Stmt := topS 64
abbrev st_pool_answer : Stmt := topS 65
abbrev st_Session_init : Stmt := inClass (topS 66) 0
abbrev st_Session_begin : Stmt := inClass (topS 66) 1
abbrev st_Session_sum_of : Stmt := inClass (topS 66) 2
abbrev st_Session_answer_by_pool : Stmt := inClass (topS 66) 3
abbrev st_Session_answer : Stmt := inClass (topS 66) 4
abbrev st_answers : Stmt := topS 67
theorem sc_is_block : FnScope ["told"] ["told"] (defScope st_is_block) := ⟨rfl, rfl, rfl, by decide +kernel, rfl, by decide +kernel, by decide +kernel⟩
theorem sc_whole_block : FnScope ["told"] ["told"] (defScope st_whole_block) := ⟨rfl, rfl, rfl, by decide +kernel, rfl, by decide +kernel, by decide +kernel⟩
theorem sc_told_bytes : FnScope ["block", "end"] ["block"] (defScope st_told_bytes) := ⟨rfl, rfl, rfl, by decide +kernel, rfl, by decide +kernel, by decide +kernel⟩
theorem sc_Call_init : FnScope ["self", "code", "numbers", "lists"] ["self", "code", "numbers", "lists"] (defScope st_Call_init) := ⟨rfl, rfl, rfl, by decide +kernel, rfl, by decide +kernel, by decide +kernel⟩
theorem sc_Reader_init : FnScope ["self", "row"] ["self", "row"] (defScope st_Reader_init) := ⟨rfl, rfl, rfl, by decide +kernel, rfl, by decide +kernel, by decide +kernel⟩
theorem sc_Reader_has_more : FnScope ["self"] ["self"] (defScope st_Reader_has_more) := ⟨rfl, rfl, rfl, by decide +kernel, rfl, by decide +kernel, by decide +kernel⟩
theorem sc_Reader_take_number : FnScope ["self"] ["self"] (defScope st_Reader_take_number) := ⟨rfl, rfl, rfl, by decide +kernel, rfl, by decide +kernel, by decide +kernel⟩
theorem sc_Reader_take_numbers : FnScope ["self", "count", "start"] ["self"] (defScope st_Reader_take_numbers) := ⟨rfl, rfl, rfl, by decide +kernel, rfl, by decide +kernel, by decide +kernel⟩
theorem sc_Reader_take_lists : FnScope ["self", "count", "i"] ["self"] (defScope st_Reader_take_lists) := ⟨rfl, rfl, rfl, by decide +kernel, rfl, by decide +kernel, by decide +kernel⟩
theorem sc_Reader_take_call : FnScope ["self", "code", "numbers"] ["self"] (defScope st_Reader_take_call) := ⟨rfl, rfl, rfl, by decide +kernel, rfl, by decide +kernel, by decide +kernel⟩
theorem sc_Device_init : FnScope ["self", "size"] ["self", "size"] (defScope st_Device_init) := ⟨rfl, rfl, rfl, by decide +kernel, rfl, by decide +kernel, by decide +kernel⟩
theorem sc_Device_has_block : FnScope ["self", "k"] ["self", "k"] (defScope st_Device_has_block) := ⟨rfl, rfl, rfl, by decide +kernel, rfl, by decide +kernel, by decide +kernel⟩
theorem sc_Device_sure_block : FnScope ["self", "k"] ["self", "k"] (defScope st_Device_sure_block) := ⟨rfl, rfl, rfl, by decide +kernel, rfl, by decide +kernel, by decide +kernel⟩
theorem sc_Device_block_now : FnScope ["self", "k", "sent"] ["self", "k"] (defScope st_Device_block_now) := ⟨rfl, rfl, rfl, by decide +kernel, rfl, by decide +kernel, by decide +kernel⟩
theorem sc_Device_read : FnScope ["self", "k"] ["self", "k"] (defScope st_Device_read) := ⟨rfl, rfl, rfl, by decide +kernel, rfl, by decide +kernel, by decide +kernel⟩
theorem sc_Device_take : FnScope ["self", "k", "block"] ["self", "k", "block"] (defScope st_Device_take) := ⟨rfl, rfl, rfl, by decide +kernel, rfl, by decide +kernel, by decide +kernel⟩
theorem sc_Device_write : FnScope ["self", "k", "block"] ["self", "k", "block"] (defScope st_Device_write) := ⟨rfl, rfl, rfl, by decide +kernel, rfl, by decide +kernel, by decide +kernel⟩
theorem sc_Device_flush : FnScope ["self", "sent"] ["self"] (defScope st_Device_flush) := ⟨rfl, rfl, rfl, by decide +kernel, rfl, by decide +kernel, by decide +kernel⟩
theorem sc_Device_peek : FnScope ["self", "k", "memory"] ["self", "k"] (defScope st_Device_peek) := ⟨rfl, rfl, rfl, by decide +kernel, rfl, by decide +kernel, by decide +kernel⟩
theorem sc_Device_leave : FnScope ["self"] ["self"] (defScope st_Device_leave) := ⟨rfl, rfl, rfl, by decide +kernel, rfl, by decide +kernel, by decide +kernel⟩
theorem sc_Device_sicken : FnScope ["self", "k"] ["self", "k"] (defScope st_Device_sicken) := ⟨rfl, rfl, rfl, by decide +kernel, rfl, by decide +kernel, by decide +kernel⟩
theorem sc_Device_rot : FnScope ["self", "k", "j", "v", "block"] ["self", "k", "j", "v"] (defScope st_Device_rot) := ⟨rfl, rfl, rfl, by decide +kernel, rfl, by decide +kernel, by decide +kernel⟩
theorem sc_Device_lose_power : FnScope ["self", "mask", "length", "arriving", "at", "sent"] ["self", "mask", "length"] (defScope st_Device_lose_power) := ⟨rfl, rfl, rfl, by decide +kernel, rfl, by decide +kernel, by decide +kernel⟩
theorem sc_Device_tear : FnScope ["self", "sent", "length", "k"] ["self", "sent", "length"] (defScope st_Device_tear) := ⟨rfl, rfl, rfl, by decide +kernel, rfl, by decide +kernel, by decide +kernel⟩
theorem sc_first_entries : FnScope ["script", "entries", "entry"] ["script"] (defScope st_first_entries) := ⟨rfl, rfl, rfl, by decide +kernel, rfl, by decide +kernel, by decide +kernel⟩
theorem sc_strike : FnScope ["device", "entry"] ["device", "entry"] (defScope st_strike) := ⟨rfl, rfl, rfl, by decide +kernel, rfl, by decide +kernel, by decide +kernel⟩
theorem sc_Line_init : FnScope ["self", "sizes", "script", "size"] ["self", "sizes", "script"] (defScope st_Line_init) := ⟨rfl, rfl, rfl, by decide +kernel, rfl, by decide +kernel, by decide +kernel⟩
theorem sc_Line_there : FnScope ["self", "d"] ["self", "d"] (defScope st_Line_there) := ⟨rfl, rfl, rfl, by decide +kernel, rfl, by decide +kernel, by decide +kernel⟩
theorem sc_Line_count_ask : FnScope ["self", "d", "entry"] ["self", "d"] (defScope st_Line_count_ask) := ⟨rfl, rfl, rfl, by decide +kernel, rfl, by decide +kernel, by decide +kernel⟩
theorem sc_Line_switch_off : FnScope ["self", "mask", "length", "device"] ["self", "mask", "length"] (defScope st_Line_switch_off) := ⟨rfl, rfl, rfl, by decide +kernel, rfl, by decide +kernel, by decide +kernel⟩
theorem sc_Line_peek : FnScope ["self", "d", "k"] ["self", "d", "k"] (defScope st_Line_peek) := ⟨rfl, rfl, rfl, by decide +kernel, rfl, by decide +kernel, by decide +kernel⟩
theorem sc_Line_alive : FnScope ["self", "d"] ["self", "d"] (defScope st_Line_alive) := ⟨rfl, rfl, rfl, by decide +kernel, rfl, by decide +kernel, by decide +kernel⟩
theorem sc_Line_read : FnScope ["self", "d", "k", "happened"] ["self", "d", "k"] (defScope st_Line_read) := ⟨rfl, rfl, rfl, by decide +kernel, rfl, by decide +kernel, by decide +kernel⟩
theorem sc_Line_write : FnScope ["self", "d", "k", "block", "happened"] ["self", "d", "k", "block"] (defScope st_Line_write) := ⟨rfl, rfl, rfl, by decide +kernel, rfl, by decide +kernel, by decide +kernel⟩
theorem sc_Line_flush : FnScope ["self", "d", "happened"] ["self", "d"] (defScope st_Line_flush) := ⟨rfl, rfl, rfl, by decide +kernel, rfl, by decide +kernel, by decide +kernel⟩
theorem sc_can_be_pool : FnScope ["n", "mirrors", "standing", "mirror", "d"] ["n", "mirrors"] (defScope st_can_be_pool) := ⟨rfl, rfl, rfl, by decide +kernel, rfl, by decide +kernel, by decide +kernel⟩
theorem sc_Pool_init : FnScope ["self", "line", "sums", "n", "mirrors", "mirror", "d"] ["self", "line", "sums", "n", "mirrors"] (defScope st_Pool_init) := ⟨rfl, rfl, rfl, by decide +kernel, rfl, by decide +kernel, by decide +kernel⟩
theorem sc_Pool_places : FnScope ["self"] ["self"] (defScope st_Pool_places) := ⟨rfl, rfl, rfl, by decide +kernel, rfl, by decide +kernel, by decide +kernel⟩
theorem sc_Pool_has_place : FnScope ["self", "place"] ["self", "place"] (defScope st_Pool_has_place) := ⟨rfl, rfl, rfl, by decide +kernel, rfl, by decide +kernel, by decide +kernel⟩
theorem sc_Pool_has_slot : FnScope ["self", "k"] ["self", "k"] (defScope st_Pool_has_slot) := ⟨rfl, rfl, rfl, by decide +kernel, rfl, by decide +kernel, by decide +kernel⟩
theorem sc_Pool_has_device : FnScope ["self", "d"] ["self", "d"] (defScope st_Pool_has_device) := ⟨rfl, rfl, rfl, by decide +kernel, rfl, by decide +kernel, by decide +kernel⟩
theorem sc_Pool_state_of : FnScope ["self", "d"] ["self", "d"] (defScope st_Pool_state_of) := ⟨rfl, rfl, rfl, by decide +kernel, rfl, by decide +kernel, by decide +kernel⟩
theorem sc_Pool_give_state : FnScope ["self", "d", "state"] ["self", "d", "state"] (defScope st_Pool_give_state) := ⟨rfl, rfl, rfl, by decide +kernel, rfl, by decide +kernel, by decide +kernel⟩
theorem sc_Pool_mirror_at : FnScope ["self", "place"] ["self", "place"] (defScope st_Pool_mirror_at) := ⟨rfl, rfl, rfl, by decide +kernel, rfl, by decide +kernel, by decide +kernel⟩
theorem sc_Pool_block_at : FnScope ["self", "place"] ["self", "place"] (defScope st_Pool_block_at) := ⟨rfl, rfl, rfl, by decide +kernel, rfl, by decide +kernel, by decide +kernel⟩
theorem sc_Pool_good_ones : FnScope ["self", "row", "d"] ["self", "row"] (defScope st_Pool_good_ones) := ⟨rfl, rfl, rfl, by decide +kernel, rfl, by decide +kernel, by decide +kernel⟩
theorem sc_Pool_those_not_out : FnScope ["self", "row", "d"] ["self", "row"] (defScope st_Pool_those_not_out) := ⟨rfl, rfl, rfl, by decide +kernel, rfl, by decide +kernel, by decide +kernel⟩
theorem sc_Pool_put : FnScope ["self", "d", "k", "block"] ["self", "d", "k", "block"] (defScope st_Pool_put) := ⟨rfl, rfl, rfl, by decide +kernel, rfl, by decide +kernel, by decide +kernel⟩
theorem sc_Pool_put_all : FnScope ["self", "row", "k", "block", "given", "d"] ["self", "row", "k", "block"] (defScope st_Pool_put_all) := ⟨rfl, rfl, rfl, by decide +kernel, rfl, by decide +kernel, by decide +kernel⟩
theorem sc_Pool_read : FnScope ["self", "place", "wanted", "k", "asked", "d", "block"] ["self", "place", "wanted"] (defScope st_Pool_read) := ⟨rfl, rfl, rfl, by decide +kernel, rfl, by decide +kernel, by decide +kernel⟩
theorem sc_Pool_write : FnScope ["self", "place", "block"] ["self", "place", "block"] (defScope st_Pool_write) := ⟨rfl, rfl, rfl, by decide +kernel, rfl, by decide +kernel, by decide +kernel⟩
theorem sc_Pool_flush : FnScope ["self", "d", "mirror"] ["self"] (defScope st_Pool_flush) := ⟨rfl, rfl, rfl, by decide +kernel, rfl, by decide +kernel, by decide +kernel⟩
theorem sc_Pool_slots : FnScope ["self", "k", "count", "told", "d", "block", "shown"] ["self", "k"] (defScope st_Pool_slots) := ⟨rfl, rfl, rfl, by decide +kernel, rfl, by decide +kernel, by decide +kernel⟩
theorem sc_Pool_put_slot : FnScope ["self", "k", "block"] ["self", "k", "block"] (defScope st_Pool_put_slot) := ⟨rfl, rfl, rfl, by decide +kernel, rfl, by decide +kernel, by decide +kernel⟩
theorem sc_divided : FnScope ["c", "step"] ["c"] (defScope st_divided) := ⟨rfl, rfl, rfl, by decide +kernel, rfl, by decide +kernel, by decide +kernel⟩
theorem sc_place_bytes : FnScope ["place", "i"] ["place"] (defScope st_place_bytes) := ⟨rfl, rfl, rfl, by decide +kernel, rfl, by decide +kernel, by decide +kernel⟩
theorem sc_Sums_init : FnScope ["self", "low"] ["self"] (defScope st_Sums_init) := ⟨rfl, rfl, rfl, by decide +kernel, rfl, by decide +kernel, by decide +kernel⟩
theorem sc_Sums_of_block : FnScope ["self", "place", "block", "c", "byte"] ["self", "place", "block"] (defScope st_Sums_of_block) := ⟨rfl, rfl, rfl, by decide +kernel, rfl, by decide +kernel, by decide +kernel⟩
theorem sc_read_answer : FnScope ["pool", "place", "wanted"] ["pool", "place", "wanted"] (defScope st_read_answer) := ⟨rfl, rfl, rfl, by decide +kernel, rfl, by decide +kernel, by decide +kernel⟩
theorem sc_write_answer : FnScope ["pool", "place", "told"] ["pool", "place", "told"] (defScope st_write_answer) := ⟨rfl, rfl, rfl, by decide +kernel, rfl, by decide +kernel, by decide +kernel⟩
theorem sc_slots_answer : FnScope ["pool", "k"] ["pool", "k"] (defScope st_slots_answer) := ⟨rfl, rfl, rfl, by decide +kernel, rfl, by decide +kernel, by decide +kernel⟩
theorem sc_put_slot_answer : FnScope ["pool", "k", "told"] ["pool", "k", "told"] (defScope st_put_slot_answer) := ⟨rfl, rfl, rfl, by decide +kernel, rfl, by decide +kernel, by decide +kernel⟩
theorem sc_state_answer : FnScope ["pool", "d"] ["pool", "d"] (defScope st_state_answer) := ⟨rfl, rfl, rfl, by decide +kernel, rfl, by decide +kernel, by decide +kernel⟩
theorem sc_state_given : FnScope ["code", "states"] ["code"] (defScope st_state_given) := ⟨rfl, rfl, rfl, by decide +kernel, rfl, by decide +kernel, by decide +kernel⟩
theorem sc_give_state_answer : FnScope ["pool", "d", "state"] ["pool", "d", "state"] (defScope st_give_state_answer) := ⟨rfl, rfl, rfl, by decide +kernel, rfl, by decide +kernel, by decide +kernel⟩
theorem sc_pool_answer : FnScope ["pool", "call"] ["pool", "call"] (defScope st_pool_answer) := ⟨rfl, rfl, rfl, by decide +kernel, rfl, by decide +kernel, by decide +kernel⟩
theorem sc_Session_init : FnScope ["self", "sizes", "script"] ["self", "sizes", "script"] (defScope st_Session_init) := ⟨rfl, rfl, rfl, by decide +kernel, rfl, by decide +kernel, by decide +kernel⟩
theorem sc_Session_begin : FnScope ["self", "n", "mirrors"] ["self", "n", "mirrors"] (defScope st_Session_begin) := ⟨rfl, rfl, rfl, by decide +kernel, rfl, by decide +kernel, by decide +kernel⟩
theorem sc_Session_sum_of : FnScope ["self", "place", "told"] ["self", "place", "told"] (defScope st_Session_sum_of) := ⟨rfl, rfl, rfl, by decide +kernel, rfl, by decide +kernel, by decide +kernel⟩
theorem sc_Session_answer_by_pool : FnScope ["self", "call"] ["self", "call"] (defScope st_Session_answer_by_pool) := ⟨rfl, rfl, rfl, by decide +kernel, rfl, by decide +kernel, by decide +kernel⟩
theorem sc_Session_answer : FnScope ["self", "call"] ["self", "call"] (defScope st_Session_answer) := ⟨rfl, rfl, rfl, by decide +kernel, rfl, by decide +kernel, by decide +kernel⟩
theorem sc_answers : FnScope ["calls", "reader", "first", "session", "given", "answer"] ["calls"] (defScope st_answers) := ⟨rfl, rfl, rfl, by decide +kernel, rfl, by decide +kernel, by decide +kernel⟩
structure TG (mg : Str → Option Value) : Prop where
  c_BLOCK_BYTES : GI mg "BLOCK_BYTES" (1024)
  c_BEGIN : GI mg "BEGIN" (0)
  c_PLACES : GI mg "PLACES" (1)
  c_READ : GI mg "READ" (2)
  c_WRITE : GI mg "WRITE" (3)
  c_FLUSH : GI mg "FLUSH" (4)
  c_SLOTS_CALL : GI mg "SLOTS_CALL" (5)
  c_PUT_SLOT : GI mg "PUT_SLOT" (6)
  c_OUT_CALL : GI mg "OUT_CALL" (7)
  c_FILL : GI mg "FILL" (8)
  c_GOOD_CALL : GI mg "GOOD_CALL" (9)
  c_STATE : GI mg "STATE" (10)
  c_SUM_OF : GI mg "SUM_OF" (11)
  c_PEEK : GI mg "PEEK" (12)
  c_ASKS : GI mg "ASKS" (13)
  c_NOTHING : GI mg "NOTHING" (-1)
  c_FAIL : GI mg "FAIL" (0)
  c_TAKEN : GI mg "TAKEN" (1)
  c_GOES : GI mg "GOES" (2)
  c_SICK : GI mg "SICK" (3)
  c_ROT : GI mg "ROT" (4)
  c_OFF : GI mg "OFF" (5)
  c_SLOTS : GI mg "SLOTS" (8)
  c_DEVICES : GI mg "DEVICES" (8)
  c_FEWEST_BLOCKS : GI mg "FEWEST_BLOCKS" (16)
  c_MOST_BLOCKS : GI mg "MOST_BLOCKS" (65536)
  c_WIDEST_MIRROR : GI mg "WIDEST_MIRROR" (3)
  c_GOOD : GI mg "GOOD" (0)
  c_BEING_FILLED : GI mg "BEING_FILLED" (1)
  c_OUT : GI mg "OUT" (2)
  c_ALL_ONES : GI mg "ALL_ONES" (18446744073709551615)
  c_DIVISOR : GI mg "DIVISOR" (14514072000185962306)
  c_DONE : GI mg "DONE" (0)
  c_WRONG : GI mg "WRONG" (-2)
  c_NO_POOL : GI mg "NO_POOL" (-9)
  c_POWER_WENT : GI mg "POWER_WENT" (-100)
  n_len : mg "len" = none
  n_range : mg "range" = none
  n_list : mg "list" = none
  n_reversed : mg "reversed" = none
  n_enumerate : mg "enumerate" = none
structure TF (K : PySem.W.Frag) (mg : Str → Option Value) where
  is_block : Fn K "is_block" "is_block" st_is_block ["told"]
  g_is_block : mg "is_block" = some (.ref is_block.f)
  whole_block : Fn K "whole_block" "whole_block" st_whole_block ["told"]
  g_whole_block : mg "whole_block" = some (.ref whole_block.f)
  told_bytes : Fn K "told_bytes" "told_bytes" st_told_bytes ["block"]
  g_told_bytes : mg "told_bytes" = some (.ref told_bytes.f)
  first_entries : Fn K "first_entries" "first_entries" st_first_entries ["script"]
  g_first_entries : mg "first_entries" = some (.ref first_entries.f)
  strike : Fn K "strike" "strike" st_strike ["device", "entry"]
  g_strike : mg "strike" = some (.ref strike.f)
  can_be_pool : Fn K "can_be_pool" "can_be_pool" st_can_be_pool ["n", "mirrors"]
  g_can_be_pool : mg "can_be_pool" = some (.ref can_be_pool.f)
  divided : Fn K "divided" "divided" st_divided ["c"]
  g_divided : mg "divided" = some (.ref divided.f)
  place_bytes : Fn K "place_bytes" "place_bytes" st_place_bytes ["place"]
  g_place_bytes : mg "place_bytes" = some (.ref place_bytes.f)
  read_answer : Fn K "read_answer" "read_answer" st_read_answer ["pool", "place", "wanted"]
  g_read_answer : mg "read_answer" = some (.ref read_answer.f)
  write_answer : Fn K "write_answer" "write_answer" st_write_answer ["pool", "place", "told"]
  g_write_answer : mg "write_answer" = some (.ref write_answer.f)
  slots_answer : Fn K "slots_answer" "slots_answer" st_slots_answer ["pool", "k"]
  g_slots_answer : mg "slots_answer" = some (.ref slots_answer.f)
  put_slot_answer : Fn K "put_slot_answer" "put_slot_answer" st_put_slot_answer ["pool", "k", "told"]
  g_put_slot_answer : mg "put_slot_answer" = some (.ref put_slot_answer.f)
  state_answer : Fn K "state_answer" "state_answer" st_state_answer ["pool", "d"]
  g_state_answer : mg "state_answer" = some (.ref state_answer.f)
  state_given : Fn K "state_given" "state_given" st_state_given ["code"]
  g_state_given : mg "state_given" = some (.ref state_given.f)
  give_state_answer : Fn K "give_state_answer" "give_state_answer" st_give_state_answer ["pool", "d", "state"]
  g_give_state_answer : mg "give_state_answer" = some (.ref give_state_answer.f)
  pool_answer : Fn K "pool_answer" "pool_answer" st_pool_answer ["pool", "call"]
  g_pool_answer : mg "pool_answer" = some (.ref pool_answer.f)
  answers : Fn K "answers" "answers" st_answers ["calls"]
  g_answers : mg "answers" = some (.ref answers.f)
structure TCa (K : PySem.W.Frag) (mg : Str → Option Value) where
  C : Addr
  g : mg "Call" = some (.ref C)
  cl : Cls K C
  init : Fn K "__init__" "Call.__init__" st_Call_init ["self", "code", "numbers", "lists"]
  mak : Mk K C init.f
  n_code : NoAttr K C "code"
  n_numbers : NoAttr K C "numbers"
  n_lists : NoAttr K C "lists"
structure TRe (K : PySem.W.Frag) (mg : Str → Option Value) where
  C : Addr
  g : mg "Reader" = some (.ref C)
  cl : Cls K C
  init : Fn K "__init__" "Reader.__init__" st_Reader_init ["self", "row"]
  has_more : Fn K "has_more" "Reader.has_more" st_Reader_has_more ["self"]
  m_has_more : Meth K C "has_more" has_more.f
  take_number : Fn K "take_number" "Reader.take_number" st_Reader_take_number ["self"]
  m_take_number : Meth K C "take_number" take_number.f
  take_numbers : Fn K "take_numbers" "Reader.take_numbers" st_Reader_take_numbers ["self"]
  m_take_numbers : Meth K C "take_numbers" take_numbers.f
  take_lists : Fn K "take_lists" "Reader.take_lists" st_Reader_take_lists ["self"]
  m_take_lists : Meth K C "take_lists" take_lists.f
  take_call : Fn K "take_call" "Reader.take_call" st_Reader_take_call ["self"]
  m_take_call : Meth K C "take_call" take_call.f
  mak : Mk K C init.f
  n_row : NoAttr K C "row"
  n_at : NoAttr K C "at"
structure TDe (K : PySem.W.Frag) (mg : Str → Option Value) where
  C : Addr
  g : mg "Device" = some (.ref C)
  cl : Cls K C
  init : Fn K "__init__" "Device.__init__" st_Device_init ["self", "size"]
  has_block : Fn K "has_block" "Device.has_block" st_Device_has_block ["self", "k"]
  m_has_block : Meth K C "has_block" has_block.f
  sure_block : Fn K "sure_block" "Device.sure_block" st_Device_sure_block ["self", "k"]
  m_sure_block : Meth K C "sure_block" sure_block.f
  block_now : Fn K "block_now" "Device.block_now" st_Device_block_now ["self", "k"]
  m_block_now : Meth K C "block_now" block_now.f
  read : Fn K "read" "Device.read" st_Device_read ["self", "k"]
  m_read : Meth K C "read" read.f
  take : Fn K "take" "Device.take" st_Device_take ["self", "k", "block"]
  m_take : Meth K C "take" take.f
  write : Fn K "write" "Device.write" st_Device_write ["self", "k", "block"]
  m_write : Meth K C "write" write.f
  flush : Fn K "flush" "Device.flush" st_Device_flush ["self"]
  m_flush : Meth K C "flush" flush.f
  peek : Fn K "peek" "Device.peek" st_Device_peek ["self", "k"]
  m_peek : Meth K C "peek" peek.f
  leave : Fn K "leave" "Device.leave" st_Device_leave ["self"]
  m_leave : Meth K C "leave" leave.f
  sicken : Fn K "sicken" "Device.sicken" st_Device_sicken ["self", "k"]
  m_sicken : Meth K C "sicken" sicken.f
  rot : Fn K "rot" "Device.rot" st_Device_rot ["self", "k", "j", "v"]
  m_rot : Meth K C "rot" rot.f
  lose_power : Fn K "lose_power" "Device.lose_power" st_Device_lose_power ["self", "mask", "length"]
  m_lose_power : Meth K C "lose_power" lose_power.f
  tear : Fn K "tear" "Device.tear" st_Device_tear ["self", "sent", "length"]
  m_tear : Meth K C "tear" tear.f
  mak : Mk K C init.f
  n_size : NoAttr K C "size"
  n_sure : NoAttr K C "sure"
  n_coming : NoAttr K C "coming"
  n_sick : NoAttr K C "sick"
  n_gone : NoAttr K C "gone"
structure TPg (K : PySem.W.Frag) (mg : Str → Option Value) where
  C : Addr
  g : mg "PowerGone" = some (.ref C)
  x : PySem.W.excIn K C [.type "Exception", .type "BaseException", .type "object"] "Exception.__new__" = true
  kp : PySem.W.keepIn K (.ref C) = true
  sb : PySem.W.subIn K (.ref C) (.type "BaseException") = some true
  ty : PySem.W.typeIn K (.ref C) = some (.type "type")
  ex : PySem.W.exmOne K (.ref C) (.ref C) = some true
structure TLi (K : PySem.W.Frag) (mg : Str → Option Value) where
  C : Addr
  g : mg "Line" = some (.ref C)
  cl : Cls K C
  init : Fn K "__init__" "Line.__init__" st_Line_init ["self", "sizes", "script"]
  there : Fn K "there" "Line.there" st_Line_there ["self", "d"]
  m_there : Meth K C "there" there.f
  count_ask : Fn K "count_ask" "Line.count_ask" st_Line_count_ask ["self", "d"]
  m_count_ask : Meth K C "count_ask" count_ask.f
  switch_off : Fn K "switch_off" "Line.switch_off" st_Line_switch_off ["self", "mask", "length"]
  m_switch_off : Meth K C "switch_off" switch_off.f
  peek : Fn K "peek" "Line.peek" st_Line_peek ["self", "d", "k"]
  m_peek : Meth K C "peek" peek.f
  alive : Fn K "alive" "Line.alive" st_Line_alive ["self", "d"]
  m_alive : Meth K C "alive" alive.f
  read : Fn K "read" "Line.read" st_Line_read ["self", "d", "k"]
  m_read : Meth K C "read" read.f
  write : Fn K "write" "Line.write" st_Line_write ["self", "d", "k", "block"]
  m_write : Meth K C "write" write.f
  flush : Fn K "flush" "Line.flush" st_Line_flush ["self", "d"]
  m_flush : Meth K C "flush" flush.f
  mak : Mk K C init.f
  n_devices : NoAttr K C "devices"
  n_entries : NoAttr K C "entries"
  n_ask_count : NoAttr K C "ask_count"
structure TPo (K : PySem.W.Frag) (mg : Str → Option Value) where
  C : Addr
  g : mg "Pool" = some (.ref C)
  cl : Cls K C
  init : Fn K "__init__" "Pool.__init__" st_Pool_init ["self", "line", "sums", "n", "mirrors"]
  places : Fn K "places" "Pool.places" st_Pool_places ["self"]
  m_places : Meth K C "places" places.f
  has_place : Fn K "has_place" "Pool.has_place" st_Pool_has_place ["self", "place"]
  m_has_place : Meth K C "has_place" has_place.f
  has_slot : Fn K "has_slot" "Pool.has_slot" st_Pool_has_slot ["self", "k"]
  m_has_slot : Meth K C "has_slot" has_slot.f
  has_device : Fn K "has_device" "Pool.has_device" st_Pool_has_device ["self", "d"]
  m_has_device : Meth K C "has_device" has_device.f
  state_of : Fn K "state_of" "Pool.state_of" st_Pool_state_of ["self", "d"]
  m_state_of : Meth K C "state_of" state_of.f
  give_state : Fn K "give_state" "Pool.give_state" st_Pool_give_state ["self", "d", "state"]
  m_give_state : Meth K C "give_state" give_state.f
  mirror_at : Fn K "mirror_at" "Pool.mirror_at" st_Pool_mirror_at ["self", "place"]
  m_mirror_at : Meth K C "mirror_at" mirror_at.f
  block_at : Fn K "block_at" "Pool.block_at" st_Pool_block_at ["self", "place"]
  m_block_at : Meth K C "block_at" block_at.f
  good_ones : Fn K "good_ones" "Pool.good_ones" st_Pool_good_ones ["self", "row"]
  m_good_ones : Meth K C "good_ones" good_ones.f
  those_not_out : Fn K "those_not_out" "Pool.those_not_out" st_Pool_those_not_out ["self", "row"]
  m_those_not_out : Meth K C "those_not_out" those_not_out.f
  put : Fn K "put" "Pool.put" st_Pool_put ["self", "d", "k", "block"]
  m_put : Meth K C "put" put.f
  put_all : Fn K "put_all" "Pool.put_all" st_Pool_put_all ["self", "row", "k", "block"]
  m_put_all : Meth K C "put_all" put_all.f
  read : Fn K "read" "Pool.read" st_Pool_read ["self", "place", "wanted"]
  m_read : Meth K C "read" read.f
  write : Fn K "write" "Pool.write" st_Pool_write ["self", "place", "block"]
  m_write : Meth K C "write" write.f
  flush : Fn K "flush" "Pool.flush" st_Pool_flush ["self"]
  m_flush : Meth K C "flush" flush.f
  slots : Fn K "slots" "Pool.slots" st_Pool_slots ["self", "k"]
  m_slots : Meth K C "slots" slots.f
  put_slot : Fn K "put_slot" "Pool.put_slot" st_Pool_put_slot ["self", "k", "block"]
  m_put_slot : Meth K C "put_slot" put_slot.f
  mak : Mk K C init.f
  n_line : NoAttr K C "line"
  n_sums : NoAttr K C "sums"
  n_n : NoAttr K C "n"
  n_mirrors : NoAttr K C "mirrors"
  n_states : NoAttr K C "states"
structure TSu (K : PySem.W.Frag) (mg : Str → Option Value) where
  C : Addr
  g : mg "Sums" = some (.ref C)
  cl : Cls K C
  init : Fn K "__init__" "Sums.__init__" st_Sums_init ["self"]
  of_block : Fn K "of_block" "Sums.of_block" st_Sums_of_block ["self", "place", "block"]
  m_of_block : Meth K C "of_block" of_block.f
  mak : Mk K C init.f
  n_steps : NoAttr K C "steps"
structure TSe (K : PySem.W.Frag) (mg : Str → Option Value) where
  C : Addr
  g : mg "Session" = some (.ref C)
  cl : Cls K C
  init : Fn K "__init__" "Session.__init__" st_Session_init ["self", "sizes", "script"]
  begin : Fn K "begin" "Session.begin" st_Session_begin ["self", "n", "mirrors"]
  m_begin : Meth K C "begin" begin.f
  sum_of : Fn K "sum_of" "Session.sum_of" st_Session_sum_of ["self", "place", "told"]
  m_sum_of : Meth K C "sum_of" sum_of.f
  answer_by_pool : Fn K "answer_by_pool" "Session.answer_by_pool" st_Session_answer_by_pool ["self", "call"]
  m_answer_by_pool : Meth K C "answer_by_pool" answer_by_pool.f
  answer : Fn K "answer" "Session.answer" st_Session_answer ["self", "call"]
  m_answer : Meth K C "answer" answer.f
  mak : Mk K C init.f
  n_line : NoAttr K C "line"
  n_sums : NoAttr K C "sums"
  n_pool : NoAttr K C "pool"
structure Txt (K : PySem.W.Frag) (mg : Str → Option Value) where
  G : TG mg
  F : TF K mg
  Ca : TCa K mg
  Re : TRe K mg
  De : TDe K mg
  Pg : TPg K mg
  Li : TLi K mg
  Po : TPo K mg
  Su : TSu K mg
  Se : TSe K mg
end Mp
namespace Mp
open PySem PySem.Spec PyProof.Rows L2
/-! ### blocks: the mathematics -/
/-- a block's bytes up to the last that isn't 0 -/
def shortN (b : List Nat) : List Nat := (b.reverse.dropWhile fun (x : Nat) => x == 0).reverse
theorem short_eq (b : List Nat) : Gv01Neutral.short b = Gv01Neutral.ints (shortN b) := rfl
theorem shortN_snoc0 (b : List Nat) : shortN (b ++ [0]) = shortN b := by
  unfold shortN
  rw [List.reverse_append]
  rfl
theorem shortN_snoc {b : List Nat} {x : Nat} (h : x ≠ 0) : shortN (b ++ [x]) = b ++ [x] := by
  unfold shortN
  rw [List.reverse_append, List.reverse_singleton, List.singleton_append, List.dropWhile_cons_of_neg (by simpa using h), List.reverse_cons, List.reverse_reverse]
theorem shortN_len (b : List Nat) : (shortN b).length ≤ b.length := by
  have h : ∀ l : List Nat, (l.dropWhile fun (x : Nat) => x == 0).length ≤ l.length := fun l => (List.dropWhile_sublist _).length_le
  unfold shortN
  rw [List.length_reverse]
  exact Nat.le_trans (h _) (by rw [List.length_reverse]; exact Nat.le_refl _)
theorem take_snoc {α : Type} {l : List α} {e : Nat} {x : α} (h : l[e]? = some x) : l.take (e + 1) = l.take e ++ [x] := by
  rw [List.take_succ, h]
  rfl
/-- a block told by its first bytes -/
theorem blockOf_len {b : List Nat} (h : b.length ≤ 1024) : (Gv.blockOf b).length = 1024 := by
  unfold Gv.blockOf
  rw [List.length_take, List.length_append, List.length_replicate]
  show min 1024 (b.length + (1024 - b.length)) = 1024
  omega
theorem blockOf_eq {b : List Nat} (h : b.length ≤ 1024) : Gv.blockOf b = b ++ List.replicate (1024 - b.length) 0 := by
  unfold Gv.blockOf
  apply List.take_of_length_le
  rw [List.length_append, List.length_replicate]
  show b.length + (1024 - b.length) ≤ 1024
  omega
theorem blockOf_nil : Gv.blockOf [] = Gv.zeroBlock := by
  rw [blockOf_eq (Nat.zero_le _)]
  rfl
theorem flat_one {α : Type} (x : α) : ∀ n, (List.replicate n [x]).flatten = List.replicate n x
  | 0 => rfl
  | n + 1 => by
    rw [List.replicate_succ, List.flatten_cons, flat_one x n]
    rfl
theorem line_le {n : Nat} (h : n ≤ 16777216) : n ≤ sizeLine := by
  rw [sizeLine_eq]
  exact h
theorem line_lt {n : Nat} (h : n < 16777216) : n < sizeLine := by
  rw [sizeLine_eq]
  exact h
theorem same_upd {H : Hp} {p : Addr} {o : HO} (h : H p = none) : Same H (upd H p o) := fun b o' e => by
  rw [upd_ne (ne_of_none e h)]
  exact e
theorem none_upd {H : Hp} {p q : Addr} {o : HO} (h : upd H p o q = none) : H q = none ∧ q ≠ p := by
  by_cases e : q = p
  · subst e
    rw [upd_same] at h
    cases h
  · rw [upd_ne e] at h
    exact ⟨h, e⟩
theorem cut_to (xs : List V) (k : Nat) : cutV xs none (some (k : Int)) = xs.take k := by
  unfold cutV
  rw [HT.sIx_nat, HT.sIx_none, List.drop_zero, Nat.sub_zero]
  by_cases h : k ≤ xs.length
  · rw [Nat.min_eq_left h]
  · rw [Nat.min_eq_right (by omega), List.take_of_length_le (Nat.le_refl _), List.take_of_length_le (by omega)]
theorem cut_from (xs : List V) (k : Nat) : cutV xs (some (k : Int)) none = xs.drop k := by
  unfold cutV
  rw [HT.sIx_nat, HT.sIx_none]
  by_cases h : k ≤ xs.length
  · rw [Nat.min_eq_left h]
    exact List.take_of_length_le (by rw [List.length_drop]; exact Nat.le_refl _)
  · rw [Nat.min_eq_right (by omega), Nat.sub_self, List.take_zero, List.drop_of_length_le (by omega)]
theorem cut_mid (xs : List V) (i j : Nat) (hi : i ≤ j) (hj : j ≤ xs.length) : cutV xs (some (i : Int)) (some (j : Int)) = (xs.drop i).take (j - i) := by
  unfold cutV
  rw [HT.sIx_nat, HT.sIx_nat, Nat.min_eq_left hj, Nat.min_eq_left (Nat.le_trans hi hj)]
theorem cut_last (xs : List V) : cutV xs none (some (-1)) = xs.dropLast := by
  unfold cutV
  rw [HT.sIx_none, List.drop_zero, Nat.sub_zero, List.dropLast_eq_take]
  congr 1
  show (if (-1 : Int) < 0 then ((-1 : Int) + (xs.length : Int)).toNat else min (-1 : Int).toNat xs.length) = xs.length - 1
  rw [if_pos (by decide)]
  omega
section
variable {P : Program} {w : World} {K : PySem.W.Frag} {mg : Str → Option Value} {base : Heap}
/-! ### is_block -/
def spIsBlock (K : PySem.W.Frag) : Sp := fun vs H Q _ => ∃ a xs, vs = [.ref a] ∧ SqL K H a xs ∧ Q (.bl (decide (xs.length ≤ 1024))) H
theorem ok_is_block (T : Txt K mg) : FnOk P w K mg base CX0 1 T.F.is_block.f T.F.is_block.fd ["told"] (spIsBlock K) := by
  refine T.F.is_block.F.ok sc_is_block (fun vs H Q E h => ?_) (fun cdv A outer s H vs Q E hr h => ⟨_, (pss_one
    (ps_ret (pe_cmpR op_le (pe_callB call_len_seq (by rfl) T.G.n_len PySem.boot_len (pa_cons (pv 0) pa_nil)) (pe_gint T.G.c_BLOCK_BYTES) (nomark _)))), ?_⟩)
  · obtain ⟨a, xs, rfl, _⟩ := h
    rfl
  · obtain ⟨a, xs, rfl, hx, q⟩ := h
    refine ⟨_, rfl, a, xs, rfl, .inl hx, _, _, rfl, rfl, ?_⟩
    have e : decide ((xs.length : Int) ≤ 1024) = decide (xs.length ≤ 1024) := by
      apply decide_eq_decide.mpr
      omega
    show Q (.bl (decide ((xs.length : Int) ≤ 1024))) H
    rw [e]
    exact q
/-! ### whole_block -/
def spWhole : Sp := fun vs H Q _ => ∃ a ns, vs = [.ref a] ∧ H a = some (.lst (nvs ns)) ∧ ns.length ≤ 1024 ∧
  ∀ H' p, H p = none → Same H H' → H' p = some (.lst (nvs (Gv.blockOf ns))) → Q (.ref p) H'
theorem ok_whole_block (T : Txt K mg) : FnOk P w K mg base CX0 1 T.F.whole_block.f T.F.whole_block.fd ["told"] (spWhole) := by
  refine T.F.whole_block.F.ok sc_whole_block (fun vs H Q E h => ?_) (fun cdv A outer s H vs Q E hr h => ⟨_, (pss_one
    (ps_ret (pe_op op_cat (pv 0) (pe_op op_rep (pe_lst (pa_cons pe_int pa_nil)) (pe_op op_sub (pe_gint T.G.c_BLOCK_BYTES) (pe_callB call_len_seq (by rfl) T.G.n_len PySem.boot_len (pa_cons (pv 0) pa_nil))))))), ?_⟩)
  · obtain ⟨a, ns, rfl, _⟩ := h
    rfl
  · obtain ⟨a, ns, rfl, ha, hl, k⟩ := h
    refine ⟨_, rfl, (by show 1 ≤ sizeLine; decide), fun l hl1 => ?_⟩
    have n1 : a ≠ l := ne_of_none ha hl1
    refine ⟨_, rfl, a, _, rfl, .inl (SqL.of (by rw [upd_ne n1]; exact ha)), 1024, _, rfl, rfl, ?_⟩
    have e1 : (1024 - ((nvs ns).length : Int)) = ((1024 - ns.length : Nat) : Int) := by
      rw [List.length_map]
      omega
    dsimp only
    rw [e1]
    refine ⟨l, _, _, rfl, rfl, upd_same, by omega, by omega, line_le (by rw [Int.toNat_natCast]; show 1 * (1024 - ns.length) ≤ _; omega), fun p hp => ?_⟩
    obtain ⟨hp1, hp2⟩ := none_upd hp
    have n2 : a ≠ p := ne_of_none ha hp1
    rw [Int.toNat_natCast, flat_one]
    refine ⟨a, p, _, _, rfl, rfl, (by rw [upd_ne n2, upd_ne n1]; exact ha), upd_same, line_le (by rw [List.length_map, List.length_replicate]; omega), fun r hr' => ?_⟩
    obtain ⟨hr1, _⟩ := none_upd hr'
    refine k _ r (none_upd hr1).1 (((same_upd hl1).trans (same_upd hp)).trans (same_upd hr')) ?_
    rw [upd_same, blockOf_eq hl]
    show _ = some (HO.lst (List.map nv (ns ++ List.replicate (1024 - ns.length) 0)))
    rw [List.map_append, List.map_replicate]
    rfl
/-! ### told_bytes -/
def spTold (K : PySem.W.Frag) : Sp := fun vs H Q _ => ∃ a ns, vs = [.ref a] ∧ H a = some (.lst (nvs ns)) ∧ ns.length ≤ 1024 ∧
  ∀ p, H p = none → Q (.ref p) (upd H p (.lst (nvs (shortN ns))))
theorem ok_told_bytes (T : Txt K mg) : FnOk P w K mg base CX0 1 T.F.told_bytes.f T.F.told_bytes.fd ["block"] (spTold K) := by
  refine T.F.told_bytes.F.ok sc_told_bytes (fun vs H Q E h => ?_) (fun cdv A outer s H vs Q E hr h => ⟨_, (pss_cons
    (ps_set (i := 1) sc_told_bytes.nd rfl (Or.inl rfl) (pe_callB call_len_seq (by rfl) T.G.n_len PySem.boot_len (pa_cons (pv 0) pa_nil)))
    (pss_cons
    (ps_while PassesOwn.never (PW.pt (pw_and (pt_cmpR op_gt (pv 1) pe_int (nomark _)) (pw_and1 (pt_cmpR op_eq (pe_ix ix_list (pv 0) (pe_op op_sub (pv 1) pe_int) (fun _ _ => rfl)) pe_int (nomark _))))) (pss_one
    (ps_aug (i := 1) sc_told_bytes.nd rfl (Or.inl rfl) pe_int ip_sub)))
    (pss_one
    (ps_ret (pe_slice sl_list (pv 0) po_none (po_some (pv 1))))))), ?_⟩)
  · obtain ⟨a, ns, rfl, _⟩ := h
    rfl
  · obtain ⟨a, ns, rfl, ha, hl, k⟩ := h
    refine ⟨_, rfl, a, _, rfl, .inl (SqL.of ha), ?_⟩
    refine ⟨fun m σ H' => H' = H ∧ σ = [some (.ref a), some (.int (m : Int))] ∧ m ≤ ns.length ∧ shortN ns = shortN (ns.take m), ⟨ns.length, rfl, ?_, Nat.le_refl _, ?_⟩, ?_⟩
    · show _ = [some (V.ref a), some (.int ((ns.length : Nat) : Int))]
      rw [← List.length_map (f := nv) (as := ns)]
      rfl
    · rw [List.take_length]
    · rintro e σ H' ⟨rfl, rfl, he, hs⟩
      refine ⟨_, rfl, _, _, rfl, rfl, _, rfl, ?_⟩
      by_cases h0 : e = 0
      · subst h0
        refine if_f (by decide) (if_f rfl ?_)
        refine ⟨_, rfl, _, rfl, _, rfl, a, _, rfl, SqL.of ha, fun p hp => ?_⟩
        have e1 : cutV (nvs ns) none (some ((0 : Nat) : Int)) = nvs (shortN ns) := by
          rw [hs]
          unfold cutV
          rw [HT.sIx_nat, Nat.zero_min]
          rfl
        rw [e1]
        exact k p hp
      · obtain ⟨d, rfl⟩ : ∃ d, e = d + 1 := ⟨e - 1, by omega⟩
        refine if_t (by rw [decide_eq_true_eq]; omega) ?_
        have hd : d < ns.length := by omega
        have hg : ns[d]? = some ns[d] := List.getElem?_eq_getElem hd
        have e2 : (((d + 1 : Nat) : Int) - 1) = ((d : Nat) : Int) := by omega
        refine ⟨_, rfl, _, rfl, _, _, rfl, rfl, ?_⟩
        refine ⟨a, _, _, nv ns[d], rfl, rfl, SqL.of ha, ?_, rfl, _, rfl, ?_⟩
        · show atI (nvs ns) (((d + 1 : Nat) : Int) - 1) = _
          rw [e2]
          exact atI_nat (by rw [nvs, List.getElem?_map, hg]; rfl)
        by_cases hz : ns[d] = 0
        · refine if_t (by rw [hz]; rfl) ⟨fun σ' H'' => H'' = H' ∧ σ' = [some (.ref a), some (.int (d : Int))], fun σ' H'' ⟨q1, q2⟩ => ⟨d, Nat.lt_succ_self d, q1, q2, by omega, ?_⟩, ?_⟩
          · rw [hs, take_snoc hg, hz, shortN_snoc0]
          · refine ⟨_, rfl, _, _, rfl, rfl, rfl, ?_⟩
            show [some (V.ref a), some (.int (((d + 1 : Nat) : Int) - 1))] = _
            rw [e2]
        · refine if_f (by rw [decide_eq_false_iff_not]; intro q; apply hz; have := V.int.inj q; omega) ?_
          refine ⟨_, rfl, _, rfl, _, rfl, a, _, rfl, SqL.of ha, fun p hp => ?_⟩
          have e1 : cutV (nvs ns) none (some ((d + 1 : Nat) : Int)) = nvs (shortN ns) := by
            rw [hs, take_snoc hg, shortN_snoc hz, ← take_snoc hg]
            rw [cut_to]
            exact List.map_take.symm
          rw [e1]
          exact k p hp
end
end Mp
namespace Mp
open PySem PySem.Spec PyProof.Rows L2
open Gv (Bytes Dev zeroBlock isBlock)
/-! ### a device on the heap -/
structure Gh where
  a : Addr
  s : Addr
  c : Addr
  k : Addr
def Gh.mut (g : Gh) (q : Addr) : Prop := q = g.a ∨ q = g.s ∨ q = g.c ∨ q = g.k
/-- the caller's own: tracked, and none of the line's -/
def Priv (H : Hp) (S : Addr → Prop) : Prop := ∀ q, S q → H q ≠ none
def dF (size : Nat) (s c k : Addr) (gone : Bool) : List (Str × V) := [("size", nv size), ("sure", .ref s), ("coming", .ref c), ("sick", .ref k), ("gone", .bl gone)]
theorem look_no {m : Str} : ∀ {l : List (Str × V)}, (l.map (·.1)).contains m = false → l.lookup m = none
  | [], _ => rfl
  | (g, v) :: r, h => by
    rw [List.map_cons, List.contains_cons, Bool.or_eq_false_iff] at h
    rw [lk_past h.1]
    exact look_no h.2
section
variable {size : Nat} {s c k : Addr} {gone : Bool}
theorem dF_no {m : Str} (h : (["size", "sure", "coming", "sick", "gone"] : List Str).contains m = false := by decide +kernel) : (dF size s c k gone).lookup m = none := look_no h
theorem dF_size : List.lookup ("size" : Str) (dF size s c k gone) = some (nv size) := lk_here
theorem dF_sure : List.lookup ("sure" : Str) (dF size s c k gone) = some (.ref s) := (lk_past (by decide +kernel)).trans lk_here
theorem dF_coming : List.lookup ("coming" : Str) (dF size s c k gone) = some (.ref c) := (lk_past (by decide +kernel)).trans ((lk_past (by decide +kernel)).trans lk_here)
theorem dF_sick : List.lookup ("sick" : Str) (dF size s c k gone) = some (.ref k) := (lk_past (by decide +kernel)).trans ((lk_past (by decide +kernel)).trans ((lk_past (by decide +kernel)).trans lk_here))
theorem dF_gone : List.lookup ("gone" : Str) (dF size s c k gone) = some (.bl gone) := (lk_past (by decide +kernel)).trans ((lk_past (by decide +kernel)).trans ((lk_past (by decide +kernel)).trans ((lk_past (by decide +kernel)).trans lk_here)))
theorem dF_putc {c' : Addr} : putF "coming" (.ref c') (dF size s c k gone) = dF size s c' k gone := (put_past (by decide +kernel)).trans (congrArg _ ((put_past (by decide +kernel)).trans (congrArg _ put_here)))
theorem dF_putg {b : Bool} : putF "gone" (.bl b) (dF size s c k gone) = dF size s c k b := (put_past (by decide +kernel)).trans (congrArg _ ((put_past (by decide +kernel)).trans (congrArg _ ((put_past (by decide +kernel)).trans (congrArg _ ((put_past (by decide +kernel)).trans (congrArg _ put_here)))))))
end
structure BlkAt (H : Hp) (b : Addr) (bs : Bytes) : Prop where
  at_ : H b = some (.lst (nvs bs))
  ok : isBlock bs = true
theorem BlkAt.len {H : Hp} {b : Addr} {bs : Bytes} (h : BlkAt H b bs) : bs.length = 1024 := by
  have q := h.ok
  unfold isBlock at q
  rw [Bool.and_eq_true] at q
  exact eq_of_beq q.1
theorem zero_ok : isBlock zeroBlock = true := by
  unfold isBlock zeroBlock
  rw [List.length_replicate, Bool.and_eq_true]
  refine ⟨rfl, ?_⟩
  rw [List.all_eq_true]
  intro x hx
  rw [List.eq_of_mem_replicate hx]
  rfl
/-- a block is no list of objects -/
theorem blk_ne {H : Hp} {b c : Addr} {bs : Bytes} {cs : List Addr} (h : BlkAt H b bs) (hc : H c = some (.lst (cs.map V.ref))) : b ≠ c := by
  refine ne_of h.at_ hc fun e => ?_
  have l := h.len
  have e1 : nvs bs = cs.map V.ref := HO.lst.inj e
  match bs, cs, l, e1 with
  | [], _, l, _ => simp at l
  | x :: r, [], _, e1 => simp at e1
  | x :: r, y :: z, _, e1 =>
    have e1 : nv x :: nvs r = V.ref y :: z.map V.ref := e1
    cases (List.cons.inj e1).1
def SureAt (H : Hp) (S : Addr → Prop) (o : Option V) (bs : Bytes) : Prop := (∃ b, o = some (.ref b) ∧ BlkAt H b bs ∧ ¬ S b) ∨ (o = none ∧ bs = zeroBlock)
def WayAt (H : Hp) (S : Addr → Prop) (size : Nat) (t : Addr) (x : Nat × Bytes) : Prop := ∃ b, H t = some (.tup [nv x.1, .ref b]) ∧ BlkAt H b x.2 ∧ ¬ S t ∧ ¬ S b ∧ x.1 < size
structure DevIn (C : Addr) (H : Hp) (S : Addr → Prop) (N : Nat) (g : Gh) (d : Dev) (dx : Addr) (kvs : List (Key × V)) (cs : List Addr) (sk : List (Key × V)) : Prop where
  obj : H g.a = some (.ins C dx (dF d.blocks.length g.s g.c g.k d.gone))
  sure : H g.s = some (.dK kvs)
  way : H g.c = some (.lst (cs.map V.ref))
  sick : H g.k = some (.dK sk)
  ne : g.s ≠ g.k
  av : ∀ q, g.mut q → ¬ S q
  sureOk : ∀ n, n < d.blocks.length → SureAt H S (valV kvs (.inl (n : Int))) (d.blocks.getD n zeroBlock)
  wayOk : Paired (WayAt H S d.blocks.length) cs d.way
  sickOk : ∀ n : Nat, (valV sk (.inl (n : Int))).isSome = d.sick.contains n
  szs : kvs.length + d.way.length ≤ N
  szk : sk.length ≤ N
def DevAt (C : Addr) (H : Hp) (S : Addr → Prop) (N : Nat) (g : Gh) (d : Dev) : Prop := ∃ dx kvs cs sk, DevIn C H S N g d dx kvs cs sk
/-- what an operation on a device may change -/
structure Step (H H' : Hp) (g g' : Gh) : Prop where
  keep : ∀ q o, H q = some o → ¬ g.mut q → H' q = some o
  a : g'.a = g.a
  s : g'.s = g.s
  k : g'.k = g.k
  c : g'.c = g.c ∨ H g'.c = none
theorem BlkAt.mono {H H' : Hp} {b : Addr} {bs : Bytes} (h : BlkAt H b bs) (k : ∀ o, H b = some o → H' b = some o) : BlkAt H' b bs := ⟨k _ h.at_, h.ok⟩
theorem SureAt.mono {H H' : Hp} {S : Addr → Prop} {o : Option V} {bs : Bytes} (h : SureAt H S o bs) (k : ∀ b bs, BlkAt H b bs → BlkAt H' b bs) : SureAt H' S o bs := by
  rcases h with ⟨b, e, hb, hs⟩ | h
  · exact .inl ⟨b, e, k b bs hb, hs⟩
  · exact .inr h
theorem WayAt.mono {H H' : Hp} {S : Addr → Prop} {n : Nat} {t : Addr} {x : Nat × Bytes} (h : WayAt H S n t x) (k : ∀ b bs, BlkAt H b bs → BlkAt H' b bs) (kt : ∀ t xs, H t = some (.tup xs) → H' t = some (.tup xs)) : WayAt H' S n t x := by
  obtain ⟨b, e, hb, h1, h2, h3⟩ := h
  exact ⟨b, kt _ _ e, k _ _ hb, h1, h2, h3⟩
theorem paired_imp {α β : Type} {R R' : α → β → Prop} (h : ∀ a b, R a b → R' a b) : ∀ {l : List α} {m : List β}, Paired R l m → Paired R' l m
  | _, _, .nil => .nil
  | _, _, .cons x r => .cons (h _ _ x) (paired_imp h r)
/-- the device's objects stand: the device stands -/
theorem DevIn.mono {C : Addr} {H H' : Hp} {S : Addr → Prop} {N : Nat} {g : Gh} {d : Dev} {dx : Addr} {kvs sk : List (Key × V)} {cs : List Addr} (h : DevIn C H S N g d dx kvs cs sk) (km : ∀ q, g.mut q → ∀ o, H q = some o → H' q = some o)
    (k : ∀ b bs, BlkAt H b bs → BlkAt H' b bs) (kt : ∀ t xs, H t = some (.tup xs) → H' t = some (.tup xs)) : DevIn C H' S N g d dx kvs cs sk :=
  { h with
    obj := km _ (.inl rfl) _ h.obj
    sure := km _ (.inr (.inl rfl)) _ h.sure
    way := km _ (.inr (.inr (.inl rfl))) _ h.way
    sick := km _ (.inr (.inr (.inr rfl))) _ h.sick
    sureOk := fun n hn => (h.sureOk n hn).mono k
    wayOk := paired_imp (fun a b q => q.mono k kt) h.wayOk }
theorem DevIn.same {C : Addr} {H H' : Hp} {S : Addr → Prop} {N : Nat} {g : Gh} {d : Dev} {dx : Addr} {kvs sk : List (Key × V)} {cs : List Addr} (h : DevIn C H S N g d dx kvs cs sk) (k : Same H H') : DevIn C H' S N g d dx kvs cs sk :=
  h.mono (fun q _ o => k q o) (fun b bs q => q.mono (k b)) (fun t xs => k t _)
theorem DevIn.more {C : Addr} {H : Hp} {S : Addr → Prop} {N M : Nat} {g : Gh} {d : Dev} {dx : Addr} {kvs sk : List (Key × V)} {cs : List Addr} (h : DevIn C H S N g d dx kvs cs sk) (l : N ≤ M) : DevIn C H S M g d dx kvs cs sk :=
  { h with szs := Nat.le_trans h.szs l, szk := Nat.le_trans h.szk l }
theorem Priv.same {H H' : Hp} {S : Addr → Prop} (p : Priv H S) (k : Same H H') : Priv H' S := fun q hq e => p q hq (by
  cases z : H q with
  | none => rfl
  | some o => rw [k q o z] at e; cases e)
theorem Priv.new {H : Hp} {S : Addr → Prop} (p : Priv H S) {q : Addr} (h : H q = none) : ¬ S q := fun z => p q z h
section
variable {P : Program} {w : World} {K : PySem.W.Frag} {mg : Str → Option Value} {base : Heap}
/-! ### __init__ -/
def spDevInit (C : Addr) : Sp := fun vs H Q _ => ∃ (p dx : Addr) (n : Nat), vs = [.ref p, nv n] ∧ H p = some (.ins C dx []) ∧
  ∀ H' s c k, H s = none → H c = none → H k = none → s ≠ k → H' p = some (.ins C dx (dF n s c k false)) → H' s = some (.dK []) → H' c = some (.lst []) → H' k = some (.dK []) →
    (∀ q o, H q = some o → q ≠ p → H' q = some o) → Q .non H'
theorem ok_Device_init (T : Txt K mg) : FnOk P w K mg base CX0 1 T.De.init.f T.De.init.fd ["self", "size"] (spDevInit T.De.C) := by
  refine T.De.init.F.ok sc_Device_init (fun vs H Q E h => ?_) (fun cdv A outer s H vs Q E hr h => ⟨_, (pss_cons
    (ps_fld (pv 0) (pv 1) rfl)
    (pss_cons
    (ps_fld (pv 0) pe_dnewK rfl)
    (pss_cons
    (ps_fld (pv 0) (pe_lst pa_nil) rfl)
    (pss_cons
    (ps_fld (pv 0) pe_dnewK rfl)
    (pss_one
    (ps_fld (pv 0) pe_bl rfl)))))), ?_⟩)
  · obtain ⟨p, dx, n, rfl, _⟩ := h
    rfl
  · obtain ⟨p, dx, n, rfl, hp, k⟩ := h
    refine ⟨_, rfl, _, rfl, p, T.De.C, dx, [], rfl, hp, T.De.cl, T.De.n_size, (by show 0 < 1000; decide), ?_⟩
    intro s hs
    refine ⟨_, rfl, p, T.De.C, dx, _, rfl, (by rw [upd_ne (by grind [upd])]; exact upd_same), T.De.cl, T.De.n_sure, (by show 1 < 1000; decide), ?_⟩
    refine ⟨Nat.zero_le _, fun c hc => ?_⟩
    refine ⟨_, rfl, p, T.De.C, dx, _, rfl, (by rw [upd_ne (by grind [upd])]; exact upd_same), T.De.cl, T.De.n_coming, (by show 2 < 1000; decide), ?_⟩
    intro kk hk
    refine ⟨_, rfl, p, T.De.C, dx, _, rfl, (by rw [upd_ne (by grind [upd])]; exact upd_same), T.De.cl, T.De.n_sick, (by show 3 < 1000; decide), ?_⟩
    refine ⟨_, rfl, p, T.De.C, dx, _, rfl, upd_same, T.De.cl, T.De.n_gone, (by show 4 < 1000; decide), ?_⟩
    have e : putF "gone" (.bl false) (putF "sick" (.ref kk) (putF "coming" (.ref c) (putF "sure" (.ref s) (putF "size" (nv n) [])))) = dF n s c kk false := rfl
    refine k _ s c kk (by grind [upd]) (by grind [upd]) (by grind [upd]) (by grind [upd]) ?_ (by grind [upd]) (by grind [upd]) (by grind [upd]) (by grind [upd])
    rw [upd_same]
    exact congrArg (fun q => some (HO.ins T.De.C dx q)) e
end
end Mp
namespace Mp
open PySem PySem.Spec PyProof.Rows L2
open Gv (Bytes Dev zeroBlock isBlock)
/-! ### what is apart in a device -/
section
variable {C : Addr} {H H' : Hp} {S : Addr → Prop} {N : Nat} {g g' g2 : Gh} {d : Dev} {dx : Addr} {kvs sk : List (Key × V)} {cs : List Addr}
theorem DevIn.ac (h : DevIn C H S N g d dx kvs cs sk) : g.a ≠ g.c := ne_of h.obj h.way (by intro z; cases z)
theorem DevIn.as_ (h : DevIn C H S N g d dx kvs cs sk) : g.a ≠ g.s := ne_of h.obj h.sure (by intro z; cases z)
theorem DevIn.ak (h : DevIn C H S N g d dx kvs cs sk) : g.a ≠ g.k := ne_of h.obj h.sick (by intro z; cases z)
theorem DevIn.sc (h : DevIn C H S N g d dx kvs cs sk) : g.s ≠ g.c := ne_of h.sure h.way (by intro z; cases z)
theorem DevIn.kc (h : DevIn C H S N g d dx kvs cs sk) : g.k ≠ g.c := ne_of h.sick h.way (by intro z; cases z)
theorem DevIn.blk (h : DevIn C H S N g d dx kvs cs sk) {b : Addr} {bs : Bytes} (q : BlkAt H b bs) : ¬ g.mut b := by
  rintro (e | e | e | e)
  · exact ne_of q.at_ h.obj (by intro z; cases z) e
  · exact ne_of q.at_ h.sure (by intro z; cases z) e
  · exact blk_ne q h.way e
  · exact ne_of q.at_ h.sick (by intro z; cases z) e
theorem DevIn.tup (h : DevIn C H S N g d dx kvs cs sk) {b : Addr} {xs : List V} (q : H b = some (.tup xs)) : ¬ g.mut b := by
  rintro (e | e | e | e)
  · exact ne_of q h.obj (by intro z; cases z) e
  · exact ne_of q h.sure (by intro z; cases z) e
  · exact ne_of q h.way (by intro z; cases z) e
  · exact ne_of q h.sick (by intro z; cases z) e
end
theorem BlkAt.upd {H : Hp} {b q : Addr} {bs : Bytes} {o : HO} (h : BlkAt H b bs) (n : b ≠ q) : BlkAt (upd H q o) b bs := ⟨by rw [upd_ne n]; exact h.at_, h.ok⟩
structure Moves (H H' : Hp) (g g' : Gh) : Prop extends Step H H' g g' where
  dom : ∀ q, H q ≠ none → H' q ≠ none
theorem Moves.refl (H : Hp) (g : Gh) : Moves H H g g := { keep := fun _ _ e _ => e, a := rfl, s := rfl, k := rfl, c := .inl rfl, dom := fun _ e => e }
theorem dom_none {H H' : Hp} (h : ∀ q, H q ≠ none → H' q ≠ none) {q : Addr} (e : H' q = none) : H q = none := by
  cases z : H q with
  | none => rfl
  | some o => exact absurd e (h q (by rw [z]; simp))
theorem dom_upd {H : Hp} {p : Addr} {o : HO} : ∀ q, H q ≠ none → upd H p o q ≠ none := fun q h => by
  unfold upd
  split
  · simp
  · exact h
theorem dom_same {H H' : Hp} (k : Same H H') : ∀ q, H q ≠ none → H' q ≠ none := fun q h => by
  cases z : H q with
  | none => exact absurd z h
  | some o => rw [k q o z]; simp
theorem Moves.of_same {H H' : Hp} {g : Gh} (k : Same H H') : Moves H H' g g := { keep := fun q o e _ => k q o e, a := rfl, s := rfl, k := rfl, c := .inl rfl, dom := dom_same k }
theorem Moves.trans {H H1 H2 : Hp} {g g1 g2 : Gh} (x : Moves H H1 g g1) (y : Moves H1 H2 g1 g2) : Moves H H2 g g2 where
  keep := fun q o e n => y.keep q o (x.keep q o e n) (by
    rintro (z | z | z | z)
    · exact n (.inl (z.trans x.a))
    · exact n (.inr (.inl (z.trans x.s)))
    · rcases x.c with w | w
      · exact n (.inr (.inr (.inl (z.trans w))))
      · rw [z, w] at e
        cases e
    · exact n (.inr (.inr (.inr (z.trans x.k)))))
  a := y.a.trans x.a
  s := y.s.trans x.s
  k := y.k.trans x.k
  c := by
    rcases y.c with z | z
    · rcases x.c with w | w
      · exact .inl (z.trans w)
      · exact .inr (by rw [z]; exact w)
    · exact .inr (dom_none x.dom z)
  dom := fun q e => y.dom q (x.dom q e)
/-- one of the device's own objects is stored to -/
theorem Moves.store {H : Hp} {g : Gh} {p : Addr} {o : HO} (m : g.mut p) : Moves H (upd H p o) g g :=
  { keep := fun q u e n => by rw [upd_ne (fun z => n (by rw [z]; exact m))]; exact e, a := rfl, s := rfl, k := rfl, c := .inl rfl, dom := dom_upd }
section
variable {P : Program} {w : World} {K : PySem.W.Frag} {mg : Str → Option Value} {base : Heap}
/-! ### has_block, sure_block -/
def spHasBlock (C : Addr) : Sp := fun vs H Q _ => ∃ a dx size s c kk gone, ∃ k : Nat, vs = [.ref a, nv k] ∧ H a = some (.ins C dx (dF size s c kk gone)) ∧ Q (.bl (decide (k < size))) H
theorem ok_Device_has_block (T : Txt K mg) : FnOk P w K mg base CX0 1 T.De.has_block.f T.De.has_block.fd ["self", "k"] (spHasBlock T.De.C) := by
  refine T.De.has_block.F.ok sc_Device_has_block (fun vs H Q E h => ?_) (fun cdv A outer s H vs Q E hr h => ⟨_, (pss_one
    (ps_ret (pe_cmpR op_lt (pv 1) (pe_fld (pv 0) rfl) (nomark _)))), ?_⟩)
  · obtain ⟨a, dx, size, s, c, kk, gone, k, rfl, _⟩ := h
    rfl
  · obtain ⟨a, dx, size, s, c, kk, gone, k, rfl, ha, q⟩ := h
    refine ⟨_, rfl, _, rfl, a, T.De.C, dx, _, _, rfl, ha, T.De.cl, T.De.n_size, dF_size, _, _, rfl, rfl, ?_⟩
    show Q (.bl (decide ((k : Int) < (size : Int)))) H
    have e : decide ((k : Int) < (size : Int)) = decide (k < size) := decide_eq_decide.mpr (by omega)
    rw [e]
    exact q
def spSureBlock (C : Addr) : Sp := fun vs H Q _ => ∃ S N g d dx kvs cs sk, ∃ k : Nat, vs = [.ref g.a, nv k] ∧ DevIn C H S N g d dx kvs cs sk ∧ Priv H S ∧ k < d.blocks.length ∧
  ∀ H' b, Same H H' → BlkAt H' b (d.blocks.getD k zeroBlock) → ¬ S b → Q (.ref b) H'
theorem ok_Device_sure_block (T : Txt K mg) : FnOk P w K mg base CX0 2 T.De.sure_block.f T.De.sure_block.fd ["self", "k"] (spSureBlock T.De.C) := by
  refine T.De.sure_block.F.ok sc_Device_sure_block (fun vs H Q E h => ?_) (fun cdv A outer s H vs Q E hr h => ⟨_, (pss_cons
    (ps_if (pt_cmp (pc_din (hu_of hr) (pv 1) (pe_fld (pv 0) rfl))) (pss_one
    (ps_ret (pe_dget (hu_of hr) (pe_fld (pv 0) rfl) (pv 1) (fun _ _ => rfl)))) pss_nil)
    (pss_one
    (ps_ret (pe_call (ok_whole_block T) (hr.mono (by decide)) rfl T.F.g_whole_block T.F.whole_block.F.kp T.F.whole_block.b .nil pass0 (pa_cons (pe_lst pa_nil) pa_nil))))), ?_⟩)
  · obtain ⟨S, N, g, d, dx, kvs, cs, sk, k, rfl, _⟩ := h
    rfl
  · obtain ⟨S, N, g, d, dx, kvs, cs, sk, k, rfl, D, pr, hk, q⟩ := h
    refine ⟨_, rfl, _, rfl, g.a, T.De.C, dx, _, _, rfl, D.obj, T.De.cl, T.De.n_sure, dF_sure, g.s, _, rfl, DGet.k (k := Sum.inl (k : Int)) D.sure, _, rfl, ?_⟩
    rcases D.sureOk k hk with ⟨b, e, hb, hs⟩ | ⟨e, hz⟩
    · refine if_t (by rw [e]; rfl) ?_
      refine ⟨_, rfl, g.a, T.De.C, dx, _, _, rfl, D.obj, T.De.cl, T.De.n_sure, dF_sure, _, rfl, g.s, .ref b, rfl, e ▸ DGet.k (k := Sum.inl (k : Int)) D.sure, ?_⟩
      exact q H b (Same.refl H) hb hs
    · refine if_f (by rw [e]; rfl) ?_
      refine ⟨Nat.zero_le _, fun l hl => ?_⟩
      refine ⟨l, [], rfl, upd_same, Nat.zero_le _, fun H' p hp sm hh => ?_⟩
      rw [hz] at q
      exact q H' p ((same_upd hl).trans sm) ⟨by rw [← blockOf_nil]; exact hh, zero_ok⟩ (pr.new (none_upd hp).1)
/-! ### block_now -/
theorem way_get {C : Addr} {H : Hp} {S : Addr → Prop} {N : Nat} {g : Gh} {d : Dev} {dx : Addr} {kvs sk : List (Key × V)} {cs : List Addr} (D : DevIn C H S N g d dx kvs cs sk) {i : Nat} {y : V} (h : (cs.map V.ref)[i]? = some y) :
    ∃ t x, y = .ref t ∧ cs[i]? = some t ∧ d.way[i]? = some x ∧ WayAt H S d.blocks.length t x := by
  rw [List.getElem?_map] at h
  cases e : cs[i]? with
  | none => rw [e] at h; cases h
  | some t =>
    rw [e] at h
    obtain ⟨x, hx, r⟩ := paired_get D.wayOk e
    exact ⟨t, x, (Option.some.inj h).symm, rfl, hx, r⟩
theorem find_snoc (k : Nat) (l : List (Nat × Bytes)) (x : Nat × Bytes) : (l ++ [x]).reverse.find? (fun x => x.1 == k) = if x.1 = k then some x else l.reverse.find? (fun x => x.1 == k) := by
  rw [List.reverse_append, List.reverse_singleton, List.singleton_append, List.find?_cons]
  by_cases h : x.1 = k
  · rw [if_pos h]
    have : (x.1 == k) = true := by rw [h]; exact beq_self_eq_true k
    rw [this]
  · rw [if_neg h]
    have : (x.1 == k) = false := beq_eq_false_iff_ne.mpr h
    rw [this]
def spBlockNow (C : Addr) : Sp := fun vs H Q _ => ∃ S N g d dx kvs cs sk, ∃ k : Nat, vs = [.ref g.a, nv k] ∧ DevIn C H S N g d dx kvs cs sk ∧ Priv H S ∧ k < d.blocks.length ∧
  ∀ H' b, Same H H' → BlkAt H' b (d.now k) → ¬ S b → Q (.ref b) H'
theorem ok_Device_block_now (T : Txt K mg) : FnOk P w K mg base CX0 3 T.De.block_now.f T.De.block_now.fd ["self", "k"] (spBlockNow T.De.C) := by
  refine T.De.block_now.F.ok sc_Device_block_now (fun vs H Q E h => ?_) (fun cdv A outer s H vs Q E hr h => ⟨_, (pss_cons
    (ps_for PassesOwn.never rfl (pi_reversed (by rfl) T.G.n_reversed (pa_cons (pe_fld (pv 0) rfl) pa_nil)) (pg_name (i := 2) sc_Device_block_now.nd rfl (Or.inl rfl)) (pss_one
    (ps_if (pt_cmpR op_eq (pe_ix ix_tup (pv 2) pe_int (fun _ _ => rfl)) (pv 1) (nomark _)) (pss_one
    (ps_ret (pe_ix ix_tup (pv 2) pe_int (fun _ _ => rfl)))) pss_nil)))
    (pss_one
    (ps_ret (pe_meth (pv 0) T.De.cl T.De.m_sure_block (ok_Device_sure_block T) (hr.mono (by decide)) T.De.sure_block.b .nil pass0 (pa_cons (pv 1) pa_nil))))), ?_⟩)
  · obtain ⟨S, N, g, d, dx, kvs, cs, sk, k, rfl, _⟩ := h
    rfl
  · obtain ⟨S, N, g, d, dx, kvs, cs, sk, k, rfl, D, pr, hk, q⟩ := h
    have hl : cs.length = d.way.length := D.wayOk.length
    refine ⟨_, rfl, g.a, T.De.C, dx, _, _, rfl, D.obj, T.De.cl, T.De.n_coming, dF_coming, g.c, _, rfl, SqL.of D.way, ?_⟩
    refine for_it walk_rev (fun i σ H' => H' = H ∧ (∃ v, σ = [some (.ref g.a), some (nv k), v]) ∧ d.way.reverse.find? (fun x => x.1 == k) = (d.way.take (d.way.length - i)).reverse.find? (fun x => x.1 == k))
      ⟨rfl, ⟨none, rfl⟩, by rw [Nat.sub_zero, List.take_length]⟩ (fun i σ H' _ ⟨e, _⟩ => by rw [e]; exact SqL.of D.way) ?_ ?_
    · rintro i y σ H' H'' hi ⟨rfl, ⟨v, rfl⟩, hf⟩ ⟨rfl, hy⟩
      rw [List.length_map, hl] at hi hy
      obtain ⟨t, x, rfl, ht, hx, b, e1, hb, s1, s2, s3⟩ := way_get D hy
      have ex : d.way.take (d.way.length - i) = d.way.take (d.way.length - (i + 1)) ++ [x] := by
        have : d.way.length - i = d.way.length - 1 - i + 1 := by omega
        rw [this, take_snoc hx]
        congr 2
        omega
      rw [ex, find_snoc] at hf
      refine ⟨_, rfl, t, _, _, nv x.1, rfl, rfl, SqT.of e1, atI_nat (j := 0) rfl, _, rfl, rfl, _, rfl, ?_⟩
      by_cases hz : x.1 = k
      · refine if_t (by rw [hz]; exact decide_eq_true rfl) ?_
        refine ⟨_, rfl, t, _, _, .ref b, rfl, rfl, SqT.of e1, atI_nat (j := 1) rfl, ?_⟩
        rw [if_pos hz] at hf
        refine q _ b (Same.refl _) ?_ s2
        unfold Dev.now
        rw [hf]
        exact hb
      · refine if_f (decide_eq_false fun z => hz (by have := V.int.inj z; omega)) ?_
        rw [if_neg hz] at hf
        exact ⟨rfl, ⟨_, rfl⟩, hf⟩
    · rintro σ H' ⟨rfl, ⟨v, rfl⟩, hf⟩
      rw [List.length_map, hl, Nat.sub_self, List.take_zero] at hf
      refine ⟨_, rfl, g.a, dx, _, rfl, D.obj, dF_no, _, rfl, ?_⟩
      refine ⟨S, N, g, d, dx, kvs, cs, sk, k, rfl, D, pr, hk, fun H' b sm hb hs => q H' b sm ?_ hs⟩
      unfold Dev.now
      rw [hf]
      exact hb
/-! ### read -/
def spDevRead (C : Addr) : Sp := fun vs H Q _ => ∃ S N g d dx kvs cs sk, ∃ k : Nat, vs = [.ref g.a, nv k] ∧ DevIn C H S N g d dx kvs cs sk ∧ Priv H S ∧
  (d.blocks.length ≤ k ∨ d.sick.contains k = true → Q .non H) ∧ (¬ (d.blocks.length ≤ k ∨ d.sick.contains k = true) → ∀ H' b, Same H H' → BlkAt H' b (d.now k) → ¬ S b → Q (.ref b) H')
theorem ok_Device_read (T : Txt K mg) : FnOk P w K mg base CX0 4 T.De.read.f T.De.read.fd ["self", "k"] (spDevRead T.De.C) := by
  refine T.De.read.F.ok sc_Device_read (fun vs H Q E h => ?_) (fun cdv A outer s H vs Q E hr h => ⟨_, (pss_cons
    (ps_if (PW.pt (pw_or (pt_not (pt_val (pe_meth (pv 0) T.De.cl T.De.m_has_block (ok_Device_has_block T) (hr.mono (by decide)) T.De.has_block.b .nil pass0 (pa_cons (pv 1) pa_nil)))) (pw_or1 (pt_cmp (pc_din (hu_of hr) (pv 1) (pe_fld (pv 0) rfl)))))) (pss_one
    (ps_ret pe_non)) pss_nil)
    (pss_one
    (ps_ret (pe_meth (pv 0) T.De.cl T.De.m_block_now (ok_Device_block_now T) (hr.mono (by decide)) T.De.block_now.b .nil pass0 (pa_cons (pv 1) pa_nil))))), ?_⟩)
  · obtain ⟨S, N, g, d, dx, kvs, cs, sk, k, rfl, _⟩ := h
    rfl
  · obtain ⟨S, N, g, d, dx, kvs, cs, sk, k, rfl, D, pr, q1, q2⟩ := h
    refine ⟨_, rfl, g.a, dx, _, rfl, D.obj, dF_no, _, rfl, ?_⟩
    refine ⟨g.a, dx, _, _, _, _, _, k, rfl, D.obj, _, rfl, ?_⟩
    by_cases hk : k < d.blocks.length
    · refine if_f (by rw [decide_eq_true hk]; rfl) ?_
      refine ⟨_, rfl, _, rfl, g.a, T.De.C, dx, _, _, rfl, D.obj, T.De.cl, T.De.n_sick, dF_sick, g.k, _, rfl, DGet.k (k := Sum.inl (k : Int)) D.sick, _, rfl, ?_⟩
      rw [D.sickOk k]
      by_cases hs : d.sick.contains k = true
      · exact if_t hs (q1 (.inr hs))
      · refine if_f (by simpa using hs) ?_
        refine ⟨_, rfl, g.a, dx, _, rfl, D.obj, dF_no, _, rfl, ?_⟩
        exact ⟨S, N, g, d, dx, kvs, cs, sk, k, rfl, D, pr, hk, q2 (by rintro (z | z); omega; exact hs z)⟩
    · refine if_t (by rw [decide_eq_false hk]; rfl) ?_
      exact if_t rfl (q1 (.inl (by omega)))
end
end Mp
namespace Mp
open PySem PySem.Spec PyProof.Rows L2
open Gv (Bytes Dev zeroBlock isBlock)
theorem valV_drop {κ : Type} [DecidableEq κ] (kvs : List (κ × V)) (k j : κ) : valV (dropK kvs k) j = if j = k then none else valV kvs j := by
  induction kvs with
  | nil => simp [dropK, valV]
  | cons p r ih =>
    by_cases h : p.1 = k
    · rw [dropK_pos h, ih]
      by_cases e : j = k
      · rw [if_pos e, if_pos e]
      · rw [if_neg e, if_neg e, valV_neg (fun z => e (z.symm.trans h))]
    · rw [dropK_neg h]
      by_cases e : p.1 = j
      · rw [valV_pos e, valV_pos e, if_neg (fun z => h (e.trans z))]
      · rw [valV_neg e, valV_neg e, ih]
theorem inl_inj {a b : Nat} (h : (Sum.inl (a : Int) : Key) = Sum.inl (b : Int)) : a = b := by
  have := Sum.inl.inj h
  omega
section
variable {C : Addr} {H H' : Hp} {S : Addr → Prop} {N M : Nat} {g : Gh} {d : Dev} {dx : Addr} {kvs kvs' sk sk' : List (Key × V)} {cs cs' : List Addr}
theorem DevIn.keepB (D : DevIn C H S N g d dx kvs cs sk) {p : Addr} {o : HO} (m : g.mut p) {b : Addr} {bs : Bytes} (h : BlkAt H b bs) : BlkAt (upd H p o) b bs := h.upd fun e => D.blk h (by rw [e]; exact m)
theorem DevIn.keepT (D : DevIn C H S N g d dx kvs cs sk) {p : Addr} {o : HO} (m : g.mut p) {t : Addr} {xs : List V} (h : H t = some (.tup xs)) : upd H p o t = some (.tup xs) := by
  rw [upd_ne fun e => D.tup h (by rw [e]; exact m)]
  exact h
theorem mutA (g : Gh) : g.mut g.a := .inl rfl
theorem mutS (g : Gh) : g.mut g.s := .inr (.inl rfl)
theorem mutC (g : Gh) : g.mut g.c := .inr (.inr (.inl rfl))
theorem mutK (g : Gh) : g.mut g.k := .inr (.inr (.inr rfl))
theorem DevIn.setWay (D : DevIn C H S N g d dx kvs cs sk) {way' : List (Nat × Bytes)} (w : Paired (WayAt H S d.blocks.length) cs' way') (z : kvs.length + way'.length ≤ M) (l : N ≤ M) :
    DevIn C (upd H g.c (.lst (cs'.map V.ref))) S M g { d with way := way' } dx kvs cs' sk where
  obj := by rw [upd_ne D.ac]; exact D.obj
  sure := by rw [upd_ne D.sc]; exact D.sure
  way := upd_same
  sick := by rw [upd_ne D.kc]; exact D.sick
  ne := D.ne
  av := D.av
  sureOk := fun n hn => (D.sureOk n hn).mono fun b bs => D.keepB (mutC g)
  wayOk := paired_imp (fun a b q => q.mono (fun b bs => D.keepB (mutC g)) fun t xs => D.keepT (mutC g)) w
  sickOk := D.sickOk
  szs := z
  szk := Nat.le_trans D.szk l
theorem DevIn.setSick (D : DevIn C H S N g d dx kvs cs sk) {sick' : List Nat} (w : ∀ n : Nat, (valV sk' (.inl (n : Int))).isSome = sick'.contains n) (z : sk'.length ≤ M) (l : N ≤ M) :
    DevIn C (upd H g.k (.dK sk')) S M g { d with sick := sick' } dx kvs cs sk' where
  obj := by rw [upd_ne D.ak]; exact D.obj
  sure := by rw [upd_ne D.ne]; exact D.sure
  way := by rw [upd_ne D.kc.symm]; exact D.way
  sick := upd_same
  ne := D.ne
  av := D.av
  sureOk := fun n hn => (D.sureOk n hn).mono fun b bs => D.keepB (mutK g)
  wayOk := paired_imp (fun a b q => q.mono (fun b bs => D.keepB (mutK g)) fun t xs => D.keepT (mutK g)) D.wayOk
  sickOk := w
  szs := Nat.le_trans D.szs l
  szk := z
theorem DevIn.setSure (D : DevIn C H S N g d dx kvs cs sk) {blocks' : List Bytes} (e : blocks'.length = d.blocks.length) (w : ∀ n, n < d.blocks.length → SureAt H S (valV kvs' (.inl (n : Int))) (blocks'.getD n zeroBlock)) (z : kvs'.length + d.way.length ≤ M) (l : N ≤ M) :
    DevIn C (upd H g.s (.dK kvs')) S M g { d with blocks := blocks' } dx kvs' cs sk where
  obj := by rw [upd_ne D.as_]; show _ = some (HO.ins C dx (dF blocks'.length _ _ _ _)); rw [e]; exact D.obj
  sure := upd_same
  way := by rw [upd_ne D.sc.symm]; exact D.way
  sick := by rw [upd_ne D.ne.symm]; exact D.sick
  ne := D.ne
  av := D.av
  sureOk := fun n hn => (w n (e ▸ hn)).mono fun b bs => D.keepB (mutS g)
  wayOk := by
    show Paired (WayAt _ S blocks'.length) cs d.way
    rw [e]
    exact paired_imp (fun a b q => q.mono (fun b bs => D.keepB (mutS g)) fun t xs => D.keepT (mutS g)) D.wayOk
  sickOk := D.sickOk
  szs := z
  szk := Nat.le_trans D.szk l
theorem DevIn.setGone (D : DevIn C H S N g d dx kvs cs sk) {b : Bool} : DevIn C (upd H g.a (.ins C dx (dF d.blocks.length g.s g.c g.k b))) S N g { d with gone := b } dx kvs cs sk where
  obj := upd_same
  sure := by rw [upd_ne D.as_.symm]; exact D.sure
  way := by rw [upd_ne D.ac.symm]; exact D.way
  sick := by rw [upd_ne D.ak.symm]; exact D.sick
  ne := D.ne
  av := D.av
  sureOk := fun n hn => (D.sureOk n hn).mono fun b bs => D.keepB (mutA g)
  wayOk := paired_imp (fun a b q => q.mono (fun b bs => D.keepB (mutA g)) fun t xs => D.keepT (mutA g)) D.wayOk
  sickOk := D.sickOk
  szs := D.szs
  szk := D.szk
theorem DevIn.sickEq (D : DevIn C H S N g d dx kvs cs sk) {sick' : List Nat} (w : ∀ n : Nat, (valV sk (.inl (n : Int))).isSome = sick'.contains n) : DevIn C H S N g { d with sick := sick' } dx kvs cs sk :=
  ⟨D.obj, D.sure, D.way, D.sick, D.ne, D.av, D.sureOk, D.wayOk, w, D.szs, D.szk⟩
/-- self.coming = c', a list that stands -/
theorem DevIn.newWay (D : DevIn C H S N g d dx kvs cs sk) {c' : Addr} (hc : H c' = some (.lst (cs'.map V.ref))) (sc : ¬ S c') {way' : List (Nat × Bytes)} (w : Paired (WayAt H S d.blocks.length) cs' way') (z : kvs.length + way'.length ≤ N) :
    DevIn C (upd H g.a (.ins C dx (dF d.blocks.length g.s c' g.k d.gone))) S N ⟨g.a, g.s, c', g.k⟩ { d with way := way' } dx kvs cs' sk where
  obj := upd_same
  sure := by rw [upd_ne D.as_.symm]; exact D.sure
  way := by rw [upd_ne (ne_of hc D.obj (by intro z; cases z))]; exact hc
  sick := by rw [upd_ne D.ak.symm]; exact D.sick
  ne := D.ne
  av := by
    rintro q (e | e | e | e)
    · exact D.av q (.inl e)
    · exact D.av q (.inr (.inl e))
    · rw [e]; exact sc
    · exact D.av q (.inr (.inr (.inr e)))
  sureOk := fun n hn => (D.sureOk n hn).mono fun b bs => D.keepB (mutA g)
  wayOk := paired_imp (fun a b q => q.mono (fun b bs => D.keepB (mutA g)) fun t xs => D.keepT (mutA g)) w
  sickOk := D.sickOk
  szs := z
  szk := D.szk
theorem Moves.new {c' : Addr} {o : HO} (h : H c' = none) {u : HO} : Moves H (upd (upd H c' u) g.a o) g ⟨g.a, g.s, c', g.k⟩ where
  keep := fun q w e n => by rw [upd_ne (fun z => n (.inl z)), upd_ne (ne_of_none e h)]; exact e
  a := rfl
  s := rfl
  k := rfl
  c := .inr h
  dom := fun q e => dom_upd q (dom_upd q e)
end
/-- a write is on its way -/
def Sent (d : Dev) (k : Nat) (b : Bytes) : Dev := { d with way := d.way ++ [(k, b)] }
section
variable {P : Program} {w : World} {K : PySem.W.Frag} {mg : Str → Option Value} {base : Heap}
/-! ### take -/
def spTake (C : Addr) : Sp := fun vs H Q _ => ∃ S N g d dx kvs cs sk, ∃ k : Nat, ∃ b bs, vs = [.ref g.a, nv k, .ref b] ∧ DevIn C H S N g d dx kvs cs sk ∧ Priv H S ∧ BlkAt H b bs ∧ ¬ S b ∧ d.way.length < 16000000 ∧
  (d.blocks.length ≤ k → Q .non H) ∧ (k < d.blocks.length → ∀ H' cs', DevIn C H' S (N + 1) g (Sent d k bs) dx kvs cs' sk → Moves H H' g g → Q .non H')
theorem ok_Device_take (T : Txt K mg) : FnOk P w K mg base CX0 2 T.De.take.f T.De.take.fd ["self", "k", "block"] (spTake T.De.C) := by
  refine T.De.take.F.ok sc_Device_take (fun vs H Q E h => ?_) (fun cdv A outer s H vs Q E hr h => ⟨_, (pss_one
    (ps_if (pt_val (pe_meth (pv 0) T.De.cl T.De.m_has_block (ok_Device_has_block T) (hr.mono (by decide)) T.De.has_block.b .nil pass0 (pa_cons (pv 1) pa_nil))) (pss_one
    (ps_expr (pe_bm PySem.F.plainAttrs_list PySem.F.slot_list_append PySem.F.type_list_append mt_append (pe_fld (pv 0) rfl) (pa_cons (pe_tup (pa_cons (pv 1) (pa_cons (pv 2) pa_nil))) pa_nil)))) pss_nil)), ?_⟩)
  · obtain ⟨S, N, g, d, dx, kvs, cs, sk, k, b, bs, rfl, _⟩ := h
    rfl
  · obtain ⟨S, N, g, d, dx, kvs, cs, sk, k, b, bs, rfl, D, pr, hb, sb, lim, q1, q2⟩ := h
    refine ⟨_, rfl, g.a, dx, _, rfl, D.obj, dF_no, _, rfl, ?_⟩
    refine ⟨g.a, dx, _, _, _, _, _, k, rfl, D.obj, _, rfl, ?_⟩
    by_cases hk : k < d.blocks.length
    · refine if_t (decide_eq_true hk) ?_
      refine ⟨_, rfl, g.a, T.De.C, dx, _, _, rfl, D.obj, T.De.cl, T.De.n_coming, dF_coming, .inl ⟨rfl, _, SqL.of D.way⟩, _, rfl, _, rfl, (by show 2 ≤ sizeLine; decide), fun t ht => ?_⟩
      have D1 := D.same (same_upd (o := .tup [nv k, .ref b]) ht)
      refine ⟨g.c, _, _, rfl, rfl, D1.way, line_lt (by rw [List.length_map, D.wayOk.length]; omega), ?_⟩
      have hw : Paired (WayAt (upd H t (.tup [nv k, .ref b])) S d.blocks.length) (cs ++ [t]) (d.way ++ [(k, bs)]) :=
        D1.wayOk.snoc ⟨b, upd_same, hb.mono (same_upd ht _), pr.new ht, sb, hk⟩
      have D2 := D1.setWay (M := N + 1) hw (by rw [List.length_append]; have := D.szs; show _ + (_ + 1) ≤ _; omega) (Nat.le_succ N)
      rw [List.map_append] at D2
      exact q2 hk _ _ D2 ((Moves.of_same (same_upd ht)).trans (Moves.store (mutC g)))
    · exact if_f (decide_eq_false hk) (q1 (by omega))
/-! ### write -/
theorem contains_filter (l : List Nat) (k n : Nat) : (l.filter fun x => x != k).contains n = if n = k then false else l.contains n := by
  by_cases h : n = k
  · rw [if_pos h]
    subst h
    rw [Bool.eq_false_iff]
    intro z
    rw [List.contains_iff_mem, List.mem_filter] at z
    simp at z
  · rw [if_neg h]
    rw [Bool.eq_iff_iff, List.contains_iff_mem, List.contains_iff_mem, List.mem_filter]
    simp [h]
def Written (d : Dev) (k : Nat) (b : Bytes) : Dev := { d with way := d.way ++ [(k, b)], sick := d.sick.filter fun x => x != k }
def spDevWrite (C : Addr) : Sp := fun vs H Q _ => ∃ S N g d dx kvs cs sk, ∃ k : Nat, ∃ b bs, vs = [.ref g.a, nv k, .ref b] ∧ DevIn C H S N g d dx kvs cs sk ∧ Priv H S ∧ BlkAt H b bs ∧ ¬ S b ∧ d.way.length < 16000000 ∧
  (d.blocks.length ≤ k → Q (.bl false) H) ∧ (k < d.blocks.length → ∀ H' cs' sk', DevIn C H' S (N + 1) g (Written d k bs) dx kvs cs' sk' → Moves H H' g g → Q (.bl true) H')
theorem ok_Device_write (T : Txt K mg) : FnOk P w K mg base CX0 3 T.De.write.f T.De.write.fd ["self", "k", "block"] (spDevWrite T.De.C) := by
  refine T.De.write.F.ok sc_Device_write (fun vs H Q E h => ?_) (fun cdv A outer s H vs Q E hr h => ⟨_, (pss_cons
    (ps_if (pt_not (pt_val (pe_meth (pv 0) T.De.cl T.De.m_has_block (ok_Device_has_block T) (hr.mono (by decide)) T.De.has_block.b .nil pass0 (pa_cons (pv 1) pa_nil)))) (pss_one
    (ps_ret pe_bl)) pss_nil)
    (pss_cons
    (ps_expr (pe_meth (pv 0) T.De.cl T.De.m_take (ok_Device_take T) (hr.mono (by decide)) T.De.take.b .nil pass0 (pa_cons (pv 1) (pa_cons (pv 2) pa_nil))))
    (pss_cons
    (ps_expr (pe_dpop2 (pe_fld (pv 0) rfl) (pv 1) pe_non ⟨rfl, by rfl, by rfl, rfl⟩))
    (pss_one
    (ps_ret pe_bl))))), ?_⟩)
  · obtain ⟨S, N, g, d, dx, kvs, cs, sk, k, b, bs, rfl, _⟩ := h
    rfl
  · obtain ⟨S, N, g, d, dx, kvs, cs, sk, k, b, bs, rfl, D, pr, hb, sb, lim, q1, q2⟩ := h
    refine ⟨_, rfl, g.a, dx, _, rfl, D.obj, dF_no, _, rfl, ?_⟩
    refine ⟨g.a, dx, _, _, _, _, _, k, rfl, D.obj, _, rfl, ?_⟩
    by_cases hk : k < d.blocks.length
    · refine if_f (by rw [decide_eq_true hk]; rfl) ?_
      refine ⟨_, rfl, g.a, dx, _, rfl, D.obj, dF_no, _, rfl, _, rfl, ?_⟩
      refine ⟨S, N, g, d, dx, kvs, cs, sk, k, b, bs, rfl, D, pr, hb, sb, lim, fun z => absurd z (by omega), fun _ H1 cs' D1 m1 => ?_⟩
      refine ⟨_, rfl, g.a, T.De.C, dx, _, _, rfl, D1.obj, T.De.cl, T.De.n_sick, dF_sick, g.k, rfl, .inl ⟨_, .inl D1.sick⟩, _, rfl, sk, Sum.inl (k : Int), D1.sick, rfl, fun v hv => ?_, fun hn => ?_⟩
      · have D2 := D1.setSick (M := N + 1) (sk' := dropK sk (Sum.inl (k : Int))) (sick' := d.sick.filter fun x => x != k) (fun n => by
          rw [valV_drop, contains_filter]
          by_cases e : n = k
          · rw [if_pos e, if_pos (by rw [e])]
            rfl
          · rw [if_neg e, if_neg (fun z => e (inl_inj z))]
            exact D.sickOk n) (Nat.le_trans (dropK_le _ _) (Nat.le_trans D.szk (Nat.le_succ N))) (Nat.le_refl _)
        exact q2 hk _ _ _ D2 (m1.trans (Moves.store (mutK g)))
      · refine q2 hk H1 cs' sk (D1.sickEq (sick' := d.sick.filter fun x => x != k) fun n => ?_) m1
        rw [contains_filter]
        by_cases e : n = k
        · rw [if_pos e, e, hn]
          rfl
        · rw [if_neg e]
          exact D.sickOk n
    · refine if_t (by rw [decide_eq_false hk]; rfl) (q1 (by omega))
/-! ### leave, sicken -/
def spLeave (C : Addr) : Sp := fun vs H Q _ => ∃ S N g d dx kvs cs sk, vs = [.ref g.a] ∧ DevIn C H S N g d dx kvs cs sk ∧
  ∀ H', DevIn C H' S N g { d with gone := true } dx kvs cs sk → Moves H H' g g → Q .non H'
theorem ok_Device_leave (T : Txt K mg) : FnOk P w K mg base CX0 1 T.De.leave.f T.De.leave.fd ["self"] (spLeave T.De.C) := by
  refine T.De.leave.F.ok sc_Device_leave (fun vs H Q E h => ?_) (fun cdv A outer s H vs Q E hr h => ⟨_, (pss_one
    (ps_fld (pv 0) pe_bl rfl)), ?_⟩)
  · obtain ⟨S, N, g, d, dx, kvs, cs, sk, rfl, _⟩ := h
    rfl
  · obtain ⟨S, N, g, d, dx, kvs, cs, sk, rfl, D, q⟩ := h
    refine ⟨_, rfl, g.a, T.De.C, dx, _, rfl, D.obj, T.De.cl, T.De.n_gone, (by show 5 < 1000; decide), ?_⟩
    rw [dF_putg]
    exact q _ D.setGone (Moves.store (mutA g))
def spSicken (C : Addr) : Sp := fun vs H Q _ => ∃ S N g d dx kvs cs sk, ∃ k : Nat, vs = [.ref g.a, nv k] ∧ DevIn C H S N g d dx kvs cs sk ∧ N < 16000000 ∧
  ∀ H' sk', DevIn C H' S (N + 1) g { d with sick := k :: d.sick } dx kvs cs sk' → Moves H H' g g → Q .non H'
theorem ok_Device_sicken (T : Txt K mg) : FnOk P w K mg base CX0 1 T.De.sicken.f T.De.sicken.fd ["self", "k"] (spSicken T.De.C) := by
  refine T.De.sicken.F.ok sc_Device_sicken (fun vs H Q E h => ?_) (fun cdv A outer s H vs Q E hr h => ⟨_, (pss_one
    (ps_dput (hu_of hr) (pe_fld (pv 0) rfl) (pv 1) pe_bl rfl)), ?_⟩)
  · obtain ⟨S, N, g, d, dx, kvs, cs, sk, k, rfl, _⟩ := h
    rfl
  · obtain ⟨S, N, g, d, dx, kvs, cs, sk, k, rfl, D, lim, q⟩ := h
    refine ⟨_, rfl, g.a, T.De.C, dx, _, _, rfl, D.obj, T.De.cl, T.De.n_sick, dF_sick, _, rfl, g.k, _, rfl, DPut.k (k := Sum.inl (k : Int)) D.sick (line_lt (by have := D.szk; omega)), ?_⟩
    refine q _ _ (D.setSick (sk' := putK sk (Sum.inl (k : Int)) (.bl true)) (fun n => ?_) (Nat.le_trans (length_putK _ _ _) (by have := D.szk; omega)) (Nat.le_succ N)) (Moves.store (mutK g))
    rw [valV_put, List.contains_cons]
    by_cases e : n = k
    · rw [if_pos (by rw [e]), e, beq_self_eq_true]
      rfl
    · rw [if_neg (fun z => e (inl_inj z)), D.sickOk n, beq_eq_false_iff_ne.mpr e]
      rfl
end
end Mp
namespace Mp
open PySem PySem.Spec PyProof.Rows L2
open Gv (Bytes Dev zeroBlock isBlock)
/-! ### the mathematics of stores to blocks -/
theorem set_getD {α : Type} (l : List α) (i n : Nat) (v z : α) (hi : i < l.length) : (l.set i v).getD n z = if n = i then v else l.getD n z := by
  simp only [List.getD_eq_getElem?_getD, List.getElem?_set]
  by_cases h : i = n
  · subst h
    rw [if_pos rfl, if_pos rfl, if_pos hi]
    rfl
  · rw [if_neg h, if_neg (fun e => h e.symm)]
def stores (l : List Bytes) (way : List (Nat × Bytes)) : List Bytes := way.foldl (fun l x => l.set x.1 x.2) l
theorem stores_len : ∀ (way : List (Nat × Bytes)) (l : List Bytes), (stores l way).length = l.length
  | [], _ => rfl
  | x :: r, l => by
    show (stores (l.set x.1 x.2) r).length = _
    rw [stores_len r, List.length_set]
theorem stores_snoc (l : List Bytes) (way : List (Nat × Bytes)) (x : Nat × Bytes) : stores l (way ++ [x]) = (stores l way).set x.1 x.2 := by
  unfold stores
  rw [List.foldl_append]
  rfl
theorem settled_eq (d : Dev) : d.settled = { d with blocks := stores d.blocks d.way, way := [] } := rfl
theorem rev_cases {α : Type} {p : List α → Prop} (l : List α) (h0 : p []) (h1 : ∀ l x, p l → p (l ++ [x])) : p l := by
  have : ∀ m : List α, p m.reverse := fun m => by
    induction m with
    | nil => exact h0
    | cons x r ih =>
      rw [List.reverse_cons]
      exact h1 _ _ ih
  have q := this l.reverse
  rwa [List.reverse_reverse] at q
theorem now_stores (l : List Bytes) (way : List (Nat × Bytes)) (k : Nat) (h : ∀ x ∈ way, x.1 < l.length) :
    (stores l way).getD k zeroBlock = (match way.reverse.find? fun x => x.1 == k with | some x => x.2 | none => l.getD k zeroBlock) := by
  revert h
  refine rev_cases (p := fun way => (∀ x ∈ way, x.1 < l.length) → (stores l way).getD k zeroBlock = (match way.reverse.find? fun x => x.1 == k with | some x => x.2 | none => l.getD k zeroBlock)) way (fun _ => rfl) fun way x ih h => ?_
  rw [stores_snoc, find_snoc, set_getD _ _ _ _ _ (by rw [stores_len]; exact h x (by simp))]
  by_cases e : x.1 = k
  · rw [if_pos e, if_pos e.symm]
  · rw [if_neg e, if_neg (fun z => e z.symm)]
    exact ih fun y hy => h y (by simp [hy])
theorem now_settled (d : Dev) (k : Nat) (h : ∀ x ∈ d.way, x.1 < d.blocks.length) : d.settled.blocks.getD k zeroBlock = d.now k := now_stores d.blocks d.way k h
theorem way_in {C : Addr} {H : Hp} {S : Addr → Prop} {N : Nat} {g : Gh} {d : Dev} {dx : Addr} {kvs sk : List (Key × V)} {cs : List Addr} (D : DevIn C H S N g d dx kvs cs sk) : ∀ x ∈ d.way, x.1 < d.blocks.length := fun x hx => by
  obtain ⟨t, b, _, _, _, _, l⟩ := Paired.right D.wayOk x hx
  exact l
theorem isBlock_of {b : Bytes} (h : b.length = 1024) (hx : ∀ x ∈ b, x < 256) : isBlock b = true := by
  unfold isBlock
  rw [Bool.and_eq_true, List.all_eq_true]
  exact ⟨by rw [h]; rfl, fun x m => decide_eq_true (hx x m)⟩
theorem isBlock_len {b : Bytes} (h : isBlock b = true) : b.length = 1024 := by
  unfold isBlock at h
  rw [Bool.and_eq_true] at h
  exact eq_of_beq h.1
theorem isBlock_lt {b : Bytes} (h : isBlock b = true) : ∀ x ∈ b, x < 256 := by
  unfold isBlock at h
  rw [Bool.and_eq_true, List.all_eq_true] at h
  exact fun x m => of_decide_eq_true (h.2 x m)
theorem isBlock_set {b : Bytes} (h : isBlock b = true) {j v : Nat} (hv : v < 256) : isBlock (b.set j v) = true :=
  isBlock_of (by rw [List.length_set]; exact isBlock_len h) fun x m => by
    rcases List.mem_or_eq_of_mem_set m with z | z
    · exact isBlock_lt h x z
    · rw [z]; exact hv
theorem isBlock_tear {a b : Bytes} (ha : isBlock a = true) (hb : isBlock b = true) (t : Nat) : isBlock (a.take t ++ b.drop t) = true :=
  isBlock_of (by rw [List.length_append, List.length_take, List.length_drop, isBlock_len ha, isBlock_len hb]; omega) fun x m => by
    rcases List.mem_append.mp m with z | z
    · exact isBlock_lt ha x (List.mem_of_mem_take z)
    · exact isBlock_lt hb x (List.mem_of_mem_drop z)
theorem DevIn.size {C : Addr} {H : Hp} {S : Addr → Prop} {N M : Nat} {g : Gh} {d : Dev} {dx : Addr} {kvs sk : List (Key × V)} {cs : List Addr} (D : DevIn C H S N g d dx kvs cs sk) (z1 : kvs.length + d.way.length ≤ M) (z2 : sk.length ≤ M) :
    DevIn C H S M g d dx kvs cs sk := ⟨D.obj, D.sure, D.way, D.sick, D.ne, D.av, D.sureOk, D.wayOk, D.sickOk, z1, z2⟩
theorem DevIn.putSure {C : Addr} {H : Hp} {S : Addr → Prop} {N : Nat} {g : Gh} {d : Dev} {dx : Addr} {kvs sk : List (Key × V)} {cs : List Addr} (D : DevIn C H S N g d dx kvs cs sk) {k : Nat} {b : Addr} {bs : Bytes} (hk : k < d.blocks.length) (hb : BlkAt H b bs) (sb : ¬ S b) :
    DevIn C (upd H g.s (.dK (putK kvs (Sum.inl (k : Int)) (.ref b)))) S (N + 1) g { d with blocks := d.blocks.set k bs } dx (putK kvs (Sum.inl (k : Int)) (.ref b)) cs sk :=
  D.setSure (by rw [List.length_set]) (fun n hn => by
    rw [valV_put, set_getD _ _ _ _ _ hk]
    by_cases e : n = k
    · rw [if_pos (by rw [e]), if_pos e]
      exact .inl ⟨b, rfl, hb, sb⟩
    · rw [if_neg (fun z => e (inl_inj z)), if_neg e]
      exact D.sureOk n hn) (by have := length_putK kvs (Sum.inl (k : Int)) (.ref b); have := D.szs; omega) (Nat.le_succ N)
section
variable {P : Program} {w : World} {K : PySem.W.Frag} {mg : Str → Option Value} {base : Heap}
/-! ### flush -/
def spDevFlush (C : Addr) : Sp := fun vs H Q _ => ∃ S N g d dx kvs cs sk, vs = [.ref g.a] ∧ DevIn C H S N g d dx kvs cs sk ∧ Priv H S ∧ N + d.way.length < 16000000 ∧
  ∀ H' g' kvs', DevIn C H' S N g' d.settled dx kvs' [] sk → kvs'.length ≤ kvs.length + d.way.length → Moves H H' g g' → Q .non H'
theorem ok_Device_flush (T : Txt K mg) : FnOk P w K mg base CX0 1 T.De.flush.f T.De.flush.fd ["self"] (spDevFlush T.De.C) := by
  refine T.De.flush.F.ok sc_Device_flush (fun vs H Q E h => ?_) (fun cdv A outer s H vs Q E hr h => ⟨_, (pss_cons
    (ps_for PassesOwn.never rfl (pi_list (pe_fld (pv 0) rfl)) (pg_name (i := 1) sc_Device_flush.nd rfl (Or.inl rfl)) (pss_one
    (ps_dput (hu_of hr) (pe_fld (pv 0) rfl) (pe_ix ix_tup (pv 1) pe_int (fun _ _ => rfl)) (pe_ix ix_tup (pv 1) pe_int (fun _ _ => rfl)) rfl)))
    (pss_one
    (ps_fld (pv 0) (pe_lst pa_nil) rfl))), ?_⟩)
  · obtain ⟨S, N, g, d, dx, kvs, cs, sk, rfl, _⟩ := h
    rfl
  · obtain ⟨S, N, g, d, dx, kvs, cs, sk, rfl, D, pr, lim, q⟩ := h
    have hl : cs.length = d.way.length := D.wayOk.length
    refine ⟨_, rfl, g.a, T.De.C, dx, _, _, rfl, D.obj, T.De.cl, T.De.n_coming, dF_coming, g.c, rfl, ⟨_, SqL.of D.way⟩, ?_⟩
    refine for_list (xs := cs.map V.ref) (fun i σ H' => Moves H H' g g ∧ ∃ v kvs', σ = [some (.ref g.a), v] ∧ kvs'.length ≤ kvs.length + i ∧ DevIn T.De.C H' S (N + i) g { d with blocks := stores d.blocks (d.way.take i) } dx kvs' cs sk)
      ⟨Moves.refl H g, none, kvs, rfl, Nat.le_refl _, D⟩ (fun i σ H' _ ⟨_, v, kvs', _, _, D'⟩ => SqL.of D'.way) ?_ ?_
    · rintro i y σ H' hi ⟨mv, v, kvs', rfl, lk, D'⟩
      obtain ⟨t, x, rfl, ht, hx, b, e1, hb, s1, s2, s3⟩ := way_get D' hi
      refine ⟨_, rfl, t, _, _, .ref b, rfl, rfl, SqT.of e1, atI_nat (j := 1) rfl, ?_⟩
      refine ⟨_, rfl, g.a, T.De.C, dx, _, _, rfl, D'.obj, T.De.cl, T.De.n_sure, dF_sure, ?_⟩
      refine ⟨_, rfl, t, _, _, nv x.1, rfl, rfl, SqT.of e1, atI_nat (j := 0) rfl, ?_⟩
      have hil : i < d.way.length := by
        have := (List.getElem?_eq_some_iff.mp hx).1
        exact this
      refine ⟨g.s, _, rfl, DPut.k (k := Sum.inl (x.1 : Int)) D'.sure (line_lt (by have := D'.szs; omega)), ?_⟩
      have D2 := D'.putSure s3 hb s2
      refine ⟨mv.trans (Moves.store (mutS g)), _, putK kvs' (Sum.inl (x.1 : Int)) (.ref b), rfl, Nat.le_trans (length_putK _ _ _) (by omega), ?_⟩
      have e : stores d.blocks (d.way.take (i + 1)) = (stores d.blocks (d.way.take i)).set x.1 x.2 := by rw [take_snoc hx, stores_snoc]
      rw [e]
      exact D2
    · rintro σ H' ⟨mv, v, kvs', rfl, lk, D'⟩
      rw [List.length_map, hl, List.take_length] at D'
      refine ⟨Nat.zero_le _, fun c hc => ?_⟩
      refine ⟨_, rfl, g.a, T.De.C, dx, _, rfl, (by rw [upd_ne (ne_of_none D'.obj hc)]; exact D'.obj), T.De.cl, T.De.n_coming, (by show 5 < 1000; decide), ?_⟩
      rw [dF_putc]
      have D1 := (D'.size (M := N + d.way.length) D'.szs D'.szk).same (same_upd (o := .lst []) hc)
      have D2 := D1.newWay (cs' := []) upd_same (fun z => pr.new (dom_none mv.dom hc) z) .nil (by have := D'.szs; show _ + 0 ≤ _; simp only at this; omega)
      refine q _ _ kvs' (D2.size (by have := D'.szs; show _ + 0 ≤ _; simp only at this; omega) D.szk) (by rw [← hl]; rw [List.length_map] at lk; exact lk) (mv.trans (Moves.new hc))
end
end Mp
namespace Mp
open PySem PySem.Spec PyProof.Rows L2
open Gv (Bytes Dev zeroBlock isBlock)
theorem set_self {α : Type} (l : List α) (i : Nat) (z : α) (h : i < l.length) : l.set i (l.getD i z) = l := by
  apply List.ext_getElem?
  intro n
  rw [List.getElem?_set]
  by_cases e : i = n
  · subst e
    rw [if_pos rfl, if_pos h, List.getD_eq_getElem?_getD, List.getElem?_eq_getElem h]
    rfl
  · rw [if_neg e]
theorem getD_block {C : Addr} {H : Hp} {S : Addr → Prop} {N : Nat} {g : Gh} {d : Dev} {dx : Addr} {kvs sk : List (Key × V)} {cs : List Addr} (D : DevIn C H S N g d dx kvs cs sk) {k : Nat} (hk : k < d.blocks.length) : isBlock (d.blocks.getD k zeroBlock) = true := by
  rcases D.sureOk k hk with ⟨b, _, hb, _⟩ | ⟨_, e⟩
  · exact hb.ok
  · rw [e]; exact zero_ok
section
variable {P : Program} {w : World} {K : PySem.W.Frag} {mg : Str → Option Value} {base : Heap}
/-! ### rot -/
def Rotten (d : Dev) (k j v : Nat) : Dev := { d.settled with blocks := d.settled.blocks.set k ((d.now k).set j (v % 256)) }
def spRot (C : Addr) : Sp := fun vs H Q _ => ∃ S N g d dx kvs cs sk, ∃ k j v : Nat, vs = [.ref g.a, nv k, nv j, nv v] ∧ DevIn C H S N g d dx kvs cs sk ∧ Priv H S ∧ N + d.way.length < 16000000 ∧
  ∀ H' g' kvs', DevIn C H' S (N + 1) g' (Rotten d k j v) dx kvs' [] sk → Moves H H' g g' → Q .non H'
theorem ok_Device_rot (T : Txt K mg) : FnOk P w K mg base CX0 3 T.De.rot.f T.De.rot.fd ["self", "k", "j", "v"] (spRot T.De.C) := by
  refine T.De.rot.F.ok sc_Device_rot (fun vs H Q E h => ?_) (fun cdv A outer s H vs Q E hr h => ⟨_, (pss_cons
    (ps_expr (pe_meth0 (pv 0) T.De.cl T.De.m_flush (ok_Device_flush T) (hr.mono (by decide)) T.De.flush.b .nil pass0))
    (pss_one
    (ps_if (PW.pt (pw_and (pt_val (pe_meth (pv 0) T.De.cl T.De.m_has_block (ok_Device_has_block T) (hr.mono (by decide)) T.De.has_block.b .nil pass0 (pa_cons (pv 1) pa_nil))) (pw_and1 (pt_cmpR op_lt (pv 2) (pe_gint T.G.c_BLOCK_BYTES) (nomark _))))) (pss_cons
    (ps_set (i := 4) sc_Device_rot.nd rfl (Or.inl rfl) (pe_callTy call_list_of (by rfl) T.G.n_list (by decide +kernel) (pa_cons (pe_meth (pv 0) T.De.cl T.De.m_sure_block (ok_Device_sure_block T) (hr.mono (by decide)) T.De.sure_block.b .nil pass0 (pa_cons (pv 1) pa_nil)) pa_nil)))
    (pss_cons
    (ps_asg (pe_op op_modN (pv 3) pe_int) (pg_sub (pv 4) (pv 2) set_list))
    (pss_one
    (ps_dput (hu_of hr) (pe_fld (pv 0) rfl) (pv 1) (pv 4) rfl)))) pss_nil))), ?_⟩)
  · obtain ⟨S, N, g, d, dx, kvs, cs, sk, k, j, v, rfl, _⟩ := h
    rfl
  · obtain ⟨S, N, g, d, dx, kvs, cs, sk, k, j, v, rfl, D, pr, lim, q⟩ := h
    have hin := way_in D
    have slen : d.settled.blocks.length = d.blocks.length := stores_len _ _
    refine ⟨_, rfl, g.a, dx, _, rfl, D.obj, dF_no, ?_⟩
    refine ⟨S, N, g, d, dx, kvs, cs, sk, rfl, D, pr, lim, fun H1 g1 kvs1 D1 _ m1 => ?_⟩
    have ea : g.a = g1.a := m1.a.symm
    refine ⟨_, rfl, g.a, dx, _, rfl, (by rw [ea]; exact D1.obj), dF_no, _, rfl, ?_⟩
    refine ⟨g.a, dx, _, _, _, _, _, k, rfl, (by rw [ea]; exact D1.obj), _, rfl, ?_⟩
    have same_end : ¬ (k < d.blocks.length ∧ j < 1024) → Rotten d k j v = d.settled := fun c => by
      have e : d.settled.blocks.set k ((d.now k).set j (v % 256)) = d.settled.blocks := by
        by_cases hk : k < d.blocks.length
        · have hj : 1024 ≤ j := by omega
          rw [← now_settled d k hin]
          have hb := getD_block D1 (k := k) (by rw [slen]; exact hk)
          have e0 : (d.settled.blocks.getD k zeroBlock).set j (v % 256) = d.settled.blocks.getD k zeroBlock := List.set_eq_of_length_le (by rw [isBlock_len hb]; exact hj)
          rw [e0]
          exact set_self _ _ _ (by rw [slen]; exact hk)
        · exact List.set_eq_of_length_le (by rw [slen]; omega)
      unfold Rotten
      rw [e]
    by_cases hk : k < d.blocks.length
    · have hk1 : k < d.settled.blocks.length := by rw [slen]; exact hk
      refine if_t (decide_eq_true hk1) ?_
      refine ⟨_, rfl, _, _, rfl, rfl, _, rfl, ?_⟩
      by_cases hj : j < 1024
      · refine if_t (decide_eq_true (by omega)) ?_
        refine ⟨_, rfl, g.a, dx, _, rfl, (by rw [ea]; exact D1.obj), dF_no, _, rfl, ?_⟩
        refine ⟨S, N, g1, d.settled, dx, kvs1, [], sk, k, (by rw [ea]; rfl), D1, (fun z hz => m1.dom z (pr z hz)), hk1, fun H2 b sm hb sb => ?_⟩
        refine ⟨b, _, rfl, .inl (SqL.of hb.at_), fun l hl => ?_⟩
        have D2 := D1.same sm
        have hlS : ¬ S l := fun z => pr l z (dom_none m1.dom (dom_none (dom_same sm) hl))
        refine ⟨_, rfl, _, _, rfl, rfl, (by show (256 : Int) ≠ 0; decide), ?_⟩
        refine ⟨_, rfl, _, rfl, l, _, _, j, rfl, rfl, upd_same, ?_, ?_⟩
        · unfold ixN
          rw [List.length_map, hb.len, if_pos (by omega), if_pos (by omega), Int.toNat_natCast]
        · have D2l := D2.same (same_upd (o := .lst ((nvs (d.settled.blocks.getD k zeroBlock)).set j (.int ((v : Int).fmod 256)))) hl)
          refine ⟨_, rfl, _, rfl, g.a, T.De.C, dx, dF d.settled.blocks.length g1.s g1.c g1.k d.settled.gone, _, rfl, ?_, T.De.cl, T.De.n_sure, dF_sure, _, rfl, g1.s, _, rfl,
            DPut.k (k := Sum.inl (k : Int)) (kvs := kvs1) (by rw [upd_upd]; exact D2l.sure) (line_lt (by have := D1.szs; omega)), ?_⟩
          · rw [upd_upd, ea]
            exact D2l.obj
          · rw [upd_upd]
            have ev : ((nvs (d.settled.blocks.getD k zeroBlock)).set j (.int ((v : Int).fmod 256))) = nvs ((d.settled.blocks.getD k zeroBlock).set j (v % 256)) := by
              have e1 : ((v : Int).fmod 256) = ((v % 256 : Nat) : Int) := by
                rw [Int.fmod_eq_emod_of_nonneg _ (by decide)]
                omega
              rw [e1]
              show _ = List.map nv _
              rw [List.map_set]
            have hb2 : BlkAt (upd H2 l (.lst ((nvs (d.settled.blocks.getD k zeroBlock)).set j (.int ((v : Int).fmod 256))))) l ((d.settled.blocks.getD k zeroBlock).set j (v % 256)) :=
              ⟨by rw [upd_same, ev], isBlock_set hb.ok (Nat.mod_lt _ (by decide))⟩
            have D3 := (D2.same (same_upd hl)).putSure hk1 hb2 hlS
            refine q _ g1 (putK kvs1 (Sum.inl (k : Int)) (.ref l)) ?_ (m1.trans ((Moves.of_same sm).trans ((Moves.of_same (same_upd hl)).trans (Moves.store (mutS g1)))))
            unfold Rotten
            rw [← now_settled d k hin]
            exact D3
      · refine if_f (decide_eq_false (by omega)) ?_
        refine q H1 g1 kvs1 ?_ m1
        rw [same_end (by omega)]
        exact D1.more (Nat.le_succ N)
    · have hk1 : ¬ k < d.settled.blocks.length := by rw [slen]; exact hk
      refine if_f (decide_eq_false hk1) ?_
      refine if_f rfl ?_
      refine q H1 g1 kvs1 ?_ m1
      rw [same_end (by omega)]
      exact D1.more (Nat.le_succ N)
/-! ### tear -/
def Torn (d : Dev) (x : Nat × Bytes) (t : Nat) : Dev := { d with blocks := d.blocks.set x.1 (x.2.take t ++ (d.blocks.getD x.1 zeroBlock).drop t) }
def spTear (C : Addr) : Sp := fun vs H Q _ => ∃ S N g d dx kvs cs sk t x, ∃ n : Nat, vs = [.ref g.a, .ref t, nv n] ∧ DevIn C H S N g d dx kvs cs sk ∧ Priv H S ∧ N < 16000000 ∧ WayAt H S d.blocks.length t x ∧
  ∀ H' kvs', DevIn C H' S (N + 1) g (Torn d x n) dx kvs' cs sk → kvs'.length ≤ kvs.length + 1 → Moves H H' g g → Q .non H'
theorem ok_Device_tear (T : Txt K mg) : FnOk P w K mg base CX0 3 T.De.tear.f T.De.tear.fd ["self", "sent", "length"] (spTear T.De.C) := by
  refine T.De.tear.F.ok sc_Device_tear (fun vs H Q E h => ?_) (fun cdv A outer s H vs Q E hr h => ⟨_, (pss_cons
    (ps_set (i := 3) sc_Device_tear.nd rfl (Or.inl rfl) (pe_ix ix_tup (pv 1) pe_int (fun _ _ => rfl)))
    (pss_one
    (ps_dput (hu_of hr) (pe_fld (pv 0) rfl) (pv 3) (pe_op op_cat (pe_slice sl_list (pe_ix ix_tup (pv 1) pe_int (fun _ _ => rfl)) po_none (po_some (pv 2))) (pe_slice sl_list (pe_meth (pv 0) T.De.cl T.De.m_sure_block (ok_Device_sure_block T) (hr.mono (by decide)) T.De.sure_block.b .nil pass0 (pa_cons (pv 3) pa_nil)) (po_some (pv 2)) po_none)) rfl))), ?_⟩)
  · obtain ⟨S, N, g, d, dx, kvs, cs, sk, t, x, n, rfl, _⟩ := h
    rfl
  · obtain ⟨S, N, g, d, dx, kvs, cs, sk, t, x, n, rfl, D, pr, lim, ⟨b, e1, hb, s1, s2, s3⟩, q⟩ := h
    refine ⟨_, rfl, t, _, _, nv x.1, rfl, rfl, SqT.of e1, atI_nat (j := 0) rfl, ?_⟩
    -- sent[1][:length]
    refine ⟨_, rfl, t, _, _, .ref b, rfl, rfl, SqT.of e1, atI_nat (j := 1) rfl, ?_⟩
    refine ⟨_, rfl, _, rfl, b, _, rfl, SqL.of hb.at_, fun p hp => ?_⟩
    have sm1 := same_upd (o := .lst (cutV (nvs x.2) none (some (n : Int)))) hp
    have D1 := D.same sm1
    refine ⟨_, rfl, g.a, dx, _, rfl, D1.obj, dF_no, _, rfl, ?_⟩
    refine ⟨S, N, g, d, dx, kvs, cs, sk, x.1, rfl, D1, pr.same sm1, s3, fun H2 b2 sm hb2 sb2 => ?_⟩
    refine ⟨_, rfl, _, rfl, b2, _, rfl, SqL.of hb2.at_, fun r hr2 => ?_⟩
    have sm2 := same_upd (o := .lst (cutV (nvs (d.blocks.getD x.1 zeroBlock)) (some (n : Int)) none)) hr2
    have h1 : upd H2 r (.lst (cutV (nvs (d.blocks.getD x.1 zeroBlock)) (some (n : Int)) none)) p = some (.lst (nvs (x.2.take n))) := by
      rw [sm2 p _ (sm p _ upd_same), cut_to]
      show _ = some (HO.lst (List.map nv _))
      rw [List.map_take]
    have h2 : upd H2 r (.lst (cutV (nvs (d.blocks.getD x.1 zeroBlock)) (some (n : Int)) none)) r = some (.lst (nvs ((d.blocks.getD x.1 zeroBlock).drop n))) := by
      rw [upd_same, cut_from]
      show _ = some (HO.lst (List.map nv _))
      rw [List.map_drop]
    refine ⟨p, r, _, _, rfl, rfl, h1, h2, line_le ?_, fun u hu => ?_⟩
    · rw [List.length_map, List.length_map, List.length_take, List.length_drop, hb.len, hb2.len]
      omega
    have sm3 := same_upd (o := .lst (nvs (x.2.take n) ++ nvs ((d.blocks.getD x.1 zeroBlock).drop n))) hu
    have D2 := ((D1.same sm).same sm2).same sm3
    refine ⟨_, rfl, g.a, T.De.C, dx, _, _, rfl, D2.obj, T.De.cl, T.De.n_sure, dF_sure, _, rfl, g.s, _, rfl, DPut.k (k := Sum.inl (x.1 : Int)) D2.sure (line_lt (by have := D.szs; omega)), ?_⟩
    have hb3 : BlkAt (upd (upd H2 r (.lst (cutV (nvs (d.blocks.getD x.1 zeroBlock)) (some (n : Int)) none))) u (.lst (nvs (x.2.take n) ++ nvs ((d.blocks.getD x.1 zeroBlock).drop n)))) u (x.2.take n ++ (d.blocks.getD x.1 zeroBlock).drop n) :=
      ⟨by rw [upd_same]; show _ = some (HO.lst (List.map nv _)); rw [List.map_append], isBlock_tear hb.ok hb2.ok n⟩
    have su : ¬ S u := fun z => ((((pr.same sm1).same sm).same sm2) u z) hu
    exact q _ _ (D2.putSure s3 hb3 su) (length_putK _ _ _) ((Moves.of_same (((sm1.trans sm).trans sm2).trans sm3)).trans (Moves.store (mutS g)))
end
end Mp
namespace Mp
open PySem PySem.Spec PyProof.Rows L2
open Gv (Bytes Dev zeroBlock isBlock)
/-! ### what is told of a device -/
def peekOf (d : Dev) (k : Nat) : List Int := (if d.gone = true then 1 else 0) :: (if d.sick.contains k = true then 1 else 0) :: (d.way.length : Int) :: Gv01Neutral.short (d.now k)
theorem shortN_zeros : ∀ n, shortN (List.replicate n 0) = []
  | 0 => rfl
  | n + 1 => by
    rw [List.replicate_succ', shortN_snoc0]
    exact shortN_zeros n
theorem now_out {d : Dev} {k : Nat} (h : ∀ x ∈ d.way, x.1 < d.blocks.length) (hk : d.blocks.length ≤ k) : d.now k = zeroBlock := by
  have e : d.way.reverse.find? (fun x => x.1 == k) = none := by
    rw [List.find?_eq_none]
    intro x hx z
    have := h x (List.mem_reverse.mp hx)
    have := eq_of_beq z
    omega
  unfold Dev.now
  rw [e]
  show d.blocks.getD k zeroBlock = zeroBlock
  rw [List.getD_eq_getElem?_getD, List.getElem?_eq_none hk]
  rfl
theorem if_one {c : Bool} {σ : L2.St} {H : Hp} {Q : V → Hp → Prop} (h : Q (.int (if c = true then 1 else 0)) H) : if c = true then tC (.int 1) σ H Q else tC (.int 0) σ H Q := by
  cases c
  · exact iteF h
  · exact iteT h
/-! ### what arrives -/
def sel {α : Type} (m n : Nat) (l : List α) : List α := ((l.zipIdx n).filter fun x => m / 2 ^ (x.2 % 64) % 2 == 1).map fun x => x.1
theorem sel_nil {α : Type} (m n : Nat) : sel m n ([] : List α) = [] := rfl
theorem sel_cons {α : Type} (m n : Nat) (x : α) (l : List α) : sel m n (x :: l) = if m / 2 ^ (n % 64) % 2 = 1 then x :: sel m (n + 1) l else sel m (n + 1) l := by
  unfold sel
  rw [List.zipIdx_cons, List.filter_cons]
  by_cases h : m / 2 ^ (n % 64) % 2 = 1
  · rw [if_pos h, if_pos (by simpa using h)]
    rfl
  · rw [if_neg h, if_neg (by simpa using h)]
theorem sel_snoc {α : Type} (m : Nat) (x : α) : ∀ (l : List α) (n : Nat), sel m n (l ++ [x]) = if m / 2 ^ ((n + l.length) % 64) % 2 = 1 then sel m n l ++ [x] else sel m n l
  | [], n => by
    rw [List.nil_append, sel_cons]
    rfl
  | y :: r, n => by
    rw [List.cons_append, sel_cons, sel_cons, sel_snoc m x r (n + 1), List.length_cons]
    have e : n + 1 + r.length = n + (r.length + 1) := by omega
    rw [e]
    by_cases h1 : m / 2 ^ (n % 64) % 2 = 1 <;> by_cases h2 : m / 2 ^ ((n + (r.length + 1)) % 64) % 2 = 1 <;> simp [h1, h2]
theorem sel_len {α : Type} (m n : Nat) (l : List α) : (sel m n l).length ≤ l.length := by
  unfold sel
  rw [List.length_map]
  exact Nat.le_trans (List.length_filter_le _ _) (by rw [List.length_zipIdx]; exact Nat.le_refl _)
theorem sel_paired {α β : Type} {R : α → β → Prop} (m : Nat) : ∀ {l : List α} {l' : List β} (n : Nat), Paired R l l' → Paired R (sel m n l) (sel m n l')
  | _, _, _, .nil => .nil
  | _, _, n, .cons h t => by
    rw [sel_cons, sel_cons]
    by_cases c : m / 2 ^ (n % 64) % 2 = 1
    · rw [if_pos c, if_pos c]
      exact .cons h (sel_paired m (n + 1) t)
    · rw [if_neg c, if_neg c]
      exact sel_paired m (n + 1) t
theorem paired_last {α β : Type} {R : α → β → Prop} : ∀ {l : List α} {m : List β}, Paired R l m → (l = [] ∧ m = []) ∨ ∃ l' a m' b, l = l' ++ [a] ∧ m = m' ++ [b] ∧ Paired R l' m' ∧ R a b
  | _, _, .nil => .inl ⟨rfl, rfl⟩
  | _, _, .cons (a := a) (b := b) h t => by
    rcases paired_last t with ⟨rfl, rfl⟩ | ⟨l', a', m', b', rfl, rfl, p, r⟩
    · exact .inr ⟨[], a, [], b, rfl, rfl, .nil, h⟩
    · exact .inr ⟨a :: l', a', b :: m', b', rfl, rfl, .cons h p, r⟩
section
variable {C : Addr} {H H' : Hp} {S : Addr → Prop} {N : Nat} {g g' : Gh} {d : Dev} {dx : Addr} {kvs sk : List (Key × V)} {cs : List Addr}
theorem DevIn.moveB (D : DevIn C H S N g d dx kvs cs sk) (m : Moves H H' g g') {b : Addr} {bs : Bytes} (h : BlkAt H b bs) : BlkAt H' b bs := ⟨m.keep _ _ h.at_ (D.blk h), h.ok⟩
theorem DevIn.moveT (D : DevIn C H S N g d dx kvs cs sk) (m : Moves H H' g g') {t : Addr} {xs : List V} (h : H t = some (.tup xs)) : H' t = some (.tup xs) := m.keep _ _ h (D.tup h)
end
section
variable {P : Program} {w : World} {K : PySem.W.Frag} {mg : Str → Option Value} {base : Heap}
/-! ### peek -/
def spDevPeek (C : Addr) : Sp := fun vs H Q _ => ∃ S N g d dx kvs cs sk, ∃ k : Nat, vs = [.ref g.a, nv k] ∧ DevIn C H S N g d dx kvs cs sk ∧ Priv H S ∧
  ∀ H' p, H p = none → Same H H' → H' p = some (.lst ((peekOf d k).map V.int)) → Q (.ref p) H'
theorem ok_Device_peek (T : Txt K mg) : FnOk P w K mg base CX0 4 T.De.peek.f T.De.peek.fd ["self", "k"] (spDevPeek T.De.C) := by
  refine T.De.peek.F.ok sc_Device_peek (fun vs H Q E h => ?_) (fun cdv A outer s H vs Q E hr h => ⟨_, (pss_cons
    (ps_set (i := 2) sc_Device_peek.nd rfl (Or.inl rfl) (pe_lst (pa_cons (pe_ifExp (pt_val (pe_fld (pv 0) rfl)) pe_int pe_int) (pa_cons (pe_ifExp (pt_cmp (pc_din (hu_of hr) (pv 1) (pe_fld (pv 0) rfl))) pe_int pe_int) (pa_cons (pe_callB call_len_seq (by rfl) T.G.n_len PySem.boot_len (pa_cons (pe_fld (pv 0) rfl) pa_nil)) pa_nil)))))
    (pss_cons
    (ps_if (pt_not (pt_val (pe_meth (pv 0) T.De.cl T.De.m_has_block (ok_Device_has_block T) (hr.mono (by decide)) T.De.has_block.b .nil pass0 (pa_cons (pv 1) pa_nil)))) (pss_one
    (ps_ret (pv 2))) pss_nil)
    (pss_one
    (ps_ret (pe_op op_cat (pv 2) (pe_call (ok_told_bytes T) (hr.mono (by decide)) rfl T.F.g_told_bytes T.F.told_bytes.F.kp T.F.told_bytes.b .nil pass0 (pa_cons (pe_meth (pv 0) T.De.cl T.De.m_block_now (ok_Device_block_now T) (hr.mono (by decide)) T.De.block_now.b .nil pass0 (pa_cons (pv 1) pa_nil)) pa_nil))))))), ?_⟩)
  · obtain ⟨S, N, g, d, dx, kvs, cs, sk, k, rfl, _⟩ := h
    rfl
  · obtain ⟨S, N, g, d, dx, kvs, cs, sk, k, rfl, D, pr, q⟩ := h
    refine ⟨_, rfl, g.a, T.De.C, dx, _, _, rfl, D.obj, T.De.cl, T.De.n_gone, dF_gone, _, rfl, if_one ?_⟩
    refine ⟨_, rfl, _, rfl, g.a, T.De.C, dx, _, _, rfl, D.obj, T.De.cl, T.De.n_sick, dF_sick, g.k, _, rfl, DGet.k (k := Sum.inl (k : Int)) D.sick, _, rfl, if_one ?_⟩
    refine ⟨_, rfl, g.a, T.De.C, dx, _, _, rfl, D.obj, T.De.cl, T.De.n_coming, dF_coming, g.c, _, rfl, .inl (SqL.of D.way), (by show 3 ≤ sizeLine; decide), fun p hp => ?_⟩
    rw [D.sickOk k, List.length_map, D.wayOk.length]
    have D1 := D.same (same_upd (o := .lst [.int (if d.gone = true then 1 else 0), .int (if d.sick.contains k = true then 1 else 0), .int (d.way.length : Int)]) hp)
    have pr1 := pr.same (same_upd (o := .lst [.int (if d.gone = true then 1 else 0), .int (if d.sick.contains k = true then 1 else 0), .int (d.way.length : Int)]) hp)
    refine ⟨_, rfl, g.a, dx, _, rfl, D1.obj, dF_no, _, rfl, ?_⟩
    refine ⟨g.a, dx, _, _, _, _, _, k, rfl, D1.obj, _, rfl, ?_⟩
    by_cases hk : k < d.blocks.length
    · refine if_f (by rw [decide_eq_true hk]; rfl) ?_
      refine ⟨_, rfl, _, rfl, g.a, dx, _, rfl, D1.obj, dF_no, _, rfl, ?_⟩
      refine ⟨S, N, g, d, dx, kvs, cs, sk, k, rfl, D1, pr1, hk, fun H2 b sm hb sb => ?_⟩
      refine ⟨b, _, rfl, hb.at_, (by rw [hb.len]; exact Nat.le_refl _), fun r hr2 => ?_⟩
      have h1 : upd H2 r (.lst (nvs (shortN (d.now k)))) p = _ := same_upd hr2 p _ (sm p _ upd_same)
      refine ⟨p, r, _, _, rfl, rfl, h1, upd_same, line_le ?_, fun u hu => ?_⟩
      · rw [List.length_map]
        have := shortN_len (d.now k)
        have := hb.len
        show 3 + _ ≤ _
        omega
      · refine q _ u (dom_none (dom_same (same_upd hp)) (dom_none (dom_same sm) (none_upd hu).1)) (((same_upd hp).trans sm).trans ((same_upd hr2).trans (same_upd hu))) ?_
        rw [upd_same]
        unfold peekOf
        rw [short_eq]
        unfold Gv01Neutral.ints
        rw [List.map_cons, List.map_cons, List.map_cons, List.map_map]
        rfl
    · refine if_t (by rw [decide_eq_false hk]; rfl) ?_
      refine ⟨_, rfl, ?_⟩
      refine q _ p hp (same_upd hp) ?_
      rw [upd_same]
      unfold peekOf
      rw [now_out (way_in D) (by omega), short_eq]
      have e : shortN zeroBlock = [] := shortN_zeros _
      rw [e]
      rfl
/-! ### lose_power -/
theorem arrive_eq (d : Dev) (m t : Nat) : Gv.arrive d m t = { d with way := [], blocks := match (sel m 0 d.way).getLast? with
    | none => stores d.blocks (sel m 0 d.way).dropLast
    | some x => (stores d.blocks (sel m 0 d.way).dropLast).set x.1 (x.2.take t ++ ((stores d.blocks (sel m 0 d.way).dropLast).getD x.1 zeroBlock).drop t) } := rfl
theorem bit_eq (m i : Nat) : (((m : Int) / 2 ^ (((i : Int).fmod 64).toNat)).fmod 2) = ((m / 2 ^ (i % 64) % 2 : Nat) : Int) := by
  have e1 : ((i : Int).fmod 64).toNat = i % 64 := by
    rw [Int.fmod_eq_emod_of_nonneg _ (by decide)]
    omega
  rw [e1, Int.fmod_eq_emod_of_nonneg _ (by decide)]
  rw [Int.natCast_emod, Int.natCast_ediv, Int.natCast_pow]
  rfl
def spLose (C : Addr) : Sp := fun vs H Q _ => ∃ S N g d dx kvs cs sk, ∃ m n : Nat, vs = [.ref g.a, nv m, nv n] ∧ DevIn C H S N g d dx kvs cs sk ∧ Priv H S ∧ N + d.way.length < 8000000 ∧
  ∀ H' g' kvs', DevIn C H' S N g' (Gv.arrive d m n) dx kvs' [] sk → Moves H H' g g' → Q .non H'
theorem ok_Device_lose_power (T : Txt K mg) : FnOk P w K mg base CX0 4 T.De.lose_power.f T.De.lose_power.fd ["self", "mask", "length"] (spLose T.De.C) := by
  refine T.De.lose_power.F.ok sc_Device_lose_power (fun vs H Q E h => ?_) (fun cdv A outer s H vs Q E hr h => ⟨_, (pss_cons
    (ps_setLc (i := 3) (own := [("at", 4), ("sent", 5)]) (g := gTup K 2 ((gCons (gName 4) (gCons (gName 5) gNil))))  (by rfl) sc_Device_lose_power.nd rfl rfl (sw_true rfl rfl rfl (by decide +kernel)) (pi_enum (by rfl) T.G.n_enumerate (pa_cons (pe_fld (pv 0) rfl) pa_nil)) (blkOk_by (own := [("at", 4), ("sent", 5)]) (N := ["self", "mask", "length", "arriving", "at", "sent"]) (sc := defScope st_Device_lose_power) (by decide +kernel)) (fun _ _ _ _ _ => (pg_tup rfl (pgs_cons (pg_name (i := 4) sc_Device_lose_power.nd rfl (Or.inl rfl)) (pgs_cons (pg_name (i := 5) sc_Device_lose_power.nd rfl (Or.inl rfl)) pgs_nil)))) (fun _ _ _ _ _ => pts_one (pt_cmpR op_eq (pe_op op_modN (pe_op op_shr (pv 1) (pe_op op_modN (pv 4) pe_int)) pe_int) pe_int (nomark _))) (fun _ _ _ _ _ => (pv 5)))
    (pss_cons
    (ps_fld (pv 0) (pe_slice sl_list (pv 3) po_none (po_some (pe_un un_neg pe_int))) rfl)
    (pss_cons
    (ps_expr (pe_meth0 (pv 0) T.De.cl T.De.m_flush (ok_Device_flush T) (hr.mono (by decide)) T.De.flush.b .nil pass0))
    (pss_one
    (ps_if (pt_cmpR op_gt (pe_callB call_len_seq (by rfl) T.G.n_len PySem.boot_len (pa_cons (pv 3) pa_nil)) pe_int (nomark _)) (pss_one
    (ps_expr (pe_meth (pv 0) T.De.cl T.De.m_tear (ok_Device_tear T) (hr.mono (by decide)) T.De.tear.b .nil pass0 (pa_cons (pe_ix ix_list (pv 3) (pe_un un_neg pe_int) (fun _ _ => rfl)) (pa_cons (pv 2) pa_nil))))) pss_nil))))), ?_⟩)
  · obtain ⟨S, N, g, d, dx, kvs, cs, sk, m, n, rfl, _⟩ := h
    rfl
  · obtain ⟨S, N, g, d, dx, kvs, cs, sk, m, n, rfl, D, pr, lim, q⟩ := h
    have hl : cs.length = d.way.length := D.wayOk.length
    refine ⟨_, rfl, g.a, T.De.C, dx, _, _, rfl, D.obj, T.De.cl, T.De.n_coming, dF_coming, g.c, _, rfl, SqL.of D.way, fun A hA => ?_⟩
    refine lc_it walk_enum (fun i H' => Same H H' ∧ H' A = some (.lst ((sel m 0 (cs.take i)).map V.ref))) ⟨same_upd hA, upd_same⟩ (fun i H' _ ⟨sm, _⟩ => SqL.of (sm _ _ D.way)) ?_ ?_
    · rintro i y H' H'' hi ⟨sm, hD⟩ ⟨T0, x1, x2, rfl, hT, rfl, e1, e2⟩
      obtain rfl := Option.some.inj e1
      obtain ⟨t, x, rfl, ht, hx, _⟩ := way_get D e2
      rw [List.length_map] at hi
      have hA2 : upd H' T0 (.tup [.int (i : Int), .ref t]) A = _ := same_upd hT A _ hD
      refine ⟨T0, _, rfl, SqT.of upd_same, rfl, _, _, rfl, _, _, rfl, rfl, rfl, ?_⟩
      refine ⟨_, rfl, _, rfl, _, _, rfl, rfl, (by show (64 : Int) ≠ 0; decide), _, _, rfl, rfl, ?_, _, _, rfl, rfl, (by show (2 : Int) ≠ 0; decide), rfl, _, rfl, ?_⟩
      · show (0 : Int) ≤ (i : Int).fmod 64
        rw [Int.fmod_eq_emod_of_nonneg _ (by decide)]
        omega
      have hsn : sel m 0 (cs.take (i + 1)) = if m / 2 ^ (i % 64) % 2 = 1 then sel m 0 (cs.take i) ++ [t] else sel m 0 (cs.take i) := by
        rw [take_snoc ht, sel_snoc, List.length_take, Nat.zero_add, Nat.min_eq_left (by omega)]
      by_cases hb : m / 2 ^ (i % 64) % 2 = 1
      · refine if_t (decide_eq_true (congrArg V.int ((bit_eq m i).trans (by rw [hb]; rfl)))) ?_
        rw [if_pos hb] at hsn
        refine ⟨_, rfl, _, hA2, line_lt ?_, ?_, ?_⟩
        · rw [List.length_map]
          have := sel_len m 0 (cs.take i)
          rw [List.length_take] at this
          omega
        · exact fun q o e => by
            rw [upd_ne (ne_of_none e hA)]
            exact same_upd hT q o (sm q o e)
        · rw [upd_same, hsn, List.map_append]
          rfl
      · refine if_f (decide_eq_false fun z => hb (by have := (bit_eq m i).symm.trans (V.int.inj z); omega)) ?_
        rw [if_neg hb] at hsn
        rw [hsn]
        exact ⟨sm.trans (same_upd hT), hA2⟩
    · rintro H1 ⟨sm, hA1⟩
      rw [List.length_map, List.take_length] at hA1
      have D1 := D.same sm
      have w1 := sel_paired m 0 D1.wayOk
      refine ⟨_, rfl, _, rfl, _, rfl, A, _, rfl, SqL.of hA1, fun c hc => ?_⟩
      have sm2 := same_upd (o := .lst (cutV ((sel m 0 cs).map V.ref) none (some (-1)))) hc
      have D2 := D1.same sm2
      refine ⟨_, rfl, g.a, T.De.C, dx, _, rfl, D2.obj, T.De.cl, T.De.n_coming, (by show 5 < 1000; decide), ?_⟩
      rw [dF_putc]
      have ec : cutV ((sel m 0 cs).map V.ref) none (some (-1)) = ((sel m 0 cs).dropLast).map V.ref := by
        rw [cut_last, List.map_dropLast]
      have hc2 : upd H1 c (.lst (cutV ((sel m 0 cs).map V.ref) none (some (-1)))) c = some (.lst (((sel m 0 cs).dropLast).map V.ref)) := by rw [upd_same, ec]
      have sc : ¬ S c := fun z => pr.same sm c z hc
      have hlen := sel_len m 0 d.way
      have hzs := D.szs
      rcases paired_last w1 with ⟨ez1, ez2⟩ | ⟨l', t, m', x, ez1, ez2, w2, hx⟩
      · have D3 := D2.newWay (cs' := (sel m 0 cs).dropLast) (way' := (sel m 0 d.way).dropLast) hc2 sc (by rw [ez1, ez2]; exact .nil) (by rw [ez2]; show _ + 0 ≤ _; omega)
        have m1 : Moves H _ g ⟨g.a, g.s, c, g.k⟩ := (Moves.of_same sm).trans (Moves.new (H := H1) (g := g) (c' := c) (u := .lst (cutV ((sel m 0 cs).map V.ref) none (some (-1)))) (o := .ins T.De.C dx (dF d.blocks.length g.s c g.k d.gone)) hc)
        refine ⟨_, rfl, g.a, dx, _, rfl, D3.obj, dF_no, ?_⟩
        refine ⟨S, N, ⟨g.a, g.s, c, g.k⟩, _, dx, kvs, _, sk, rfl, D3, (fun z hz => m1.dom z (pr z hz)), (by rw [ez2]; show N + 0 < _; omega), fun H3 g3 kvs3 D4 lk m2 => ?_⟩
        have hA3 : H3 A = some (.lst []) := by
          refine m2.keep A _ ?_ ?_
          · rw [upd_ne (ne_of_none (H := H) (by exact D.obj) hA).symm, sm2 A _ hA1, ez1]
            rfl
          · rintro (z | z | z | z)
            · exact ne_of_none D.obj hA z.symm
            · exact ne_of_none D.sure hA z.symm
            · exact ne_of_none hA1 hc z
            · exact ne_of_none D.sick hA z.symm
        refine ⟨_, rfl, A, _, rfl, .inl (SqL.of hA3), _, _, rfl, rfl, _, rfl, if_f rfl ?_⟩
        refine q H3 g3 kvs3 ?_ (m1.trans m2)
        rw [arrive_eq, ez2]
        rw [settled_eq] at D4
        rw [ez2] at D4
        exact D4
      · have hd : (sel m 0 d.way).dropLast = m' := by rw [ez2, List.dropLast_concat]
        have hd2 : (sel m 0 cs).dropLast = l' := by rw [ez1, List.dropLast_concat]
        have hm' : m'.length + 1 ≤ d.way.length := by
          rw [ez2, List.length_append] at hlen
          exact hlen
        have D3 := D2.newWay (cs' := (sel m 0 cs).dropLast) (way' := (sel m 0 d.way).dropLast) hc2 sc (by rw [hd, hd2]; exact paired_imp (fun a b q => q.mono (fun b bs z => z.mono (sm2 b)) fun t xs => sm2 t _) w2) (by rw [hd]; omega)
        have m1 : Moves H _ g ⟨g.a, g.s, c, g.k⟩ := (Moves.of_same sm).trans (Moves.new (H := H1) (g := g) (c' := c) (u := .lst (cutV ((sel m 0 cs).map V.ref) none (some (-1)))) (o := .ins T.De.C dx (dF d.blocks.length g.s c g.k d.gone)) hc)
        have pr1 : Priv _ S := fun z hz => m1.dom z (pr z hz)
        refine ⟨_, rfl, g.a, dx, _, rfl, D3.obj, dF_no, ?_⟩
        refine ⟨S, N, ⟨g.a, g.s, c, g.k⟩, _, dx, kvs, _, sk, rfl, D3, pr1, (by rw [hd]; show N + m'.length < _; omega), fun H3 g3 kvs3 D4 lk m2 => ?_⟩
        have hA3 : H3 A = some (.lst ((l' ++ [t]).map V.ref)) := by
          refine m2.keep A _ ?_ ?_
          · rw [upd_ne (ne_of_none (H := H) (by exact D.obj) hA).symm, sm2 A _ hA1, ez1]
          · rintro (z | z | z | z)
            · exact ne_of_none D.obj hA z.symm
            · exact ne_of_none D.sure hA z.symm
            · exact ne_of_none hA1 hc z
            · exact ne_of_none D.sick hA z.symm
        have lt : (0 : Int) < ((((l' ++ [t]).map V.ref).length : Nat) : Int) := by
          rw [List.length_map, List.length_append, List.length_singleton]
          omega
        refine ⟨_, rfl, A, _, rfl, .inl (SqL.of hA3), _, _, rfl, rfl, _, rfl, if_t (decide_eq_true lt) ?_⟩
        refine ⟨_, rfl, g.a, dx, _, rfl, (m2.a ▸ D4.obj), dF_no, ?_⟩
        have hat : atI ((l' ++ [t]).map V.ref) (-1) = some (.ref t) := by
          rw [List.map_append]
          exact atI_last _ _
        refine ⟨_, rfl, _, rfl, A, _, _, _, rfl, rfl, SqL.of hA3, hat, _, rfl, ?_⟩
        have hx3 : WayAt H3 S d.blocks.length t x := ((hx.mono (fun b bs z => z.mono (sm2 b)) fun t xs => sm2 t _).mono (fun b bs z => D2.keepB (mutA g) z) (fun t xs z => D2.keepT (mutA g) z)).mono (fun b bs z => D3.moveB m2 z) fun t xs z => D3.moveT m2 z
        have e3 : g3.a = g.a := m2.a
        refine ⟨S, N, g3, _, dx, kvs3, [], sk, t, x, n, (by rw [e3]; rfl), D4, (fun z hz => m2.dom z (pr1 z hz)), by omega, ?_, fun H5 kvs5 D5 lk5 m3 => ?_⟩
        · rw [settled_eq]
          show WayAt H3 S (stores d.blocks _).length t x
          rw [stores_len]
          exact hx3
        · refine q H5 g3 kvs5 ?_ (m1.trans (m2.trans m3))
          rw [arrive_eq, ez2, List.getLast?_concat, List.dropLast_concat]
          rw [settled_eq, hd] at D5
          refine D5.size ?_ D.szk
          rw [hd] at lk
          show kvs5.length + 0 ≤ N
          have lk2 : kvs3.length ≤ kvs.length + m'.length := lk
          omega
end
end Mp
namespace Mp
open PySem PySem.Spec PyProof.Rows L2
open Gv (Bytes Dev zeroBlock isBlock Sim Happens)
/-! ### the line on the heap -/
def lF (dv en : Addr) (n : Nat) : List (Str × V) := [("devices", .ref dv), ("entries", .ref en), ("ask_count", nv n)]
section
variable {dv en : Addr} {n : Nat}
theorem lF_no {m : Str} (h : (["devices", "entries", "ask_count"] : List Str).contains m = false := by decide +kernel) : (lF dv en n).lookup m = none := look_no h
theorem lF_devices : List.lookup ("devices" : Str) (lF dv en n) = some (.ref dv) := lk_here
theorem lF_entries : List.lookup ("entries" : Str) (lF dv en n) = some (.ref en) := (lk_past (by decide +kernel)).trans lk_here
theorem lF_asks : List.lookup ("ask_count" : Str) (lF dv en n) = some (nv n) := (lk_past (by decide +kernel)).trans ((lk_past (by decide +kernel)).trans lk_here)
theorem lF_put {m : Nat} : putF "ask_count" (nv m) (lF dv en n) = lF dv en m := (put_past (by decide +kernel)).trans (congrArg _ ((put_past (by decide +kernel)).trans (congrArg _ put_here)))
end
def EntAt (H : Hp) (S : Addr → Prop) (n : Nat) (o : Option V) (r : Option Happens) : Prop :=
  (∃ e l hp, o = some (.ref e) ∧ r = some hp ∧ H e = some (.lst (nvs l)) ∧ ¬ S e ∧ Gv01Neutral.happens l = some (n, hp)) ∨ (o = none ∧ r = none)
/-- what happens at the ask that comes -/
def hapAt (s : Sim) : Option Happens := (s.script.find? fun x => x.1 == s.asks).map fun x => x.2
structure LineIn (CL CD : Addr) (H : Hp) (S : Addr → Prop) (N : Nat) (la : Addr) (sim : Sim) (dx dv en : Addr) (gs : List Gh) (ekvs : List (Key × V)) : Prop where
  obj : H la = some (.ins CL dx (lF dv en sim.asks))
  devs : H dv = some (.lst (gs.map fun g => V.ref g.a))
  ents : H en = some (.dK ekvs)
  avl : ¬ S la
  avd : ¬ S dv
  ave : ¬ S en
  len : gs.length = sim.devs.length
  dev : ∀ (i : Nat) g d, gs[i]? = some g → sim.devs[i]? = some d → DevAt CD H S N g d
  apart : ∀ (i j : Nat) g g' q, gs[i]? = some g → gs[j]? = some g' → g.mut q → g'.mut q → i = j
  out : ∀ (i : Nat) g, gs[i]? = some g → ¬ g.mut la ∧ ¬ g.mut dv ∧ ¬ g.mut en
  ent : ∀ n : Nat, EntAt H S n (valV ekvs (.inl (n : Int))) ((sim.script.find? fun x => x.1 == n).map fun x => x.2)
def LineAt (CL CD : Addr) (H : Hp) (S : Addr → Prop) (N : Nat) (la : Addr) (sim : Sim) : Prop := ∃ dx dv en gs ekvs, LineIn CL CD H S N la sim dx dv en gs ekvs
/-- what an operation on the line leaves to its caller -/
structure Fr (S : Addr → Prop) (H H' : Hp) : Prop where
  keep : ∀ q o, S q → H q = some o → H' q = some o
  intl : ∀ b ns, ns ≠ [] → H b = some (.lst (nvs ns)) → H' b = some (.lst (nvs ns))
  dom : ∀ q, H q ≠ none → H' q ≠ none
theorem Fr.refl (S : Addr → Prop) (H : Hp) : Fr S H H := ⟨fun _ _ _ e => e, fun _ _ _ e => e, fun _ e => e⟩
theorem Fr.trans {S : Addr → Prop} {H H1 H2 : Hp} (a : Fr S H H1) (b : Fr S H1 H2) : Fr S H H2 := ⟨fun q o s e => b.keep q o s (a.keep q o s e), fun q ns n e => b.intl q ns n (a.intl q ns n e), fun q e => b.dom q (a.dom q e)⟩
theorem Fr.of_same {S : Addr → Prop} {H H' : Hp} (k : Same H H') : Fr S H H' := ⟨fun q o _ e => k q o e, fun b ns _ e => k b _ e, dom_same k⟩
theorem Fr.priv {S : Addr → Prop} {H H' : Hp} (a : Fr S H H') (p : Priv H S) : Priv H' S := fun q hq => a.dom q (p q hq)
theorem BlkAt.ne_nil {H : Hp} {b : Addr} {bs : Bytes} (h : BlkAt H b bs) : bs ≠ [] := fun e => by
  have := h.len
  rw [e] at this
  cases this
theorem Fr.blk {S : Addr → Prop} {H H' : Hp} (a : Fr S H H') {b : Addr} {bs : Bytes} (h : BlkAt H b bs) : BlkAt H' b bs := ⟨a.intl b bs h.ne_nil h.at_, h.ok⟩
theorem ints_ne {H : Hp} {b c : Addr} {ns : List Nat} {cs : List Addr} (n : ns ≠ []) (h : H b = some (.lst (nvs ns))) (hc : H c = some (.lst (cs.map V.ref))) : b ≠ c := by
  refine ne_of h hc fun e => ?_
  have e1 : nvs ns = cs.map V.ref := HO.lst.inj e
  match ns, cs, n, e1 with
  | [], _, n, _ => exact n rfl
  | x :: r, [], _, e1 => simp at e1
  | x :: r, y :: z, _, e1 =>
    have e1 : nv x :: nvs r = V.ref y :: z.map V.ref := e1
    cases (List.cons.inj e1).1
theorem DevIn.intL {C : Addr} {H : Hp} {S : Addr → Prop} {N : Nat} {g : Gh} {d : Dev} {dx : Addr} {kvs sk : List (Key × V)} {cs : List Addr} (h : DevIn C H S N g d dx kvs cs sk) {b : Addr} {ns : List Nat} (n : ns ≠ []) (q : H b = some (.lst (nvs ns))) : ¬ g.mut b := by
  rintro (e | e | e | e)
  · exact ne_of q h.obj (by intro z; cases z) e
  · exact ne_of q h.sure (by intro z; cases z) e
  · exact ints_ne n q h.way e
  · exact ne_of q h.sick (by intro z; cases z) e
theorem DevIn.fr {C : Addr} {H H' : Hp} {S : Addr → Prop} {N : Nat} {g g' : Gh} {d : Dev} {dx : Addr} {kvs sk : List (Key × V)} {cs : List Addr} (h : DevIn C H S N g d dx kvs cs sk) (m : Moves H H' g g') : Fr S H H' :=
  ⟨fun q o s e => m.keep q o e fun z => h.av q z s, fun b ns n e => m.keep b _ e (h.intL n e), m.dom⟩
theorem happens_ne {l : List Nat} {n : Nat} {hp : Happens} (h : Gv01Neutral.happens l = some (n, hp)) : l ≠ [] := by
  rintro rfl
  cases h
section
variable {CL CD : Addr} {H H' : Hp} {S : Addr → Prop} {N M : Nat} {la : Addr} {sim : Sim} {dx dv en : Addr} {gs : List Gh} {ekvs : List (Key × V)}
theorem EntAt.mono {n : Nat} {o : Option V} {r : Option Happens} (h : EntAt H S n o r) (k : ∀ b ns, ns ≠ [] → H b = some (.lst (nvs ns)) → H' b = some (.lst (nvs ns))) : EntAt H' S n o r := by
  rcases h with ⟨e, l, hp, h1, h2, h3, h4, h5⟩ | h
  · exact .inl ⟨e, l, hp, h1, h2, k e l (happens_ne h5) h3, h4, h5⟩
  · exact .inr h
theorem LineIn.more (L : LineIn CL CD H S N la sim dx dv en gs ekvs) (l : N ≤ M) : LineIn CL CD H S M la sim dx dv en gs ekvs :=
  { L with dev := fun i g d h1 h2 => let ⟨dx, kvs, cs, sk, D⟩ := L.dev i g d h1 h2; ⟨dx, kvs, cs, sk, D.more l⟩ }
theorem LineAt.more (L : LineAt CL CD H S N la sim) (l : N ≤ M) : LineAt CL CD H S M la sim :=
  let ⟨dx, dv, en, gs, ekvs, L⟩ := L; ⟨dx, dv, en, gs, ekvs, L.more l⟩
/-- all that stood stands -/
theorem LineIn.same (L : LineIn CL CD H S N la sim dx dv en gs ekvs) (k : Same H H') : LineIn CL CD H' S N la sim dx dv en gs ekvs :=
  { L with
    obj := k _ _ L.obj
    devs := k _ _ L.devs
    ents := k _ _ L.ents
    dev := fun i g d h1 h2 => let ⟨dx, kvs, cs, sk, D⟩ := L.dev i g d h1 h2; ⟨dx, kvs, cs, sk, D.same k⟩
    ent := fun n => (L.ent n).mono fun b ns _ => k b _ }
theorem LineAt.same (L : LineAt CL CD H S N la sim) (k : Same H H') : LineAt CL CD H' S N la sim :=
  let ⟨dx, dv, en, gs, ekvs, L⟩ := L; ⟨dx, dv, en, gs, ekvs, L.same k⟩
/-- what is the caller's own changes: the line stands -/
theorem DevIn.priv {C : Addr} {g : Gh} {d : Dev} {dx : Addr} {kvs sk : List (Key × V)} {cs : List Addr} {S' : Addr → Prop} (h : DevIn C H S N g d dx kvs cs sk) (k : ∀ q o, ¬ S q → H q = some o → H' q = some o) (hs : ∀ q, ¬ S q → H q ≠ none → ¬ S' q) : DevIn C H' S' N g d dx kvs cs sk where
  obj := k _ _ (h.av _ (.inl rfl)) h.obj
  sure := k _ _ (h.av _ (.inr (.inl rfl))) h.sure
  way := k _ _ (h.av _ (.inr (.inr (.inl rfl)))) h.way
  sick := k _ _ (h.av _ (.inr (.inr (.inr rfl)))) h.sick
  ne := h.ne
  av := fun q m => hs q (h.av q m) (by
    rcases m with e | e | e | e <;> rw [e]
    · rw [h.obj]; simp
    · rw [h.sure]; simp
    · rw [h.way]; simp
    · rw [h.sick]; simp)
  sureOk := fun n hn => by
    rcases h.sureOk n hn with ⟨b, e, hb, sb⟩ | z
    · exact .inl ⟨b, e, ⟨k _ _ sb hb.at_, hb.ok⟩, hs b sb (by rw [hb.at_]; simp)⟩
    · exact .inr z
  wayOk := paired_imp (fun t x ⟨b, e, hb, s1, s2, l⟩ => ⟨b, k _ _ s1 e, ⟨k _ _ s2 hb.at_, hb.ok⟩, hs t s1 (by rw [e]; simp), hs b s2 (by rw [hb.at_]; simp), l⟩) h.wayOk
  sickOk := h.sickOk
  szs := h.szs
  szk := h.szk
theorem LineIn.priv {S' : Addr → Prop} (L : LineIn CL CD H S N la sim dx dv en gs ekvs) (k : ∀ q o, ¬ S q → H q = some o → H' q = some o) (hs : ∀ q, ¬ S q → H q ≠ none → ¬ S' q) : LineIn CL CD H' S' N la sim dx dv en gs ekvs where
  obj := k _ _ L.avl L.obj
  devs := k _ _ L.avd L.devs
  ents := k _ _ L.ave L.ents
  avl := hs _ L.avl (by rw [L.obj]; simp)
  avd := hs _ L.avd (by rw [L.devs]; simp)
  ave := hs _ L.ave (by rw [L.ents]; simp)
  len := L.len
  dev := fun i g d h1 h2 => let ⟨dx, kvs, cs, sk, D⟩ := L.dev i g d h1 h2; ⟨dx, kvs, cs, sk, D.priv k hs⟩
  apart := L.apart
  out := L.out
  ent := fun n => by
    rcases L.ent n with ⟨e, l, hp, h1, h2, h3, h4, h5⟩ | h
    · exact .inl ⟨e, l, hp, h1, h2, k _ _ h4 h3, hs e h4 (by rw [h3]; simp), h5⟩
    · exact .inr h
theorem LineAt.priv {S' : Addr → Prop} (L : LineAt CL CD H S N la sim) (k : ∀ q o, ¬ S q → H q = some o → H' q = some o) (hs : ∀ q, ¬ S q → H q ≠ none → ¬ S' q) : LineAt CL CD H' S' N la sim :=
  let ⟨dx, dv, en, gs, ekvs, L⟩ := L; ⟨dx, dv, en, gs, ekvs, L.priv k hs⟩
theorem set_get {α : Type} {l : List α} {i j : Nat} {x y : α} (h : (l.set i x)[j]? = some y) : (i = j ∧ y = x) ∨ (i ≠ j ∧ l[j]? = some y) := by
  rw [List.getElem?_set] at h
  by_cases e : i = j
  · rw [if_pos e] at h
    split at h
    · exact .inl ⟨e, (Option.some.inj h).symm⟩
    · cases h
  · rw [if_neg e] at h
    exact .inr ⟨e, h⟩
theorem Moves.mut_of {g g' : Gh} (m : Moves H H' g g') {q : Addr} (h : g'.mut q) : g.mut q ∨ H q = none := by
  rcases h with e | e | e | e
  · exact .inl (.inl (e.trans m.a))
  · exact .inl (.inr (.inl (e.trans m.s)))
  · rcases m.c with z | z
    · exact .inl (.inr (.inr (.inl (e.trans z))))
    · exact .inr (by rw [e]; exact z)
  · exact .inl (.inr (.inr (.inr (e.trans m.k))))
/-- one device has changed -/
theorem LineIn.step (L : LineIn CL CD H S N la sim dx dv en gs ekvs) {i : Nat} {g g' : Gh} {d d' : Dev} (hi : gs[i]? = some g) (hd : sim.devs[i]? = some d) (D' : DevAt CD H' S M g' d') (m : Moves H H' g g') (l : N ≤ M) :
    LineIn CL CD H' S M la { sim with devs := sim.devs.set i d' } dx dv en (gs.set i g') ekvs := by
  obtain ⟨_, _, _, _, D⟩ := L.dev i g d hi hd
  have hil : i < gs.length := (List.getElem?_eq_some_iff.mp hi).1
  have tracked : ∀ (j : Nat) (gj : Gh), gs[j]? = some gj → ∀ q, gj.mut q → H q ≠ none := fun j gj hj q hq => by
    have hjl : j < gs.length := (List.getElem?_eq_some_iff.mp hj).1
    obtain ⟨_, _, _, _, Dj⟩ := L.dev j gj _ hj (List.getElem?_eq_getElem (by rw [← L.len]; exact hjl))
    rcases hq with e | e | e | e <;> rw [e]
    · rw [Dj.obj]; simp
    · rw [Dj.sure]; simp
    · rw [Dj.way]; simp
    · rw [Dj.sick]; simp
  refine ⟨m.keep _ _ L.obj (L.out i g hi).1, ?_, m.keep _ _ L.ents (L.out i g hi).2.2, L.avl, L.avd, L.ave, by rw [List.length_set, L.len]; exact (List.length_set ..).symm, ?_, ?_, ?_, fun n => (L.ent n).mono (D.fr m).intl⟩
  · have e : (gs.set i g').map (fun g => V.ref g.a) = gs.map fun g => V.ref g.a := by
      rw [List.map_set, m.a]
      apply List.ext_getElem?
      intro n
      rw [List.getElem?_set]
      by_cases z : i = n
      · subst z
        rw [if_pos rfl, List.length_map, if_pos hil, List.getElem?_map, hi]
        rfl
      · rw [if_neg z]
    rw [e]
    exact m.keep _ _ L.devs (L.out i g hi).2.1
  · intro j gj dj h1 h2
    rcases set_get h1 with ⟨rfl, rfl⟩ | ⟨n1, h1⟩
    · rcases set_get h2 with ⟨_, rfl⟩ | ⟨n2, _⟩
      · exact D'
      · exact absurd rfl n2
    · rcases set_get h2 with ⟨e, _⟩ | ⟨_, h2⟩
      · exact absurd e n1
      · obtain ⟨dxj, kj, cj, sj, Dj⟩ := L.dev j gj dj h1 h2
        exact ⟨dxj, kj, cj, sj, (Dj.mono (fun q hq o e => m.keep q o e fun z => n1 (L.apart i j g gj q hi h1 z hq)) (fun b bs z => D.moveB m z) (fun t xs z => D.moveT m z)).more l⟩
  · intro j k gj gk q h1 h2 m1 m2
    rcases set_get h1 with ⟨e1, f1⟩ | ⟨n1, f1⟩ <;> rcases set_get h2 with ⟨e2, f2⟩ | ⟨n2, f2⟩
    · rw [← e1, ← e2]
    · rw [f1] at m1
      rcases m.mut_of m1 with z | z
      · exact absurd (L.apart i k g gk q hi f2 z m2) n2
      · exact absurd z (tracked k gk f2 q m2)
    · rw [f2] at m2
      rcases m.mut_of m2 with z | z
      · exact absurd (L.apart j i gj g q f1 hi m1 z).symm n1
      · exact absurd z (tracked j gj f1 q m1)
    · exact L.apart j k gj gk q f1 f2 m1 m2
  · intro j gj h1
    rcases set_get h1 with ⟨e1, rfl⟩ | ⟨n1, h1⟩
    · obtain ⟨o1, o2, o3⟩ := L.out i g hi
      refine ⟨fun z => ?_, fun z => ?_, fun z => ?_⟩
      · rcases m.mut_of z with w | w
        · exact o1 w
        · rw [L.obj] at w; cases w
      · rcases m.mut_of z with w | w
        · exact o2 w
        · rw [L.devs] at w; cases w
      · rcases m.mut_of z with w | w
        · exact o3 w
        · rw [L.ents] at w; cases w
    · exact L.out j gj h1
/-- one ask more is counted -/
theorem LineIn.count (L : LineIn CL CD H S N la sim dx dv en gs ekvs) : LineIn CL CD (upd H la (.ins CL dx (lF dv en (sim.asks + 1)))) S N la { sim with asks := sim.asks + 1 } dx dv en gs ekvs where
  obj := upd_same
  devs := by rw [upd_ne (ne_of L.devs L.obj (by intro z; cases z))]; exact L.devs
  ents := by rw [upd_ne (ne_of L.ents L.obj (by intro z; cases z))]; exact L.ents
  avl := L.avl
  avd := L.avd
  ave := L.ave
  len := L.len
  dev := fun i g d h1 h2 => by
    obtain ⟨dxj, kj, cj, sj, D⟩ := L.dev i g d h1 h2
    refine ⟨dxj, kj, cj, sj, D.mono (fun q hq o e => ?_) (fun b bs z => z.upd (ne_of z.at_ L.obj (by intro z; cases z))) (fun t xs z => ?_)⟩
    · rw [upd_ne (fun z => (L.out i g h1).1 (by rw [← z]; exact hq))]
      exact e
    · rw [upd_ne (ne_of z L.obj (by intro z; cases z))]
      exact z
  apart := L.apart
  out := L.out
  ent := fun n => (L.ent n).mono fun b ns _ e => by
    rw [upd_ne (ne_of e L.obj (by intro z; cases z))]
    exact e
theorem LineIn.countFr (L : LineIn CL CD H S N la sim dx dv en gs ekvs) {o : HO} : Fr S H (upd H la o) :=
  ⟨fun q u s e => by rw [upd_ne (fun z => L.avl (by rw [← z]; exact s))]; exact e, fun b ns _ e => by rw [upd_ne (ne_of e L.obj (by intro z; cases z))]; exact e, dom_upd⟩
end
end Mp
namespace Mp
open PySem PySem.Spec PyProof.Rows L2
open Gv (Bytes Dev zeroBlock isBlock Sim Happens)
def struck (h : Option Happens) (d : Dev) : Dev := match h with
  | some .goes => { d with gone := true }
  | some (.sick k) => { d with sick := k :: d.sick }
  | some (.rot k j v) => { d.settled with blocks := d.settled.blocks.set k ((d.now k).set j (v % 256)) }
  | _ => d
def code : Option Happens → Int
  | none => -1
  | some .fail => 0
  | some .taken => 1
  | some .goes => 2
  | some (.sick _) => 3
  | some (.rot _ _ _) => 4
  | some (.off _ _) => 5
def isOff : Option Happens → Bool
  | some (.off _ _) => true
  | _ => false
section
variable {P : Program} {w : World} {K : PySem.W.Frag} {mg : Str → Option Value} {base : Heap}
/-! ### there, alive -/
def spThere (CL : Addr) : Sp := fun vs H Q _ => ∃ la dx dv en n xs, ∃ d : Nat, vs = [.ref la, nv d] ∧ H la = some (.ins CL dx (lF dv en n)) ∧ H dv = some (.lst xs) ∧ Q (.bl (decide (d < xs.length))) H
theorem ok_Line_there (T : Txt K mg) : FnOk P w K mg base CX0 1 T.Li.there.f T.Li.there.fd ["self", "d"] (spThere T.Li.C) := by
  refine T.Li.there.F.ok sc_Line_there (fun vs H Q E h => ?_) (fun cdv A outer s H vs Q E hr h => ⟨_, (pss_one
    (ps_ret (pe_cmpR op_lt (pv 1) (pe_callB call_len_seq (by rfl) T.G.n_len PySem.boot_len (pa_cons (pe_fld (pv 0) rfl) pa_nil)) (nomark _)))), ?_⟩)
  · obtain ⟨la, dx, dv, en, n, xs, d, rfl, _⟩ := h
    rfl
  · obtain ⟨la, dx, dv, en, n, xs, d, rfl, h1, h2, q⟩ := h
    refine ⟨_, rfl, _, rfl, la, T.Li.C, dx, _, _, rfl, h1, T.Li.cl, T.Li.n_devices, lF_devices, dv, _, rfl, .inl (SqL.of h2), _, _, rfl, rfl, ?_⟩
    have e : decide ((d : Int) < (xs.length : Int)) = decide (d < xs.length) := decide_eq_decide.mpr (by omega)
    show Q (.bl (decide ((d : Int) < (xs.length : Int)))) H
    rw [e]
    exact q
theorem LineIn.get {CL CD : Addr} {H : Hp} {S : Addr → Prop} {N : Nat} {la : Addr} {sim : Sim} {dx dv en : Addr} {gs : List Gh} {ekvs : List (Key × V)} (L : LineIn CL CD H S N la sim dx dv en gs ekvs) {i : Nat} (hi : i < sim.devs.length) :
    ∃ g d, gs[i]? = some g ∧ sim.devs[i]? = some d ∧ sim.devs.getD i (Gv.blank 0) = d ∧ (gs.map fun g => V.ref g.a)[i]? = some (.ref g.a) ∧ DevAt CD H S N g d := by
  have hg : i < gs.length := by rw [L.len]; exact hi
  have h1 : gs[i]? = some gs[i] := List.getElem?_eq_getElem hg
  have h2 : sim.devs[i]? = some sim.devs[i] := List.getElem?_eq_getElem hi
  exact ⟨_, _, h1, h2, by rw [List.getD_eq_getElem?_getD, h2]; rfl, by rw [List.getElem?_map, h1]; rfl, L.dev i _ _ h1 h2⟩
def spAlive (CL CD : Addr) : Sp := fun vs H Q _ => ∃ S N la sim, ∃ d : Nat, vs = [.ref la, nv d] ∧ LineAt CL CD H S N la sim ∧ Q (.bl (decide (d < sim.devs.length) && !(sim.devs.getD d (Gv.blank 0)).gone)) H
theorem ok_Line_alive (T : Txt K mg) : FnOk P w K mg base CX0 2 T.Li.alive.f T.Li.alive.fd ["self", "d"] (spAlive T.Li.C T.De.C) := by
  refine T.Li.alive.F.ok sc_Line_alive (fun vs H Q E h => ?_) (fun cdv A outer s H vs Q E hr h => ⟨_, (pss_one
    (ps_ret (pe_and (pe_meth (pv 0) T.Li.cl T.Li.m_there (ok_Line_there T) (hr.mono (by decide)) T.Li.there.b .nil pass0 (pa_cons (pv 1) pa_nil)) (pe_one (pe_not (pe_fld (pe_ix ix_list (pe_fld (pv 0) rfl) (pv 1) (fun _ _ => rfl)) rfl)))))), ?_⟩)
  · obtain ⟨S, N, la, sim, d, rfl, _⟩ := h
    rfl
  · obtain ⟨S, N, la, sim, d, rfl, ⟨dx, dv, en, gs, ekvs, L⟩, q⟩ := h
    refine ⟨_, rfl, la, dx, _, rfl, L.obj, lF_no, _, rfl, ?_⟩
    refine ⟨la, dx, dv, en, _, _, d, rfl, L.obj, L.devs, _, rfl, ?_⟩
    rw [List.length_map, L.len]
    by_cases hd : d < sim.devs.length
    · refine if_t (decide_eq_true hd) ?_
      obtain ⟨g, dd, h1, h2, h3, h4, dx', kvs, cs, sk, D⟩ := L.get hd
      refine ⟨_, rfl, la, T.Li.C, dx, _, _, rfl, L.obj, T.Li.cl, T.Li.n_devices, lF_devices, _, rfl, dv, _, _, _, rfl, rfl, SqL.of L.devs, atI_nat h4, ?_⟩
      refine ⟨g.a, T.De.C, dx', _, _, rfl, D.obj, T.De.cl, T.De.n_gone, dF_gone, _, rfl, ?_⟩
      rw [h3, decide_eq_true hd] at q
      exact q
    · refine if_f (decide_eq_false hd) ?_
      rw [decide_eq_false hd] at q
      exact q
/-! ### strike -/
def spStrike (CD : Addr) : Sp := fun vs H Q _ => ∃ S N g d dx kvs cs sk e l, ∃ n : Nat, ∃ hp, vs = [.ref g.a, .ref e] ∧ DevIn CD H S N g d dx kvs cs sk ∧ Priv H S ∧ N + d.way.length < 8000000 ∧ H e = some (.lst (nvs l)) ∧ Gv01Neutral.happens l = some (n, hp) ∧ isOff (some hp) = false ∧
  ∀ H' g', DevAt CD H' S (N + 1) g' (struck (some hp) d) → Moves H H' g g' → Q .non H'
theorem happens_cases {l : List Nat} {n : Nat} {hp : Happens} (h : Gv01Neutral.happens l = some (n, hp)) :
    (l = [n, 0] ∧ hp = .fail) ∨ (l = [n, 1] ∧ hp = .taken) ∨ (l = [n, 2] ∧ hp = .goes) ∨ (∃ k, l = [n, 3, k] ∧ hp = .sick k) ∨ (∃ k j v, l = [n, 4, k, j, v] ∧ hp = .rot k j v) ∨ ∃ m t, l = [n, 5, m, t] ∧ hp = .off m t := by
  unfold Gv01Neutral.happens at h
  split at h
  all_goals first | (cases h; done) | (injection h with h; injection h with h1 h2; subst h1 h2; simp)
theorem int_ne {a b : Int} (h : a ≠ b) : decide (V.int a = V.int b) = false := decide_eq_false fun z => h (V.int.inj z)
theorem int_eq (a : Int) : decide (V.int a = V.int a) = true := decide_eq_true rfl
theorem ok_strike (T : Txt K mg) : FnOk P w K mg base CX0 4 T.F.strike.f T.F.strike.fd ["device", "entry"] (spStrike T.De.C) := by
  refine T.F.strike.F.ok sc_strike (fun vs H Q E h => ?_) (fun cdv A outer s H vs Q E hr h => ⟨_, (pss_one
    (ps_if (pt_cmpR op_eq (pe_ix ix_list (pv 1) pe_int (fun _ _ => rfl)) (pe_gint T.G.c_GOES) (nomark _)) (pss_one
    (ps_expr (pe_meth0 (pv 0) T.De.cl T.De.m_leave (ok_Device_leave T) (hr.mono (by decide)) T.De.leave.b .nil pass0))) (pss_one
    (ps_if (pt_cmpR op_eq (pe_ix ix_list (pv 1) pe_int (fun _ _ => rfl)) (pe_gint T.G.c_SICK) (nomark _)) (pss_one
    (ps_expr (pe_meth (pv 0) T.De.cl T.De.m_sicken (ok_Device_sicken T) (hr.mono (by decide)) T.De.sicken.b .nil pass0 (pa_cons (pe_ix ix_list (pv 1) pe_int (fun _ _ => rfl)) pa_nil)))) (pss_one
    (ps_if (pt_cmpR op_eq (pe_ix ix_list (pv 1) pe_int (fun _ _ => rfl)) (pe_gint T.G.c_ROT) (nomark _)) (pss_one
    (ps_expr (pe_meth (pv 0) T.De.cl T.De.m_rot (ok_Device_rot T) (hr.mono (by decide)) T.De.rot.b .nil pass0 (pa_cons (pe_ix ix_list (pv 1) pe_int (fun _ _ => rfl)) (pa_cons (pe_ix ix_list (pv 1) pe_int (fun _ _ => rfl)) (pa_cons (pe_ix ix_list (pv 1) pe_int (fun _ _ => rfl)) pa_nil)))))) pss_nil)))))), ?_⟩)
  · obtain ⟨S, N, g, d, dx, kvs, cs, sk, e, l, n, hp, rfl, _⟩ := h
    rfl
  · obtain ⟨S, N, g, d, dx, kvs, cs, sk, e, l, n, hp, rfl, D, pr, lim, he, hh, nf, q⟩ := h
    rcases happens_cases hh with ⟨rfl, rfl⟩ | ⟨rfl, rfl⟩ | ⟨rfl, rfl⟩ | ⟨k, rfl, rfl⟩ | ⟨k, j, v, rfl, rfl⟩ | ⟨m, t, rfl, rfl⟩
    · refine ⟨_, rfl, e, _, _, _, rfl, rfl, SqL.of he, atI_nat (j := 1) rfl, rfl, _, rfl, if_f (int_ne (by decide)) ?_⟩
      refine ⟨_, rfl, e, _, _, _, rfl, rfl, SqL.of he, atI_nat (j := 1) rfl, rfl, _, rfl, if_f (int_ne (by decide)) ?_⟩
      refine ⟨_, rfl, e, _, _, _, rfl, rfl, SqL.of he, atI_nat (j := 1) rfl, rfl, _, rfl, if_f (int_ne (by decide)) ?_⟩
      exact q H g ⟨dx, kvs, cs, sk, D.more (Nat.le_succ N)⟩ (Moves.refl H g)
    · refine ⟨_, rfl, e, _, _, _, rfl, rfl, SqL.of he, atI_nat (j := 1) rfl, rfl, _, rfl, if_f (int_ne (by decide)) ?_⟩
      refine ⟨_, rfl, e, _, _, _, rfl, rfl, SqL.of he, atI_nat (j := 1) rfl, rfl, _, rfl, if_f (int_ne (by decide)) ?_⟩
      refine ⟨_, rfl, e, _, _, _, rfl, rfl, SqL.of he, atI_nat (j := 1) rfl, rfl, _, rfl, if_f (int_ne (by decide)) ?_⟩
      exact q H g ⟨dx, kvs, cs, sk, D.more (Nat.le_succ N)⟩ (Moves.refl H g)
    · refine ⟨_, rfl, e, _, _, _, rfl, rfl, SqL.of he, atI_nat (j := 1) rfl, rfl, _, rfl, if_t (int_eq _) ?_⟩
      refine ⟨_, rfl, g.a, dx, _, rfl, D.obj, dF_no, ?_⟩
      exact ⟨S, N, g, d, dx, kvs, cs, sk, rfl, D, fun H' D' m => q H' g ⟨dx, kvs, cs, sk, D'.more (Nat.le_succ N)⟩ m⟩
    · refine ⟨_, rfl, e, _, _, _, rfl, rfl, SqL.of he, atI_nat (j := 1) rfl, rfl, _, rfl, if_f (int_ne (by decide)) ?_⟩
      refine ⟨_, rfl, e, _, _, _, rfl, rfl, SqL.of he, atI_nat (j := 1) rfl, rfl, _, rfl, if_t (int_eq _) ?_⟩
      refine ⟨_, rfl, g.a, dx, _, rfl, D.obj, dF_no, _, rfl, e, _, _, _, rfl, rfl, SqL.of he, atI_nat (j := 2) rfl, ?_⟩
      exact ⟨S, N, g, d, dx, kvs, cs, sk, k, rfl, D, by omega, fun H' sk' D' m => q H' g ⟨dx, kvs, cs, sk', D'⟩ m⟩
    · refine ⟨_, rfl, e, _, _, _, rfl, rfl, SqL.of he, atI_nat (j := 1) rfl, rfl, _, rfl, if_f (int_ne (by decide)) ?_⟩
      refine ⟨_, rfl, e, _, _, _, rfl, rfl, SqL.of he, atI_nat (j := 1) rfl, rfl, _, rfl, if_f (int_ne (by decide)) ?_⟩
      refine ⟨_, rfl, e, _, _, _, rfl, rfl, SqL.of he, atI_nat (j := 1) rfl, rfl, _, rfl, if_t (int_eq _) ?_⟩
      refine ⟨_, rfl, g.a, dx, _, rfl, D.obj, dF_no, _, rfl, e, _, _, _, rfl, rfl, SqL.of he, atI_nat (j := 2) rfl, _, rfl, e, _, _, _, rfl, rfl, SqL.of he, atI_nat (j := 3) rfl, _, rfl, e, _, _, _, rfl, rfl, SqL.of he, atI_nat (j := 4) rfl, ?_⟩
      exact ⟨S, N, g, d, dx, kvs, cs, sk, k, j, v, rfl, D, pr, by omega, fun H' g' kvs' D' m => q H' g' ⟨dx, kvs', [], sk, D'⟩ m⟩
    · cases nf
/-! ### switch_off -/
def offTo (devs : List Dev) (m t i : Nat) : List Dev := (devs.take i).map (fun d => Gv.arrive d m t) ++ devs.drop i
theorem offTo_zero (devs : List Dev) (m t : Nat) : offTo devs m t 0 = devs := rfl
theorem offTo_all (devs : List Dev) (m t : Nat) : offTo devs m t devs.length = devs.map fun d => Gv.arrive d m t := by
  unfold offTo
  rw [List.take_length, List.drop_length, List.append_nil]
theorem offTo_len (devs : List Dev) (m t i : Nat) : (offTo devs m t i).length = devs.length := by
  unfold offTo
  rw [List.length_append, List.length_map, List.length_take, List.length_drop]
  omega
theorem offTo_get (devs : List Dev) (m t i : Nat) : (offTo devs m t i)[i]? = devs[i]? := by
  unfold offTo
  by_cases h : i < devs.length
  · rw [List.getElem?_append_right (by rw [List.length_map, List.length_take]; omega), List.length_map, List.length_take, Nat.min_eq_left (by omega), Nat.sub_self, List.getElem?_drop]
    rfl
  · rw [List.getElem?_eq_none (by rw [List.length_append, List.length_map, List.length_take, List.length_drop]; omega), List.getElem?_eq_none (by omega)]
theorem offTo_succ (devs : List Dev) (m t i : Nat) {d : Dev} (h : devs[i]? = some d) : offTo devs m t (i + 1) = (offTo devs m t i).set i (Gv.arrive d m t) := by
  have hi : i < devs.length := (List.getElem?_eq_some_iff.mp h).1
  unfold offTo
  rw [take_snoc h, List.map_append, List.append_assoc, List.set_append_right _ _ (by rw [List.length_map, List.length_take]; omega), List.length_map, List.length_take, Nat.min_eq_left (by omega), Nat.sub_self]
  congr 1
  have e : devs.drop i = d :: devs.drop (i + 1) := by
    rw [List.drop_eq_getElem_cons hi]
    congr 1
    rw [List.getElem?_eq_getElem hi] at h
    exact Option.some.inj h
  rw [e]
  rfl
def spOff (CL CD : Addr) : Sp := fun vs H Q _ => ∃ S N la sim, ∃ m t : Nat, vs = [.ref la, nv m, nv t] ∧ LineAt CL CD H S N la sim ∧ Priv H S ∧ N < 4000000 ∧
  ∀ H', LineAt CL CD H' S N la { sim with devs := sim.devs.map fun d => Gv.arrive d m t } → Fr S H H' → Q .non H'
theorem ok_Line_switch_off (T : Txt K mg) : FnOk P w K mg base CX0 5 T.Li.switch_off.f T.Li.switch_off.fd ["self", "mask", "length"] (spOff T.Li.C T.De.C) := by
  refine T.Li.switch_off.F.ok sc_Line_switch_off (fun vs H Q E h => ?_) (fun cdv A outer s H vs Q E hr h => ⟨_, (pss_one
    (ps_for PassesOwn.never rfl (pi_list (pe_fld (pv 0) rfl)) (pg_name (i := 3) sc_Line_switch_off.nd rfl (Or.inl rfl)) (pss_one
    (ps_expr (pe_meth (pv 3) T.De.cl T.De.m_lose_power (ok_Device_lose_power T) (hr.mono (by decide)) T.De.lose_power.b .nil pass0 (pa_cons (pv 1) (pa_cons (pv 2) pa_nil))))))), ?_⟩)
  · obtain ⟨S, N, la, sim, m, t, rfl, _⟩ := h
    rfl
  · obtain ⟨S, N, la, sim, m, t, rfl, ⟨dx, dv, en, gs, ekvs, L⟩, pr, lim, q⟩ := h
    refine ⟨_, rfl, la, T.Li.C, dx, _, _, rfl, L.obj, T.Li.cl, T.Li.n_devices, lF_devices, dv, rfl, ⟨_, SqL.of L.devs⟩, ?_⟩
    refine for_list (xs := gs.map fun g => V.ref g.a) (fun i σ H' => Fr S H H' ∧ ∃ v gs', σ = [some (.ref la), some (nv m), some (nv t), v] ∧ (gs'.map fun g => V.ref g.a) = (gs.map fun g => V.ref g.a) ∧ LineIn T.Li.C T.De.C H' S N la { sim with devs := offTo sim.devs m t i } dx dv en gs' ekvs)
      ⟨Fr.refl S H, none, gs, rfl, rfl, L⟩ (fun i σ H' _ ⟨_, _, gs', _, e, L'⟩ => by rw [← e]; exact SqL.of L'.devs) ?_ ?_
    · rintro i y σ H' hi ⟨fr, v, gs', rfl, eg, L'⟩
      rw [← eg] at hi
      have hil : i < sim.devs.length := by
        have := (List.getElem?_eq_some_iff.mp hi).1
        rw [List.length_map, L'.len] at this
        rw [← offTo_len sim.devs m t i]
        exact this
      obtain ⟨g, d, h1, h2, h3, h4, dx', kvs, cs, sk, D⟩ := L'.get (i := i) (by show i < (offTo sim.devs m t i).length; rw [offTo_len]; exact hil)
      rw [h4] at hi
      obtain rfl := Option.some.inj hi
      have h2' : (offTo sim.devs m t i)[i]? = some d := h2
      have h5 : sim.devs[i]? = some d := by rw [← offTo_get sim.devs m t i]; exact h2'
      refine ⟨_, rfl, g.a, dx', _, rfl, D.obj, dF_no, _, rfl, _, rfl, ?_⟩
      refine ⟨S, N, g, d, dx', kvs, cs, sk, m, t, rfl, D, fr.priv pr, by have := D.szs; omega, fun H2 g' kvs' D' mv => ?_⟩
      have L2 := L'.step h1 h2 ⟨dx', kvs', [], sk, D'⟩ mv (Nat.le_refl N)
      refine ⟨fr.trans (D.fr mv), _, gs'.set i g', rfl, ?_, ?_⟩
      · rw [← eg, List.map_set, mv.a]
        apply List.ext_getElem?
        intro n
        rw [List.getElem?_set]
        by_cases z : i = n
        · subst z
          rw [if_pos rfl, h4, if_pos (List.getElem?_eq_some_iff.mp h4).1]
        · rw [if_neg z]
      · rw [offTo_succ sim.devs m t i h5]
        exact L2
    · rintro σ H' ⟨fr, v, gs', rfl, eg, L'⟩
      rw [List.length_map, L.len, offTo_all] at L'
      exact q H' ⟨dx, dv, en, gs', ekvs, L'⟩ fr
end
end Mp
namespace Mp
open PySem PySem.Spec PyProof.Rows L2
open Gv (Bytes Dev zeroBlock isBlock Sim Happens)
/-! ### an ask, by the specification -/
def dAt (s : Sim) (i : Nat) : Dev := struck (hapAt s) (s.devs.getD i (Gv.blank 0))
def putS (s : Sim) (i : Nat) (d : Dev) : Sim := { s with asks := s.asks + 1, devs := s.devs.set i d }
def strikeS (s : Sim) (i : Nat) : Sim := putS s i (dAt s i)
def offS (s : Sim) (m t : Nat) : Sim := { s with asks := s.asks + 1, devs := s.devs.map fun d => Gv.arrive d m t }
def refuses (s : Sim) (i : Nat) : Bool := decide (s.devs.length ≤ i) || ((dAt s i).gone || (hapAt s == some .fail || hapAt s == some .taken))
theorem answer_off {s : Sim} {q : Gv.Ask} {m t : Nat} (h : hapAt s = some (.off m t)) : s.answer q = (none, offS s m t) := by
  unfold hapAt at h
  unfold Gv.Sim.answer offS
  simp only [h]
theorem answer_read {s : Sim} {i k : Nat} (nf : isOff (hapAt s) = false) :
    s.answer (.read i k) = if refuses s i = true ∨ (dAt s i).blocks.length ≤ k ∨ (dAt s i).sick.contains k = true then (some .fail, strikeS s i) else (some (.bytes ((dAt s i).now k)), strikeS s i) := by
  unfold refuses strikeS dAt putS
  have e : hapAt s = (s.script.find? fun x => x.1 == s.asks).map fun x => x.2 := rfl
  unfold Gv.Sim.answer
  simp only [← e]
  cases h : hapAt s with
  | none => rfl
  | some x =>
    cases x with
    | off m t => rw [h] at nf; cases nf
    | fail => rfl
    | taken => rfl
    | goes => rfl
    | sick k => rfl
    | rot k j v => rfl
theorem answer_write {s : Sim} {i k : Nat} {b : Bytes} (nf : isOff (hapAt s) = false) (hb : isBlock b = true) :
    s.answer (.write i k b) = if (dAt s i).blocks.length ≤ k then (some .fail, strikeS s i) else if refuses s i = true then (some .fail, putS s i (if hapAt s = some .taken ∧ (dAt s i).gone = false then Sent (dAt s i) k b else dAt s i)) else (some .ok, putS s i (Written (dAt s i) k b)) := by
  unfold refuses strikeS dAt putS
  have e : hapAt s = (s.script.find? fun x => x.1 == s.asks).map fun x => x.2 := rfl
  unfold Gv.Sim.answer
  simp only [← e, hb]
  have ef : ∀ A : Prop, (A ∨ true = false) = A := fun A => by simp
  simp only [ef]
  cases h : hapAt s with
  | none => rfl
  | some x =>
    cases x with
    | off m t => rw [h] at nf; cases nf
    | fail => rfl
    | taken => rfl
    | goes => rfl
    | sick k => rfl
    | rot k j v => rfl
theorem answer_flush {s : Sim} {i : Nat} (nf : isOff (hapAt s) = false) :
    s.answer (.flush i) = if refuses s i = true then (some .fail, strikeS s i) else (some .ok, putS s i (dAt s i).settled) := by
  unfold refuses strikeS dAt putS
  have e : hapAt s = (s.script.find? fun x => x.1 == s.asks).map fun x => x.2 := rfl
  unfold Gv.Sim.answer
  simp only [← e]
  cases h : hapAt s with
  | none => rfl
  | some x =>
    cases x with
    | off m t => rw [h] at nf; cases nf
    | fail => rfl
    | taken => rfl
    | goes => rfl
    | sick k => rfl
    | rot k j v => rfl
theorem blank_struck (h : Option Happens) : (struck h (Gv.blank 0)).blocks.length = 0 := by
  cases h with
  | none => rfl
  | some x => cases x <;> rfl
theorem getD_ge {α : Type} {l : List α} {i : Nat} (z : α) (h : l.length ≤ i) : l.getD i z = z := by
  rw [List.getD_eq_getElem?_getD, List.getElem?_eq_none h]
  rfl
theorem strike_ge {s : Sim} {i : Nat} (h : s.devs.length ≤ i) : (dAt s i).blocks.length = 0 := by
  unfold dAt
  rw [getD_ge _ h]
  exact blank_struck _
theorem is_off {h : Option Happens} (e : isOff h = true) : ∃ m t, h = some (.off m t) := by
  cases h with
  | none => cases e
  | some x => cases x <;> first | exact ⟨_, _, rfl⟩ | cases e
theorem nat_code {h : Option Happens} (n : isOff h = false) : code h ≠ 5 := by
  cases h with
  | none => decide
  | some x => cases x with
    | off m t => cases n
    | fail => exact (by decide : (0 : Int) ≠ 5)
    | taken => exact (by decide : (1 : Int) ≠ 5)
    | goes => exact (by decide : (2 : Int) ≠ 5)
    | sick k => exact (by decide : (3 : Int) ≠ 5)
    | rot k j v => exact (by decide : (4 : Int) ≠ 5)
theorem inFT (h : Option Happens) : inV (.int (code h)) [.int 0, .int 1] = (h == some .fail || h == some .taken) := by
  cases h with
  | none => rfl
  | some x => cases x <;> rfl
theorem isF (h : Option Happens) : decide (V.int (code h) = V.int 0) = (h == some .fail) := by
  cases h with
  | none => rfl
  | some x => cases x <;> rfl
theorem isT (h : Option Happens) : decide (V.int (code h) = V.int 1) = (h == some .taken) := by
  cases h with
  | none => rfl
  | some x => cases x <;> rfl
section
variable {P : Program} {w : World} {K : PySem.W.Frag} {mg : Str → Option Value} {base : Heap}
/-! ### count_ask -/
def spCount (CL CD CF : Addr) : Sp := fun vs H Q E => ∃ S N la sim, ∃ d : Nat, vs = [.ref la, nv d] ∧ LineAt CL CD H S N la sim ∧ Priv H S ∧ N < 3000000 ∧
  (∀ m t, hapAt sim = some (.off m t) → ∀ H', LineAt CL CD H' S N la (offS sim m t) → Fr S H H' → E (.ref CF) none H') ∧
  (isOff (hapAt sim) = false → ∀ H', LineAt CL CD H' S (N + 1) la (strikeS sim d) → Fr S H H' → Q (.int (code (hapAt sim))) H')
theorem ok_Line_count_ask (T : Txt K mg) : FnOk P w K mg base (L2.CX P w) 6 T.Li.count_ask.f T.Li.count_ask.fd ["self", "d"] (spCount T.Li.C T.De.C T.Pg.C) := by
  refine T.Li.count_ask.F.okX sc_Line_count_ask (fun vs H Q E h => ?_) (fun cdv A outer s H vs Q E hr h => ⟨_, (pss_cons
    (ps_set (i := 2) sc_Line_count_ask.nd rfl (Or.inl rfl) (pe_dget1 (hu_of hr) (pe_fld (pv 0) rfl) (pe_fld (pv 0) rfl) ⟨rfl, by rfl, by rfl, rfl⟩))
    (pss_cons
    (ps_fldaug (pv 0) pe_int in_add)
    (pss_cons
    (ps_if (pt_cmp (pc_isN (pv 2))) (pss_one
    (ps_ret (pe_gint T.G.c_NOTHING))) pss_nil)
    (pss_cons
    (ps_if (pt_cmpR op_eq (pe_ix ix_list (pv 2) pe_int (fun _ _ => rfl)) (pe_gint T.G.c_OFF) (nomark _)) (pss_cons
    (ps_expr (pe_meth (pv 0) T.Li.cl T.Li.m_switch_off (ok_Line_switch_off T) (hr.mono (by decide)) T.Li.switch_off.b .nil pass0 (pa_cons (pe_ix ix_list (pv 2) pe_int (fun _ _ => rfl)) (pa_cons (pe_ix ix_list (pv 2) pe_int (fun _ _ => rfl)) pa_nil))))
    (pss_one
    (ps_raise rfl (takes_of rfl rfl rfl rfl) (pmk_own0 PySem.F.excBase_Exception T.Pg.x T.Pg.g T.Pg.kp (raises_own T.Pg.sb T.Pg.ty) (by exact rfl))))) pss_nil)
    (pss_cons
    (ps_if (pt_val (pe_meth (pv 0) T.Li.cl T.Li.m_there (ok_Line_there T) (hr.mono (by decide)) T.Li.there.b .nil pass0 (pa_cons (pv 1) pa_nil))) (pss_one
    (ps_expr (pe_call (ok_strike T) (hr.mono (by decide)) rfl T.F.g_strike T.F.strike.F.kp T.F.strike.b .nil pass0 (pa_cons (pe_ix ix_list (pe_fld (pv 0) rfl) (pv 1) (fun _ _ => rfl)) (pa_cons (pv 2) pa_nil))))) pss_nil)
    (pss_one
    (ps_ret (pe_ix ix_list (pv 2) pe_int (fun _ _ => rfl))))))))), ?_⟩)
  · obtain ⟨S, N, la, sim, d, rfl, _⟩ := h
    rfl
  · obtain ⟨S, N, la, sim, d, rfl, ⟨dx, dv, en, gs, ekvs, L⟩, pr, lim, qE, qQ⟩ := h
    refine ⟨_, rfl, la, T.Li.C, dx, _, _, rfl, L.obj, T.Li.cl, T.Li.n_entries, lF_entries, en, rfl, .inl ⟨_, .inl L.ents⟩, _, rfl, la, T.Li.C, dx, _, _, rfl, L.obj, T.Li.cl, T.Li.n_ask_count, lF_asks, _, DGet.k (k := Sum.inl (sim.asks : Int)) L.ents, ?_⟩
    refine ⟨_, rfl, la, T.Li.C, dx, _, _, rfl, L.obj, T.Li.cl, T.Li.n_ask_count, lF_asks, _, _, rfl, rfl, dx, _, L.obj, (by show 3 < 1000; decide), ?_⟩
    have ea : ((sim.asks : Int) + 1) = ((sim.asks + 1 : Nat) : Int) := by omega
    rw [ea]
    rw [show putF "ask_count" (V.int ((sim.asks + 1 : Nat) : Int)) (lF dv en sim.asks) = lF dv en (sim.asks + 1) from lF_put]
    have L1 := L.count
    have fr1 := L.countFr (o := .ins T.Li.C dx (lF dv en (sim.asks + 1)))
    rcases L.ent sim.asks with ⟨e, l, hp, h1, h2, h3, h4, h5⟩ | ⟨h1, h2⟩
    · -- an entry of the script
      have hh : hapAt sim = some hp := h2
      rw [h1]
      have he := fr1.intl e l (happens_ne h5) h3
      refine ⟨_, rfl, _, rfl, if_f rfl ?_⟩
      by_cases hf : isOff (some hp) = true
      · obtain ⟨m, t, e0⟩ := is_off hf
        obtain rfl := Option.some.inj e0
        rcases happens_cases h5 with ⟨rfl, z⟩ | ⟨rfl, z⟩ | ⟨rfl, z⟩ | ⟨_, rfl, z⟩ | ⟨_, _, _, rfl, z⟩ | ⟨m', t', rfl, z⟩ <;> try (cases z; done)
        cases z
        refine ⟨_, rfl, e, _, _, _, rfl, rfl, SqL.of he, atI_nat (j := 1) rfl, rfl, _, rfl, if_t (int_eq _) ?_⟩
        refine ⟨_, rfl, la, dx, _, rfl, L1.obj, lF_no, _, rfl, e, _, _, _, rfl, rfl, SqL.of he, atI_nat (j := 2) rfl, _, rfl, e, _, _, _, rfl, rfl, SqL.of he, atI_nat (j := 3) rfl, ?_⟩
        refine ⟨S, N, la, _, m, t, rfl, ⟨dx, dv, en, gs, ekvs, L1⟩, fr1.priv pr, by omega, fun H' L2 fr2 => ?_⟩
        exact qE m t hh H' L2 (fr1.trans fr2)
      · have nf : isOff (some hp) = false := by simpa using hf
        have nf2 : isOff (hapAt sim) = false := by rw [hh]; exact nf
        -- entry[1], the kind
        have hk : ∃ k1, (nvs l)[1]? = some (.int k1) ∧ k1 = code (some hp) := by
          rcases happens_cases h5 with ⟨rfl, rfl⟩ | ⟨rfl, rfl⟩ | ⟨rfl, rfl⟩ | ⟨_, rfl, rfl⟩ | ⟨_, _, _, rfl, rfl⟩ | ⟨_, _, rfl, rfl⟩ <;> exact ⟨_, rfl, rfl⟩
        obtain ⟨k1, hk1, ek⟩ := hk
        refine ⟨_, rfl, e, _, _, _, rfl, rfl, SqL.of he, atI_nat (j := 1) hk1, rfl, _, rfl, if_f (int_ne (by rw [ek]; exact nat_code nf)) ?_⟩
        refine ⟨_, rfl, la, dx, _, rfl, L1.obj, lF_no, _, rfl, ?_⟩
        refine ⟨la, dx, dv, en, _, _, d, rfl, L1.obj, L1.devs, _, rfl, ?_⟩
        rw [List.length_map, L.len]
        by_cases hd : d < sim.devs.length
        · refine if_t (decide_eq_true hd) ?_
          obtain ⟨g, dd, g1, g2, g3, g4, dx', kvs, cs, sk, D⟩ := L1.get (i := d) hd
          refine ⟨_, rfl, la, T.Li.C, dx, _, _, rfl, L1.obj, T.Li.cl, T.Li.n_devices, lF_devices, _, rfl, dv, _, _, _, rfl, rfl, SqL.of L1.devs, atI_nat g4, _, rfl, ?_⟩
          refine ⟨S, N, g, dd, dx', kvs, cs, sk, e, l, sim.asks, hp, rfl, D, fr1.priv pr, by have := D.szs; omega, he, h5, nf, fun H' g' D' mv => ?_⟩
          have L2 := L1.step g1 g2 D' mv (Nat.le_succ N)
          have fr2 := fr1.trans (D.fr mv)
          refine ⟨_, rfl, e, _, _, _, rfl, rfl, SqL.of (fr2.intl e l (happens_ne h5) h3), atI_nat (j := 1) hk1, ?_⟩
          have q := qQ nf2 H' ⟨dx, dv, en, gs.set d g', ekvs, ?_⟩ fr2
          · rw [hh, ← ek] at q
            exact q
          · have es : strikeS sim d = { sim with asks := sim.asks + 1, devs := sim.devs.set d (struck (some hp) dd) } := by
              unfold strikeS putS dAt
              rw [hh]
              have : sim.devs.getD d (Gv.blank 0) = dd := g3
              rw [this]
            rw [es]
            exact L2
        · refine if_f (decide_eq_false hd) ?_
          refine ⟨_, rfl, e, _, _, _, rfl, rfl, SqL.of he, atI_nat (j := 1) hk1, ?_⟩
          have q := qQ nf2 _ ⟨dx, dv, en, gs, ekvs, ?_⟩ fr1
          · rw [hh, ← ek] at q
            exact q
          · have es : strikeS sim d = { sim with asks := sim.asks + 1 } := by
              unfold strikeS putS
              rw [List.set_eq_of_length_le (by omega)]
            rw [es]
            exact L1.more (Nat.le_succ N)
    · have hh : hapAt sim = none := h2
      rw [h1]
      refine ⟨_, rfl, _, rfl, if_t rfl ?_⟩
      have q := qQ (by rw [hh]; rfl) _ ⟨dx, dv, en, gs, ekvs, ?_⟩ fr1
      · rw [hh] at q
        exact q
      · have es : strikeS sim d = { sim with asks := sim.asks + 1 } := by
          unfold strikeS putS dAt
          rw [hh]
          by_cases hd : d < sim.devs.length
          · have : sim.devs.set d (struck none (sim.devs.getD d (Gv.blank 0))) = sim.devs := set_self _ _ _ hd
            rw [this]
          · rw [List.set_eq_of_length_le (by omega)]
        rw [es]
        exact L1.more (Nat.le_succ N)
end
end Mp
namespace Mp
open PySem PySem.Spec PyProof.Rows L2
open Gv (Bytes Dev zeroBlock isBlock Sim Happens)
section
variable {CL CD : Addr} {H : Hp} {S : Addr → Prop} {N : Nat} {la : Addr} {sim : Sim} {dx dv en : Addr} {gs : List Gh} {ekvs : List (Key × V)}
theorem LineIn.strikeGet (L : LineIn CL CD H S N la (strikeS sim i) dx dv en gs ekvs) (hi : i < sim.devs.length) :
    ∃ g, gs[i]? = some g ∧ (strikeS sim i).devs[i]? = some (dAt sim i) ∧ (gs.map fun g => V.ref g.a)[i]? = some (.ref g.a) ∧ DevAt CD H S N g (dAt sim i) := by
  have hl : (strikeS sim i).devs.length = sim.devs.length := List.length_set ..
  obtain ⟨g, d, h1, h2, _, h4, D⟩ := L.get (i := i) (by rw [hl]; exact hi)
  have e : (strikeS sim i).devs[i]? = some (dAt sim i) := by
    show (sim.devs.set i _)[i]? = _
    rw [List.getElem?_set, if_pos rfl, if_pos hi]
  have : d = dAt sim i := Option.some.inj (h2.symm.trans e)
  subst this
  exact ⟨g, h1, e, h4, D⟩
end
theorem strike_alive (sim : Sim) (i : Nat) : (decide (i < (strikeS sim i).devs.length) && !((strikeS sim i).devs.getD i (Gv.blank 0)).gone) = (decide (i < sim.devs.length) && !(dAt sim i).gone) := by
  have hl : (strikeS sim i).devs.length = sim.devs.length := List.length_set ..
  rw [hl]
  by_cases hi : i < sim.devs.length
  · have e : (strikeS sim i).devs.getD i (Gv.blank 0) = dAt sim i := by
      show (sim.devs.set i _).getD i _ = _
      rw [set_getD _ _ _ _ _ hi, if_pos rfl]
    rw [e]
  · rw [decide_eq_false hi]
    rfl
theorem refuses_eq (sim : Sim) (i : Nat) : refuses sim i = ((hapAt sim == some .fail || hapAt sim == some .taken) || !(decide (i < sim.devs.length) && !(dAt sim i).gone)) := by
  unfold refuses
  by_cases hi : i < sim.devs.length
  · rw [decide_eq_true hi, decide_eq_false (by omega)]
    cases (dAt sim i).gone <;> cases (hapAt sim == some .fail || hapAt sim == some .taken) <;> rfl
  · rw [decide_eq_false hi, decide_eq_true (by omega)]
    cases (hapAt sim == some .fail || hapAt sim == some .taken) <;> rfl
section
variable {P : Program} {w : World} {K : PySem.W.Frag} {mg : Str → Option Value} {base : Heap}
/-! ### read -/
def spLineRead (CL CD CF : Addr) : Sp := fun vs H Q E => ∃ S N la sim, ∃ d k : Nat, vs = [.ref la, nv d, nv k] ∧ LineAt CL CD H S N la sim ∧ Priv H S ∧ N < 3000000 ∧
  (∀ t, sim.answer (.read d k) = (none, t) → ∀ H', LineAt CL CD H' S (N + 2) la t → Fr S H H' → E (.ref CF) none H') ∧
  (∀ t, sim.answer (.read d k) = (some .fail, t) → ∀ H', LineAt CL CD H' S (N + 2) la t → Fr S H H' → Q .non H') ∧
  (∀ t b, sim.answer (.read d k) = (some (.bytes b), t) → ∀ H' p, LineAt CL CD H' S (N + 2) la t → Fr S H H' → BlkAt H' p b → ¬ S p → Q (.ref p) H')
theorem ok_Line_read (T : Txt K mg) : FnOk P w K mg base (L2.CX P w) 7 T.Li.read.f T.Li.read.fd ["self", "d", "k"] (spLineRead T.Li.C T.De.C T.Pg.C) := by
  refine T.Li.read.F.okX sc_Line_read (fun vs H Q E h => ?_) (fun cdv A outer s H vs Q E hr h => ⟨_, (pss_cons
    (ps_set (i := 3) sc_Line_read.nd rfl (Or.inl rfl) (pe_meth (pv 0) T.Li.cl T.Li.m_count_ask (ok_Line_count_ask T) (hr.mono (by decide)) T.Li.count_ask.b .nil (passes_call (takes_of rfl rfl rfl rfl) (fun _ _ _ _ h => h)) (pa_cons (pv 1) pa_nil)))
    (pss_cons
    (ps_if (PW.pt (pw_or (pt_cmpR op_in_seq (pv 3) (pe_tup (pa_cons (pe_gint T.G.c_FAIL) (pa_cons (pe_gint T.G.c_TAKEN) pa_nil))) (by rfl)) (pw_or1 (pt_not (pt_val (pe_meth (pv 0) T.Li.cl T.Li.m_alive (ok_Line_alive T) (hr.mono (by decide)) T.Li.alive.b .nil pass0 (pa_cons (pv 1) pa_nil))))))) (pss_one
    (ps_ret pe_non)) pss_nil)
    (pss_one
    (ps_ret (pe_meth (pe_ix ix_list (pe_fld (pv 0) rfl) (pv 1) (fun _ _ => rfl)) T.De.cl T.De.m_read (ok_Device_read T) (hr.mono (by decide)) T.De.read.b .nil pass0 (pa_cons (pv 2) pa_nil)))))), ?_⟩)
  · obtain ⟨S, N, la, sim, d, k, rfl, _⟩ := h
    rfl
  · obtain ⟨S, N, la, sim, d, k, rfl, L, pr, lim, q1, q2, q3⟩ := h
    obtain ⟨dx, dv, en, gs, ekvs, LI⟩ := L
    refine ⟨_, rfl, la, dx, _, rfl, LI.obj, lF_no, _, rfl, ?_⟩
    refine ⟨S, N, la, sim, d, rfl, ⟨dx, dv, en, gs, ekvs, LI⟩, pr, lim, fun m t ho H1 L1 fr => q1 _ (answer_off ho) H1 (L1.more (by omega)) fr, fun nf H1 L1 fr1 => ?_⟩
    refine ⟨_, rfl, (by show 2 ≤ sizeLine; decide), fun u hu => ?_⟩
    refine ⟨u, _, rfl, .inr (SqT.of upd_same), rfl, rfl, _, rfl, ?_⟩
    have sm := same_upd (o := .tup [.int 0, .int 1]) hu
    have L2 := L1.same sm
    have fr2 := fr1.trans (Fr.of_same (S := S) sm)
    rw [show (inV (V.int (code (hapAt sim))) [.int 0, .int 1]) = _ from inFT (hapAt sim)]
    by_cases hft : (hapAt sim == some .fail || hapAt sim == some .taken) = true
    · refine if_t hft (if_t rfl ?_)
      refine q2 _ ?_ _ (L2.more (by omega)) fr2
      rw [answer_read nf, if_pos (.inl (by rw [refuses_eq, hft]; rfl))]
    · have hft' : (hapAt sim == some .fail || hapAt sim == some .taken) = false := by simpa using hft
      refine if_f hft' ?_
      obtain ⟨dx1, dv1, en1, gs1, ekvs1, LI2⟩ := L2
      refine ⟨_, rfl, la, dx1, _, rfl, LI2.obj, lF_no, _, rfl, ?_⟩
      refine ⟨S, N + 1, la, _, d, rfl, ⟨dx1, dv1, en1, gs1, ekvs1, LI2⟩, _, rfl, ?_⟩
      rw [strike_alive]
      by_cases ha : (decide (d < sim.devs.length) && !(dAt sim d).gone) = true
      · refine if_f (by rw [ha]; rfl) ?_
        rw [Bool.and_eq_true, decide_eq_true_eq] at ha
        obtain ⟨g, g1, g2, g4, dx', kvs, cs, sk, D⟩ := LI2.strikeGet ha.1
        refine ⟨_, rfl, la, T.Li.C, dx1, _, _, rfl, LI2.obj, T.Li.cl, T.Li.n_devices, lF_devices, _, rfl, dv1, _, _, _, rfl, rfl, SqL.of LI2.devs, atI_nat g4, g.a, dx', _, rfl, D.obj, dF_no, _, rfl, ?_⟩
        have hre : refuses sim d = false := by rw [refuses_eq, hft', decide_eq_true ha.1, ha.2]; rfl
        refine ⟨S, N + 1, g, _, dx', kvs, cs, sk, k, rfl, D, fr2.priv pr, fun hs => ?_, fun hs H3 b sm3 hb sb => ?_⟩
        · refine q2 _ ?_ _ ((LineAt.more ⟨dx1, dv1, en1, gs1, ekvs1, LI2⟩ (by omega))) fr2
          rw [answer_read nf, if_pos (.inr hs)]
        · refine q3 _ _ ?_ H3 b ((LineAt.same ⟨dx1, dv1, en1, gs1, ekvs1, LI2⟩ sm3).more (by omega)) (fr2.trans (Fr.of_same sm3)) hb sb
          rw [answer_read nf, if_neg]
          rintro (z | z)
          · rw [hre] at z; cases z
          · exact hs z
      · have ha' : (decide (d < sim.devs.length) && !(dAt sim d).gone) = false := by simpa using ha
        refine if_t (by rw [ha']; rfl) ?_
        refine q2 _ ?_ _ ((LineAt.more ⟨dx1, dv1, en1, gs1, ekvs1, LI2⟩ (by omega))) fr2
        rw [answer_read nf, if_pos (.inl (by rw [refuses_eq, ha']; simp))]
/-! ### write -/
theorem put_put (s : Sim) (i : Nat) (d d' : Dev) : { (putS s i d) with devs := (putS s i d).devs.set i d' } = putS s i d' := by
  unfold putS
  simp only [List.set_set]
def spLineWrite (CL CD CF : Addr) : Sp := fun vs H Q E => ∃ S N la sim, ∃ d k : Nat, ∃ b bs, vs = [.ref la, nv d, nv k, .ref b] ∧ LineAt CL CD H S N la sim ∧ Priv H S ∧ N < 3000000 ∧ BlkAt H b bs ∧ ¬ S b ∧
  (∀ t, sim.answer (.write d k bs) = (none, t) → ∀ H', LineAt CL CD H' S (N + 2) la t → Fr S H H' → E (.ref CF) none H') ∧
  (∀ t, sim.answer (.write d k bs) = (some .fail, t) → ∀ H', LineAt CL CD H' S (N + 2) la t → Fr S H H' → Q (.bl false) H') ∧
  (∀ t, sim.answer (.write d k bs) = (some .ok, t) → ∀ H', LineAt CL CD H' S (N + 2) la t → Fr S H H' → Q (.bl true) H')
theorem ok_Line_write (T : Txt K mg) : FnOk P w K mg base (L2.CX P w) 7 T.Li.write.f T.Li.write.fd ["self", "d", "k", "block"] (spLineWrite T.Li.C T.De.C T.Pg.C) := by
  refine T.Li.write.F.okX sc_Line_write (fun vs H Q E h => ?_) (fun cdv A outer s H vs Q E hr h => ⟨_, (pss_cons
    (ps_set (i := 4) sc_Line_write.nd rfl (Or.inl rfl) (pe_meth (pv 0) T.Li.cl T.Li.m_count_ask (ok_Line_count_ask T) (hr.mono (by decide)) T.Li.count_ask.b .nil (passes_call (takes_of rfl rfl rfl rfl) (fun _ _ _ _ h => h)) (pa_cons (pv 1) pa_nil)))
    (pss_cons
    (ps_if (PW.pt (pw_or (pt_cmpR op_eq (pv 4) (pe_gint T.G.c_FAIL) (nomark _)) (pw_or1 (pt_not (pt_val (pe_meth (pv 0) T.Li.cl T.Li.m_alive (ok_Line_alive T) (hr.mono (by decide)) T.Li.alive.b .nil pass0 (pa_cons (pv 1) pa_nil))))))) (pss_one
    (ps_ret pe_bl)) pss_nil)
    (pss_cons
    (ps_if (pt_cmpR op_eq (pv 4) (pe_gint T.G.c_TAKEN) (nomark _)) (pss_cons
    (ps_expr (pe_meth (pe_ix ix_list (pe_fld (pv 0) rfl) (pv 1) (fun _ _ => rfl)) T.De.cl T.De.m_take (ok_Device_take T) (hr.mono (by decide)) T.De.take.b .nil pass0 (pa_cons (pv 2) (pa_cons (pv 3) pa_nil))))
    (pss_one
    (ps_ret pe_bl))) pss_nil)
    (pss_one
    (ps_ret (pe_meth (pe_ix ix_list (pe_fld (pv 0) rfl) (pv 1) (fun _ _ => rfl)) T.De.cl T.De.m_write (ok_Device_write T) (hr.mono (by decide)) T.De.write.b .nil pass0 (pa_cons (pv 2) (pa_cons (pv 3) pa_nil)))))))), ?_⟩)
  · obtain ⟨S, N, la, sim, d, k, b, bs, rfl, _⟩ := h
    rfl
  · obtain ⟨S, N, la, sim, d, k, b, bs, rfl, L, pr, lim, hb, sb, q1, q2, q3⟩ := h
    obtain ⟨dx, dv, en, gs, ekvs, LI⟩ := L
    refine ⟨_, rfl, la, dx, _, rfl, LI.obj, lF_no, _, rfl, ?_⟩
    refine ⟨S, N, la, sim, d, rfl, ⟨dx, dv, en, gs, ekvs, LI⟩, pr, lim, fun m t ho H1 L1 fr => q1 _ (answer_off ho) H1 (L1.more (by omega)) fr, fun nf H1 L1 fr1 => ?_⟩
    obtain ⟨dx1, dv1, en1, gs1, ekvs1, LI2⟩ := L1
    have ans := answer_write (s := sim) (i := d) (k := k) nf hb.ok
    refine ⟨_, rfl, rfl, _, rfl, ?_⟩
    rw [show decide (V.int (code (hapAt sim)) = V.int 0) = _ from isF (hapAt sim)]
    by_cases hf : (hapAt sim == some .fail) = true
    · refine if_t hf (if_t rfl ?_)
      refine q2 (strikeS sim d) ?_ _ (LineAt.more ⟨dx1, dv1, en1, gs1, ekvs1, LI2⟩ (by omega)) fr1
      rw [ans]
      by_cases z : (dAt sim d).blocks.length ≤ k
      · rw [if_pos z]
      · rw [if_neg z, if_pos (by rw [refuses_eq, hf]; rfl), if_neg (fun c => by rw [c.1] at hf; cases hf)]
        rfl
    · have hf' : (hapAt sim == some .fail) = false := by simpa using hf
      refine if_f hf' ?_
      refine ⟨_, rfl, la, dx1, _, rfl, LI2.obj, lF_no, _, rfl, ?_⟩
      refine ⟨S, N + 1, la, _, d, rfl, ⟨dx1, dv1, en1, gs1, ekvs1, LI2⟩, _, rfl, ?_⟩
      rw [strike_alive]
      by_cases ha : (decide (d < sim.devs.length) && !(dAt sim d).gone) = true
      · refine if_f (by rw [ha]; rfl) ?_
        have ha0 := ha
        rw [Bool.and_eq_true, decide_eq_true_eq] at ha
        obtain ⟨g, g1, g2, g4, dx', kvs, cs, sk, D⟩ := LI2.strikeGet ha.1
        have hgone : (dAt sim d).gone = false := by simpa using ha.2
        have hb1 := fr1.blk hb
        refine ⟨_, rfl, rfl, _, rfl, ?_⟩
        rw [show decide (V.int (code (hapAt sim)) = V.int 1) = _ from isT (hapAt sim)]
        by_cases ht : (hapAt sim == some .taken) = true
        · have hte : hapAt sim = some .taken := eq_of_beq ht
          have hre : refuses sim d = true := by rw [refuses_eq, ht]; simp
          refine if_t ht ?_
          refine ⟨_, rfl, la, T.Li.C, dx1, _, _, rfl, LI2.obj, T.Li.cl, T.Li.n_devices, lF_devices, _, rfl, dv1, _, _, _, rfl, rfl, SqL.of LI2.devs, atI_nat g4, g.a, dx', _, rfl, D.obj, dF_no, _, rfl, _, rfl, ?_⟩
          refine ⟨S, N + 1, g, _, dx', kvs, cs, sk, k, b, bs, rfl, D, fr1.priv pr, hb1, sb, by have := D.szs; omega, fun z => ?_, fun z H3 cs' D' mv => ?_⟩
          · refine q2 (strikeS sim d) ?_ _ (LineAt.more ⟨dx1, dv1, en1, gs1, ekvs1, LI2⟩ (by omega)) fr1
            rw [ans, if_pos z]
          · have L3 := LI2.step g1 g2 ⟨dx', kvs, cs', sk, D'⟩ mv (Nat.le_succ _)
            unfold strikeS at L3
            rw [put_put] at L3
            refine q2 _ ?_ H3 ⟨dx1, dv1, en1, _, ekvs1, L3⟩ (fr1.trans (D.fr mv))
            rw [ans, if_neg (by omega), if_pos hre, if_pos ⟨hte, hgone⟩]
        · have ht' : (hapAt sim == some .taken) = false := by simpa using ht
          have hre : refuses sim d = false := by rw [refuses_eq, hf', ht', ha0]; rfl
          refine if_f ht' ?_
          refine ⟨_, rfl, la, T.Li.C, dx1, _, _, rfl, LI2.obj, T.Li.cl, T.Li.n_devices, lF_devices, _, rfl, dv1, _, _, _, rfl, rfl, SqL.of LI2.devs, atI_nat g4, g.a, dx', _, rfl, D.obj, dF_no, _, rfl, _, rfl, ?_⟩
          refine ⟨S, N + 1, g, _, dx', kvs, cs, sk, k, b, bs, rfl, D, fr1.priv pr, hb1, sb, by have := D.szs; omega, fun z => ?_, fun z H3 cs' sk' D' mv => ?_⟩
          · refine q2 (strikeS sim d) ?_ _ (LineAt.more ⟨dx1, dv1, en1, gs1, ekvs1, LI2⟩ (by omega)) fr1
            rw [ans, if_pos z]
          · have L3 := LI2.step g1 g2 ⟨dx', kvs, cs', sk', D'⟩ mv (Nat.le_succ _)
            unfold strikeS at L3
            rw [put_put] at L3
            refine q3 _ ?_ H3 ⟨dx1, dv1, en1, _, ekvs1, L3⟩ (fr1.trans (D.fr mv))
            rw [ans, if_neg (by omega), if_neg (by rw [hre]; simp)]
      · have ha' : (decide (d < sim.devs.length) && !(dAt sim d).gone) = false := by simpa using ha
        refine if_t (by rw [ha']; rfl) ?_
        refine q2 (strikeS sim d) ?_ _ (LineAt.more ⟨dx1, dv1, en1, gs1, ekvs1, LI2⟩ (by omega)) fr1
        rw [ans]
        by_cases z : (dAt sim d).blocks.length ≤ k
        · rw [if_pos z]
        · rw [if_neg z, if_pos (by rw [refuses_eq, ha']; simp), if_neg]
          · rfl
          · rintro ⟨_, c⟩
            by_cases hd : d < sim.devs.length
            · rw [decide_eq_true hd, c] at ha'
              cases ha'
            · exact z (by rw [strike_ge (by omega)]; omega)
/-! ### flush -/
def spLineFlush (CL CD CF : Addr) : Sp := fun vs H Q E => ∃ S N la sim, ∃ d : Nat, vs = [.ref la, nv d] ∧ LineAt CL CD H S N la sim ∧ Priv H S ∧ N < 3000000 ∧
  (∀ t, sim.answer (.flush d) = (none, t) → ∀ H', LineAt CL CD H' S (N + 2) la t → Fr S H H' → E (.ref CF) none H') ∧
  (∀ t, sim.answer (.flush d) = (some .fail, t) → ∀ H', LineAt CL CD H' S (N + 2) la t → Fr S H H' → Q (.bl false) H') ∧
  (∀ t, sim.answer (.flush d) = (some .ok, t) → ∀ H', LineAt CL CD H' S (N + 2) la t → Fr S H H' → Q (.bl true) H')
theorem ok_Line_flush (T : Txt K mg) : FnOk P w K mg base (L2.CX P w) 7 T.Li.flush.f T.Li.flush.fd ["self", "d"] (spLineFlush T.Li.C T.De.C T.Pg.C) := by
  refine T.Li.flush.F.okX sc_Line_flush (fun vs H Q E h => ?_) (fun cdv A outer s H vs Q E hr h => ⟨_, (pss_cons
    (ps_set (i := 2) sc_Line_flush.nd rfl (Or.inl rfl) (pe_meth (pv 0) T.Li.cl T.Li.m_count_ask (ok_Line_count_ask T) (hr.mono (by decide)) T.Li.count_ask.b .nil (passes_call (takes_of rfl rfl rfl rfl) (fun _ _ _ _ h => h)) (pa_cons (pv 1) pa_nil)))
    (pss_cons
    (ps_if (PW.pt (pw_or (pt_cmpR op_in_seq (pv 2) (pe_tup (pa_cons (pe_gint T.G.c_FAIL) (pa_cons (pe_gint T.G.c_TAKEN) pa_nil))) (by rfl)) (pw_or1 (pt_not (pt_val (pe_meth (pv 0) T.Li.cl T.Li.m_alive (ok_Line_alive T) (hr.mono (by decide)) T.Li.alive.b .nil pass0 (pa_cons (pv 1) pa_nil))))))) (pss_one
    (ps_ret pe_bl)) pss_nil)
    (pss_cons
    (ps_expr (pe_meth0 (pe_ix ix_list (pe_fld (pv 0) rfl) (pv 1) (fun _ _ => rfl)) T.De.cl T.De.m_flush (ok_Device_flush T) (hr.mono (by decide)) T.De.flush.b .nil pass0))
    (pss_one
    (ps_ret pe_bl))))), ?_⟩)
  · obtain ⟨S, N, la, sim, d, rfl, _⟩ := h
    rfl
  · obtain ⟨S, N, la, sim, d, rfl, L, pr, lim, q1, q2, q3⟩ := h
    obtain ⟨dx, dv, en, gs, ekvs, LI⟩ := L
    refine ⟨_, rfl, la, dx, _, rfl, LI.obj, lF_no, _, rfl, ?_⟩
    refine ⟨S, N, la, sim, d, rfl, ⟨dx, dv, en, gs, ekvs, LI⟩, pr, lim, fun m t ho H1 L1 fr => q1 _ (answer_off ho) H1 (L1.more (by omega)) fr, fun nf H1 L1 fr1 => ?_⟩
    refine ⟨_, rfl, (by show 2 ≤ sizeLine; decide), fun u hu => ?_⟩
    refine ⟨u, _, rfl, .inr (SqT.of upd_same), rfl, rfl, _, rfl, ?_⟩
    have sm := same_upd (o := .tup [.int 0, .int 1]) hu
    have L2 := L1.same sm
    have fr2 := fr1.trans (Fr.of_same (S := S) sm)
    rw [show (inV (V.int (code (hapAt sim))) [.int 0, .int 1]) = _ from inFT (hapAt sim)]
    by_cases hft : (hapAt sim == some .fail || hapAt sim == some .taken) = true
    · refine if_t hft (if_t rfl ?_)
      refine q2 _ ?_ _ (L2.more (by omega)) fr2
      rw [answer_flush nf, if_pos (by rw [refuses_eq, hft]; rfl)]
    · have hft' : (hapAt sim == some .fail || hapAt sim == some .taken) = false := by simpa using hft
      refine if_f hft' ?_
      obtain ⟨dx1, dv1, en1, gs1, ekvs1, LI2⟩ := L2
      refine ⟨_, rfl, la, dx1, _, rfl, LI2.obj, lF_no, _, rfl, ?_⟩
      refine ⟨S, N + 1, la, _, d, rfl, ⟨dx1, dv1, en1, gs1, ekvs1, LI2⟩, _, rfl, ?_⟩
      rw [strike_alive]
      by_cases ha : (decide (d < sim.devs.length) && !(dAt sim d).gone) = true
      · refine if_f (by rw [ha]; rfl) ?_
        have hre : refuses sim d = false := by rw [refuses_eq, hft', ha]; rfl
        rw [Bool.and_eq_true, decide_eq_true_eq] at ha
        obtain ⟨g, g1, g2, g4, dx', kvs, cs, sk, D⟩ := LI2.strikeGet ha.1
        refine ⟨_, rfl, la, T.Li.C, dx1, _, _, rfl, LI2.obj, T.Li.cl, T.Li.n_devices, lF_devices, _, rfl, dv1, _, _, _, rfl, rfl, SqL.of LI2.devs, atI_nat g4, g.a, dx', _, rfl, D.obj, dF_no, ?_⟩
        refine ⟨S, N + 1, g, _, dx', kvs, cs, sk, rfl, D, fr2.priv pr, by have := D.szs; omega, fun H3 g' kvs' D' _ mv => ?_⟩
        have L3 := LI2.step g1 g2 ⟨dx', kvs', [], sk, D'⟩ mv (Nat.le_refl _)
        unfold strikeS at L3
        rw [put_put] at L3
        refine q3 _ ?_ H3 (LineAt.more ⟨dx1, dv1, en1, _, ekvs1, L3⟩ (by omega)) (fr2.trans (D.fr mv))
        rw [answer_flush nf, if_neg (by rw [hre]; simp)]
      · have ha' : (decide (d < sim.devs.length) && !(dAt sim d).gone) = false := by simpa using ha
        refine if_t (by rw [ha']; rfl) ?_
        refine q2 _ ?_ _ ((LineAt.more ⟨dx1, dv1, en1, gs1, ekvs1, LI2⟩ (by omega))) fr2
        rw [answer_flush nf, if_pos (by rw [refuses_eq, ha']; simp)]
end
end Mp
namespace Mp
open PySem PySem.Spec PyProof.Rows L2
open Gv (Bytes Dev zeroBlock isBlock Sim Happens)
def peekS (sim : Sim) (d k : Nat) : List Int := peekOf (sim.devs.getD d (Gv.blank 0)) k
theorem find_snocE (n : Nat) (l : List (Nat × Happens)) (x : Nat × Happens) : (l ++ [x]).find? (fun x => x.1 == n) = (l.find? fun x => x.1 == n).or (if x.1 = n then some x else none) := by
  rw [List.find?_append]
  congr 1
  rw [List.find?_cons]
  by_cases h : x.1 = n
  · rw [if_pos h, beq_iff_eq.mpr h]
  · rw [if_neg h, beq_eq_false_iff_ne.mpr h]
    rfl
section
variable {P : Program} {w : World} {K : PySem.W.Frag} {mg : Str → Option Value} {base : Heap}
/-! ### peek -/
def spLinePeek (CL CD : Addr) : Sp := fun vs H Q _ => ∃ S N la sim, ∃ d k : Nat, vs = [.ref la, nv d, nv k] ∧ LineAt CL CD H S N la sim ∧ Priv H S ∧
  ∀ H' p, H p = none → Same H H' → H' p = some (.lst ((peekS sim d k).map V.int)) → Q (.ref p) H'
theorem ok_Line_peek (T : Txt K mg) : FnOk P w K mg base CX0 5 T.Li.peek.f T.Li.peek.fd ["self", "d", "k"] (spLinePeek T.Li.C T.De.C) := by
  refine T.Li.peek.F.ok sc_Line_peek (fun vs H Q E h => ?_) (fun cdv A outer s H vs Q E hr h => ⟨_, (pss_cons
    (ps_if (pt_not (pt_val (pe_meth (pv 0) T.Li.cl T.Li.m_there (ok_Line_there T) (hr.mono (by decide)) T.Li.there.b .nil pass0 (pa_cons (pv 1) pa_nil)))) (pss_one
    (ps_ret (pe_lst (pa_cons pe_int (pa_cons pe_int (pa_cons pe_int pa_nil)))))) pss_nil)
    (pss_one
    (ps_ret (pe_meth (pe_ix ix_list (pe_fld (pv 0) rfl) (pv 1) (fun _ _ => rfl)) T.De.cl T.De.m_peek (ok_Device_peek T) (hr.mono (by decide)) T.De.peek.b .nil pass0 (pa_cons (pv 2) pa_nil))))), ?_⟩)
  · obtain ⟨S, N, la, sim, d, k, rfl, _⟩ := h
    rfl
  · obtain ⟨S, N, la, sim, d, k, rfl, ⟨dx, dv, en, gs, ekvs, L⟩, pr, q⟩ := h
    refine ⟨_, rfl, la, dx, _, rfl, L.obj, lF_no, _, rfl, ?_⟩
    refine ⟨la, dx, dv, en, _, _, d, rfl, L.obj, L.devs, _, rfl, ?_⟩
    rw [List.length_map, L.len]
    by_cases hd : d < sim.devs.length
    · refine if_f (by rw [decide_eq_true hd]; rfl) ?_
      obtain ⟨g, dd, h1, h2, h3, h4, dx', kvs, cs, sk, D⟩ := L.get hd
      refine ⟨_, rfl, la, T.Li.C, dx, _, _, rfl, L.obj, T.Li.cl, T.Li.n_devices, lF_devices, _, rfl, dv, _, _, _, rfl, rfl, SqL.of L.devs, atI_nat h4, g.a, dx', _, rfl, D.obj, dF_no, _, rfl, ?_⟩
      refine ⟨S, N, g, dd, dx', kvs, cs, sk, k, rfl, D, pr, fun H' p hp sm hh => q H' p hp sm ?_⟩
      unfold peekS
      rw [h3]
      exact hh
    · refine if_t (by rw [decide_eq_false hd]; rfl) ?_
      refine ⟨(by show 3 ≤ sizeLine; decide), fun p hp => q _ p hp (same_upd hp) ?_⟩
      unfold peekS
      rw [upd_same, getD_ge _ (by omega)]
      unfold peekOf
      have e : (Gv.blank 0).now k = zeroBlock := now_out (fun x hx => by cases hx) (Nat.zero_le _)
      have e2 : shortN zeroBlock = [] := shortN_zeros _
      rw [e, short_eq, e2]
      rfl
/-! ### first_entries -/
def spFirst : Sp := fun vs H Q _ => ∃ (S : Addr → Prop) (b : Addr) (es : List Addr) (rows : List (List Nat)), vs = [.ref b] ∧ H b = some (.lst (es.map V.ref)) ∧ Paired (fun e l => H e = some (.lst (nvs l)) ∧ ¬ S e) es rows ∧
  (∀ l ∈ rows, ∃ x, Gv01Neutral.happens l = some x) ∧ rows.length ≤ 1000 ∧
  ∀ H' p ekvs, H p = none → Same H H' → H' p = some (.dK ekvs) → (∀ n : Nat, EntAt H' S n (valV ekvs (.inl (n : Int))) (((rows.filterMap Gv01Neutral.happens).find? fun x => x.1 == n).map fun x => x.2)) → Q (.ref p) H'
theorem ok_first_entries (T : Txt K mg) : FnOk P w K mg base CX0 1 T.F.first_entries.f T.F.first_entries.fd ["script"] (spFirst) := by
  refine T.F.first_entries.F.ok sc_first_entries (fun vs H Q E h => ?_) (fun cdv A outer s H vs Q E hr h => ⟨_, (pss_cons
    (ps_set (i := 1) sc_first_entries.nd rfl (Or.inl rfl) pe_dnewK)
    (pss_cons
    (ps_for PassesOwn.never rfl (pi_list (pv 0)) (pg_name (i := 2) sc_first_entries.nd rfl (Or.inl rfl)) (pss_one
    (ps_expr (pe_dsetd (pv 1) (pe_ix ix_list (pv 2) pe_int (fun _ _ => rfl)) (pv 2) ⟨rfl, by rfl, by rfl, rfl⟩))))
    (pss_one
    (ps_ret (pv 1))))), ?_⟩)
  · obtain ⟨S, b, es, rows, rfl, _⟩ := h
    rfl
  · obtain ⟨S, b, es, rows, rfl, hb, pw, hr1, hl, q⟩ := h
    have el : es.length = rows.length := pw.length
    intro p hp
    refine ⟨_, rfl, b, rfl, ⟨_, SqL.of (by rw [upd_ne (ne_of_none hb hp)]; exact hb)⟩, ?_⟩
    refine for_list (xs := es.map V.ref) (fun i σ H' => ∃ v ekvs, σ = [some (.ref b), some (.ref p), v] ∧ Same H H' ∧ H' p = some (.dK ekvs) ∧ ekvs.length ≤ i ∧
        ∀ n : Nat, EntAt H' S n (valV ekvs (.inl (n : Int))) ((((rows.take i).filterMap Gv01Neutral.happens).find? fun x => x.1 == n).map fun x => x.2))
      ⟨none, [], rfl, same_upd hp, upd_same, Nat.le_refl _, fun n => .inr ⟨rfl, rfl⟩⟩ (fun i σ H' _ ⟨_, _, _, sm, _⟩ => SqL.of (sm _ _ hb)) ?_ ?_
    · rintro i y σ H' hi ⟨v, ekvs, rfl, sm, hp', le, hent⟩
      rw [List.getElem?_map] at hi
      cases he : es[i]? with
      | none => rw [he] at hi; cases hi
      | some e =>
        rw [he] at hi
        obtain rfl := Option.some.inj hi
        obtain ⟨l, hl1, h1, h2⟩ := paired_get pw he
        obtain ⟨⟨n, hp0⟩, hh⟩ := hr1 l (List.mem_of_getElem? hl1)
        have ha := sm _ _ h1
        have h0 : (nvs l)[0]? = some (nv n) := by
          rcases happens_cases hh with ⟨rfl, _⟩ | ⟨rfl, _⟩ | ⟨rfl, _⟩ | ⟨_, rfl, _⟩ | ⟨_, _, _, rfl, _⟩ | ⟨_, _, rfl, _⟩ <;> rfl
        have eh : (rows.take (i + 1)).filterMap Gv01Neutral.happens = (rows.take i).filterMap Gv01Neutral.happens ++ [(n, hp0)] := by
          rw [take_snoc hl1, List.filterMap_append]
          simp [hh]
        have il : i < rows.length := by
          have := (List.getElem?_eq_some_iff.mp hl1).1
          exact this
        refine ⟨_, rfl, p, rfl, .inl ⟨_, .inl hp'⟩, _, rfl, e, _, _, _, rfl, rfl, SqL.of ha, atI_nat (j := 0) h0, _, rfl, ekvs, Sum.inl (n : Int), hp', rfl, line_lt (by omega), fun v' hv => ?_, fun hn => ?_⟩
        · refine ⟨_, ekvs, rfl, sm, hp', by omega, fun m => ?_⟩
          rw [eh, find_snocE]
          rcases hent m with ⟨e', l', hp', q1, q2, q3⟩ | ⟨q1, q2⟩
          · refine .inl ⟨e', l', hp', q1, ?_, q3⟩
            rw [Option.map_eq_some_iff] at q2
            obtain ⟨x, q2, q2'⟩ := q2
            rw [q2]
            show some x.2 = _
            rw [q2']
          · have : m ≠ n := fun z => by rw [z, hv] at q1; cases q1
            refine .inr ⟨q1, ?_⟩
            rw [Option.map_eq_none_iff] at q2
            rw [q2, if_neg (fun z => this z.symm)]
            rfl
        · have np : ∀ z, ∀ ns : List Nat, ns ≠ [] → H' z = some (.lst (nvs ns)) → upd H' p (.dK (putK ekvs (Sum.inl (n : Int)) (.ref e))) z = some (.lst (nvs ns)) := fun z ns _ hz => by
            rw [upd_ne (ne_of hz hp' (by intro z; cases z))]
            exact hz
          refine ⟨_, putK ekvs (Sum.inl (n : Int)) (.ref e), rfl, fun z o hz => ?_, upd_same, Nat.le_trans (length_putK _ _ _) (by omega), fun m => ?_⟩
          · rw [upd_ne (ne_of_none hz hp)]
            exact sm z o hz
          · rw [eh, find_snocE, valV_put]
            by_cases z : m = n
            · subst z
              rw [if_pos rfl]
              rcases hent m with ⟨_, _, _, q1, _⟩ | ⟨q1, q2⟩
              · rw [hn] at q1; cases q1
              · rw [Option.map_eq_none_iff] at q2
                rw [q2, if_pos rfl]
                exact .inl ⟨e, l, hp0, rfl, rfl, np e l (happens_ne hh) ha, h2, hh⟩
            · rw [if_neg (fun c => z (inl_inj c)), if_neg (fun c => z c.symm), Option.or_none]
              exact (hent m).mono np
    · rintro σ H' ⟨v, ekvs, rfl, sm, hp', le, hent⟩
      rw [List.length_map, el, List.take_length] at hent
      exact ⟨_, rfl, q H' p ekvs hp sm hp' hent⟩
/-! ### __init__ -/
theorem blankIn {CD : Addr} {H : Hp} {S : Addr → Prop} {g : Gh} {n : Nat} {dx : Addr} (h1 : H g.a = some (.ins CD dx (dF n g.s g.c g.k false))) (h2 : H g.s = some (.dK [])) (h3 : H g.c = some (.lst [])) (h4 : H g.k = some (.dK [])) (h5 : g.s ≠ g.k) (av : ∀ q, g.mut q → ¬ S q) :
    DevIn CD H S 0 g (Gv.blank n) dx [] [] [] where
  obj := by
    have e : (Gv.blank n).blocks.length = n := List.length_replicate
    rw [e]
    exact h1
  sure := h2
  way := h3
  sick := h4
  ne := h5
  av := av
  sureOk := fun m hm => .inr ⟨rfl, by
    show (List.replicate n zeroBlock).getD m zeroBlock = zeroBlock
    rw [List.getD_eq_getElem?_getD, List.getElem?_replicate]
    split <;> rfl⟩
  wayOk := .nil
  sickOk := fun _ => rfl
  szs := Nat.le_refl _
  szk := Nat.le_refl _
def spLineInit (K : PySem.W.Frag) (CL CD : Addr) : Sp := fun vs H Q _ => ∃ (S : Addr → Prop) (p dx a b : Addr) (sizes : List Nat) (es : List Addr) (rows : List (List Nat)), vs = [.ref p, .ref a, .ref b] ∧ H p = some (.ins CL dx []) ∧ Priv H S ∧ ¬ S p ∧ SqL K H a (nvs sizes) ∧
  H b = some (.lst (es.map V.ref)) ∧ Paired (fun e l => H e = some (.lst (nvs l)) ∧ ¬ S e) es rows ∧ (∀ l ∈ rows, ∃ x, Gv01Neutral.happens l = some x) ∧ rows.length ≤ 1000 ∧ sizes.length ≤ 8 ∧
  ∀ H', LineAt CL CD H' S 0 p (Gv.simOf sizes (rows.filterMap Gv01Neutral.happens)) → (∀ q o, H q = some o → q ≠ p → H' q = some o) → Q .non H'
theorem ok_Line_init (T : Txt K mg) : FnOk P w K mg base CX0 3 T.Li.init.f T.Li.init.fd ["self", "sizes", "script"] (spLineInit K T.Li.C T.De.C) := by
  refine T.Li.init.F.ok sc_Line_init (fun vs H Q E h => ?_) (fun cdv A outer s H vs Q E hr h => ⟨_, (pss_cons
    (ps_fld (pv 0) (pe_lc (own := [("size", 3)]) (g := gName 3) (tt := tYes) (by rfl) sc_Line_init.nd (pi_list (pv 1)) (blkOk_by (own := [("size", 3)]) (N := ["self", "sizes", "script", "size"]) (sc := defScope st_Line_init) (by decide +kernel)) (fun _ _ _ _ _ => pg_name (i := 3) sc_Line_init.nd rfl (Or.inl rfl)) (fun _ _ _ _ _ => pts_nil) (fun _ _ _ _ _ => (pe_make T.De.mak (ok_Device_init T) (hr.mono (by decide)) rfl T.De.g T.De.init.b .nil pass0 (pa_cons (pv 3) pa_nil)))) rfl)
    (pss_cons
    (ps_fld (pv 0) (pe_call (ok_first_entries T) (hr.mono (by decide)) rfl T.F.g_first_entries T.F.first_entries.F.kp T.F.first_entries.b .nil pass0 (pa_cons (pv 2) pa_nil)) rfl)
    (pss_one
    (ps_fld (pv 0) pe_int rfl)))), ?_⟩)
  · obtain ⟨S, p, dx, a, b, sizes, es, rows, rfl, _⟩ := h
    rfl
  · obtain ⟨S, p, dx, a, b, sizes, es, rows, rfl, hp, pr, sp, ha, hb, pw, hr1, hl, hl8, q⟩ := h
    refine ⟨_, rfl, a, rfl, ⟨_, ha⟩, fun D hD => ?_⟩
    refine lc_list (K := K) (a := a) (xs := nvs sizes) (fun i H' => Same H H' ∧ ∃ gs : List Gh, gs.length = i ∧ H' D = some (.lst (gs.map fun g => V.ref g.a)) ∧ (∀ (j : Nat) g, gs[j]? = some g → ∃ n dx', sizes[j]? = some n ∧ DevIn T.De.C H' S 0 g (Gv.blank n) dx' [] [] []) ∧
        (∀ (j : Nat) g, gs[j]? = some g → ∀ q, g.mut q → H q = none ∧ q ≠ D) ∧ (∀ (i j : Nat) g g' q, gs[i]? = some g → gs[j]? = some g' → g.mut q → g'.mut q → i = j))
      ⟨same_upd hD, [], rfl, upd_same, fun j g h => by simp at h, fun j g h => by simp at h, fun i j g g' q h => by simp at h⟩ (fun i H' _ ⟨sm, _⟩ => sm.seq ha) ?_ ?_
    · rintro i y H' hi ⟨sm, gs, gl, hDl, hdev, hfr, hap⟩
      rw [List.getElem?_map] at hi
      cases hn : sizes[i]? with
      | none => rw [hn] at hi; cases hi
      | some n =>
        rw [hn] at hi
        obtain rfl := Option.some.inj hi
        have il : i < sizes.length := (List.getElem?_eq_some_iff.mp hn).1
        refine ⟨rfl, _, rfl, fun x dx1 nx nd ne => ?_⟩
        refine ⟨x, dx1, n, rfl, upd_same, fun H2 s c k hs hc hk sk o1 o2 o3 o4 kp => ⟨rfl, ?_⟩⟩
        have f1 : H' s = none ∧ s ≠ x ∧ s ≠ dx1 := by grind [upd]
        have f2 : H' c = none ∧ c ≠ x ∧ c ≠ dx1 := by grind [upd]
        have f3 : H' k = none ∧ k ≠ x ∧ k ≠ dx1 := by grind [upd]
        have sm2 : Same H' H2 := fun z o hz => kp z o (by rw [upd_ne (ne_of_none hz nx), upd_ne (ne_of_none hz nd)]; exact hz) (ne_of_none hz nx)
        have hD2 := sm2 _ _ hDl
        refine ⟨_, hD2, line_lt (by rw [List.length_map]; omega), ?_⟩
        have fresh : ∀ z, H' z = none → H z = none ∧ z ≠ D := fun z hz => ⟨sm.free hz, (ne_of_none hDl hz).symm⟩
        have mutn : ∀ z, (⟨x, s, c, k⟩ : Gh).mut z → H' z = none := by
          rintro z (e | e | e | e) <;> rw [e]
          · exact nx
          · exact f1.1
          · exact f2.1
          · exact f3.1
        have keepD : ∀ z o, z ≠ D → H2 z = some o → upd H2 D (.lst ((gs.map fun g => V.ref g.a) ++ [.ref x])) z = some o := fun z o n hz => by rw [upd_ne n]; exact hz
        refine ⟨fun z o hz => keepD z o (ne_of_none hz hD) (sm2 z o (sm z o hz)), gs ++ [⟨x, s, c, k⟩], by rw [List.length_append, gl]; rfl, by rw [upd_same, List.map_append]; rfl, ?_, ?_, ?_⟩
        · intro j g hj
          by_cases jl : j < gs.length
          · rw [List.getElem?_append_left jl] at hj
            obtain ⟨n', dx', e1, Dj⟩ := hdev j g hj
            refine ⟨n', dx', e1, (Dj.same sm2).mono (fun z hz o e => keepD z o (hfr j g hj z hz).2 e) (fun b bs z => z.upd (blk_ne (cs := gs.map fun g => g.a) z (by rw [List.map_map]; exact hD2))) (fun t xs z => keepD t _ (ne_of z hD2 (by intro z; cases z)) z)⟩
          · have jl2 : j < (gs ++ [(⟨x, s, c, k⟩ : Gh)]).length := (List.getElem?_eq_some_iff.mp hj).1
            rw [List.length_append] at jl2
            have ej : j = gs.length := by simp only [List.length_singleton] at jl2; omega
            rw [ej, List.getElem?_concat_length] at hj
            obtain rfl := Option.some.inj hj
            refine ⟨n, dx1, by rw [ej, gl]; exact hn, blankIn (keepD _ _ (fresh x nx).2 o1) (keepD _ _ (fresh s f1.1).2 o2) (keepD _ _ (fresh c f2.1).2 o3) (keepD _ _ (fresh k f3.1).2 o4) sk fun z hz => pr.new (fresh z (mutn z hz)).1⟩
        · intro j g hj z hz
          by_cases jl : j < gs.length
          · rw [List.getElem?_append_left jl] at hj
            exact hfr j g hj z hz
          · have jl2 : j < (gs ++ [(⟨x, s, c, k⟩ : Gh)]).length := (List.getElem?_eq_some_iff.mp hj).1
            rw [List.length_append] at jl2
            have ej : j = gs.length := by simp only [List.length_singleton] at jl2; omega
            rw [ej, List.getElem?_concat_length] at hj
            obtain rfl := Option.some.inj hj
            exact fresh z (mutn z hz)
        · have old : ∀ (j : Nat) g z, gs[j]? = some g → g.mut z → H' z ≠ none := fun j g z hj hz => by
            obtain ⟨_, _, _, Dj⟩ := hdev j g hj
            rcases hz with e | e | e | e <;> rw [e]
            · rw [Dj.obj]; simp
            · rw [Dj.sure]; simp
            · rw [Dj.way]; simp
            · rw [Dj.sick]; simp
          intro i1 j1 g g' z h1 h2 m1 m2
          have bnd : ∀ (j : Nat) g, (gs ++ [(⟨x, s, c, k⟩ : Gh)])[j]? = some g → (j < gs.length ∧ gs[j]? = some g) ∨ (j = gs.length ∧ g = ⟨x, s, c, k⟩) := fun j g hj => by
            by_cases jl : j < gs.length
            · rw [List.getElem?_append_left jl] at hj
              exact .inl ⟨jl, hj⟩
            · have jl2 : j < (gs ++ [(⟨x, s, c, k⟩ : Gh)]).length := (List.getElem?_eq_some_iff.mp hj).1
              rw [List.length_append] at jl2
              have ej : j = gs.length := by simp only [List.length_singleton] at jl2; omega
              rw [ej, List.getElem?_concat_length] at hj
              exact .inr ⟨ej, (Option.some.inj hj).symm⟩
          rcases bnd i1 g h1 with ⟨_, b1⟩ | ⟨b1, rfl⟩ <;> rcases bnd j1 g' h2 with ⟨_, b2⟩ | ⟨b2, e2⟩
          · exact hap i1 j1 g g' z b1 b2 m1 m2
          · rw [e2] at m2
            exact absurd (mutn z m2) (old i1 g z b1 m1)
          · exact absurd (mutn z m1) (old j1 g' z b2 m2)
          · rw [b1, b2]
    · rintro H1 ⟨sm, gs, gl, hDl, hdev, hfr, hap⟩
      rw [List.length_map] at gl
      have hp1 := sm _ _ hp
      refine ⟨_, rfl, p, T.Li.C, dx, _, rfl, hp1, T.Li.cl, T.Li.n_devices, (by show 0 < 1000; decide), ?_⟩
      have np : ∀ z o, (∀ fs, o ≠ HO.ins T.Li.C dx fs) → ∀ fs, H1 z = some o → upd H1 p (.ins T.Li.C dx fs) z = some o := fun z o n fs hz => by
        rw [upd_ne (ne_of hz hp1 (n _))]
        exact hz
      refine ⟨_, rfl, ?_⟩
      refine ⟨S, b, es, rows, rfl, np _ _ (fun _ z => by cases z) _ (sm _ _ hb), paired_imp (fun e l z => ⟨np _ _ (fun _ z => by cases z) _ (sm _ _ z.1), z.2⟩) pw, hr1, hl, fun H2 en ekvs hen sm2 hd2 hent => ?_⟩
      have hen1 : H1 en = none := (none_upd hen).1
      have enp : en ≠ p := (none_upd hen).2
      have hp2 := sm2 p _ upd_same
      refine ⟨_, rfl, p, T.Li.C, dx, _, rfl, hp2, T.Li.cl, T.Li.n_entries, (by show 1 < 1000; decide), ?_⟩
      refine ⟨_, rfl, p, T.Li.C, dx, _, rfl, upd_same, T.Li.cl, T.Li.n_ask_count, (by show 2 < 1000; decide), ?_⟩
      have k2 : ∀ z o, z ≠ p → H1 z = some o → ∀ u v, upd (upd H2 p u) p v z = some o := fun z o n hz u v => by
        rw [upd_ne n, upd_ne n]
        exact sm2 z o (by rw [upd_ne n]; exact hz)
      have kk : ∀ z o, (∀ fs, o ≠ HO.ins T.Li.C dx fs) → H2 z = some o → ∀ u v, upd (upd H2 p u) p v z = some o := fun z o n hz u v => by
        have n1 : z ≠ p := ne_of hz hp2 (n _)
        rw [upd_ne n1, upd_ne n1]
        exact hz
      refine q _ ⟨dx, D, en, gs, ekvs, ?_⟩ fun z o hz n => k2 z o n (sm z o hz) _ _
      have mtr : ∀ (j : Nat) g z, gs[j]? = some g → g.mut z → z ≠ p ∧ H1 z ≠ none := fun j g z hj hz => by
        refine ⟨fun e => ?_, ?_⟩
        · have := (hfr j g hj z hz).1
          rw [e, hp] at this
          cases this
        · obtain ⟨_, _, _, Dj⟩ := hdev j g hj
          rcases hz with e | e | e | e <;> rw [e]
          · rw [Dj.obj]; simp
          · rw [Dj.sure]; simp
          · rw [Dj.way]; simp
          · rw [Dj.sick]; simp
      refine ⟨?_, k2 D _ (ne_of hDl hp1 (by intro z; cases z)) hDl _ _, kk en _ (fun _ z => by cases z) hd2 _ _, sp, pr.new hD, pr.new (sm.free hen1), ?_, ?_, hap, ?_, ?_⟩
      · rw [upd_same]
        rfl
      · show gs.length = (sizes.map Gv.blank).length
        rw [gl, List.length_map]
      · intro i g d h1 h2
        obtain ⟨n, dx', e1, Dj⟩ := hdev i g h1
        have h2' : (sizes.map Gv.blank)[i]? = some d := h2
        rw [List.getElem?_map, e1] at h2'
        obtain rfl := Option.some.inj h2'
        exact ⟨dx', [], [], [], Dj.mono (fun z hz o e => k2 z o (mtr i g z h1 hz).1 e _ _) (fun b bs z => ⟨k2 b _ (ne_of z.at_ hp1 (by intro z; cases z)) z.at_ _ _, z.ok⟩) (fun t xs z => k2 t _ (ne_of z hp1 (by intro z; cases z)) z _ _)⟩
      · intro i g h1
        refine ⟨fun z => (mtr i g p h1 z).1 rfl, fun z => (hfr i g h1 D z).2 rfl, fun z => (mtr i g en h1 z).2 hen1⟩
      · intro n
        exact (hent n).mono fun b ns _ z => kk b _ (fun _ z => by cases z) z _ _
end
end Mp
namespace Mp
open PySem PySem.Spec PyProof.Rows L2
open Gv (Bytes)
/-! ### the sums' mathematics -/
def crcN : Nat → Nat → Nat
  | 0, c => c
  | n + 1, c => Gv.crcBit (crcN n c)
theorem crcN_fold (c : Nat) : ∀ n, (List.range n).foldl (fun x _ => Gv.crcBit x) c = crcN n c
  | 0 => rfl
  | n + 1 => by
    rw [List.range_succ, List.foldl_append, crcN_fold c n]
    rfl
def crc8 (c : Nat) : Nat := crcN 8 c
theorem crcByte_eq (c b : Nat) : Gv.crcByte c b = crc8 (c ^^^ b) := crcN_fold _ 8
theorem xor4 (a b c d : Nat) : (a ^^^ b) ^^^ (c ^^^ d) = (a ^^^ c) ^^^ (b ^^^ d) := by
  rw [Nat.xor_assoc, Nat.xor_assoc, ← Nat.xor_assoc b c d, Nat.xor_comm b c, Nat.xor_assoc c b d]
theorem crcBit_xor (a b : Nat) : Gv.crcBit (a ^^^ b) = Gv.crcBit a ^^^ Gv.crcBit b := by
  unfold Gv.crcBit
  rw [Nat.xor_div_two]
  have h := @Nat.xor_mod_two_eq_one a b
  by_cases ha : a % 2 = 1 <;> by_cases hb : b % 2 = 1
  · rw [if_pos ha, if_pos hb, if_neg (by rw [h]; simp [ha, hb]), xor4, Nat.xor_self, Nat.xor_zero]
  · rw [if_pos ha, if_neg hb, if_pos (by rw [h]; simp [ha, hb]), Nat.xor_assoc, Nat.xor_comm (b / 2), ← Nat.xor_assoc]
  · rw [if_neg ha, if_pos hb, if_pos (by rw [h]; simp [ha, hb]), Nat.xor_assoc]
  · rw [if_neg ha, if_neg hb, if_neg (by rw [h]; simp [ha, hb])]
theorem crcN_xor (a b : Nat) : ∀ n, crcN n (a ^^^ b) = crcN n a ^^^ crcN n b
  | 0 => rfl
  | n + 1 => by
    show Gv.crcBit (crcN n (a ^^^ b)) = _
    rw [crcN_xor a b n, crcBit_xor]
    rfl
theorem crcN_comm (c : Nat) : ∀ n, crcN n (Gv.crcBit c) = Gv.crcBit (crcN n c)
  | 0 => rfl
  | n + 1 => congrArg Gv.crcBit (crcN_comm c n)
theorem crcBit_even (m : Nat) : Gv.crcBit (2 * m) = m := by
  unfold Gv.crcBit
  rw [if_neg (by omega)]
  omega
theorem crcN_pow (m : Nat) : ∀ n, crcN n (2 ^ n * m) = m
  | 0 => by show 2 ^ 0 * m = m; omega
  | n + 1 => by
    have e : 2 ^ (n + 1) * m = 2 * (2 ^ n * m) := by rw [Nat.pow_succ, Nat.mul_comm (2 ^ n) 2, Nat.mul_assoc]
    show Gv.crcBit (crcN n _) = m
    rw [← crcN_comm, e, crcBit_even, crcN_pow m n]
theorem split_xor (x : Nat) : x = (x % 256) ^^^ (256 * (x / 256)) := by
  apply Nat.eq_of_testBit_eq
  intro i
  rw [Nat.testBit_xor, show (256 : Nat) = 2 ^ 8 from rfl, Nat.testBit_mod_two_pow, Nat.testBit_two_pow_mul]
  by_cases h : i < 8
  · rw [decide_eq_true h, decide_eq_false (by omega)]
    simp
  · rw [decide_eq_false h, decide_eq_true (by omega), Nat.testBit_div_two_pow]
    simp [show i - 8 + 8 = i by omega]
theorem crc8_split (x : Nat) : crc8 x = crc8 (x % 256) ^^^ (x / 256) := by
  have h : crc8 x = crc8 ((x % 256) ^^^ (256 * (x / 256))) := congrArg crc8 (split_xor x)
  rw [h]
  unfold crc8
  rw [crcN_xor, show (256 : Nat) * (x / 256) = 2 ^ 8 * (x / 256) from rfl, crcN_pow]
def steps : List Nat := (List.range 256).map crc8
theorem steps_get (i : Nat) (h : i < 256) : steps[i]? = some (crc8 i) := by
  unfold steps
  rw [List.getElem?_map, List.getElem?_range h]
  rfl
/-- one byte by the table -/
theorem byte_step (c b : Nat) (hb : b < 256) : Gv.crcByte c b = crc8 ((c ^^^ b) % 256) ^^^ (c / 256) := by
  rw [crcByte_eq, crc8_split, show (256 : Nat) = 2 ^ 8 from rfl, Nat.xor_div_two_pow, Nat.div_eq_of_lt (a := b) hb, Nat.xor_zero]
theorem crcBit_lt {c : Nat} (h : c < 2 ^ 64) : Gv.crcBit c < 2 ^ 64 := by
  unfold Gv.crcBit
  split
  · exact Nat.xor_lt_two_pow (by omega) (by decide)
  · omega
theorem nv_fmod (a b : Nat) (h : 0 < b) : (a : Int).fmod (b : Int) = ((a % b : Nat) : Int) := by
  rw [Int.fmod_eq_emod_of_nonneg _ (by omega)]
  exact (Int.natCast_emod a b).symm
theorem nv_xor (a b : Nat) : Builtin.bitXor (a : Int) (b : Int) = ((a ^^^ b : Nat) : Int) := by
  rw [Bits.bitXor_pp (Int.natCast_nonneg a) (Int.natCast_nonneg b), Int.toNat_natCast, Int.toNat_natCast]
theorem nv_and (a b : Nat) : Builtin.bitAnd (a : Int) (b : Int) = ((a &&& b : Nat) : Int) := by
  rw [bitAnd_pp (Int.natCast_nonneg a) (Int.natCast_nonneg b), Int.toNat_natCast, Int.toNat_natCast]
theorem nv_shr (a : Nat) (j : Int) (k : Nat) (h : j = (k : Int)) : (a : Int) / 2 ^ j.toNat = ((a / 2 ^ k : Nat) : Int) := by
  rw [h, Int.toNat_natCast, Int.natCast_ediv, Int.natCast_pow]
  rfl
section
variable {P : Program} {w : World} {K : PySem.W.Frag} {mg : Str → Option Value} {base : Heap}
/-! ### divided -/
def spDivided : Sp := fun vs H Q _ => ∃ c : Nat, vs = [nv c] ∧ Q (nv (crc8 c)) H
theorem ok_divided (T : Txt K mg) : FnOk P w K mg base CX0 1 T.F.divided.f T.F.divided.fd ["c"] (spDivided) := by
  refine T.F.divided.F.ok sc_divided (fun vs H Q E h => ?_) (fun cdv A outer s H vs Q E hr h => ⟨_, (pss_cons
    (ps_for PassesOwn.never rfl (pi_range1 rfl T.G.n_range (pa_cons pe_int pa_nil)) (pg_name (i := 1) sc_divided.nd rfl (Or.inl rfl)) (pss_one
    (ps_if (pt_cmpR op_eq (pe_op op_modN (pv 0) pe_int) pe_int (nomark _)) (pss_one
    (ps_set (i := 0) sc_divided.nd rfl (Or.inl rfl) (pe_op op_xor (pe_op op_shr (pv 0) pe_int) (pe_gint T.G.c_DIVISOR)))) (pss_one
    (ps_set (i := 0) sc_divided.nd rfl (Or.inl rfl) (pe_op op_shr (pv 0) pe_int))))))
    (pss_one
    (ps_ret (pv 0)))), ?_⟩)
  · obtain ⟨c, rfl, _⟩ := h
    rfl
  · obtain ⟨c, rfl, q⟩ := h
    refine ⟨8, rfl, by decide, by decide, for_range (n := 8) (fun i σ H' => H' = H ∧ ∃ v, σ = [some (nv (crcN i c)), v]) ⟨rfl, none, rfl⟩ ?_ ?_⟩
    · rintro i σ H' hi ⟨rfl, v, rfl⟩
      refine ⟨_, rfl, _, _, rfl, rfl, (by show (2 : Int) ≠ 0; decide), rfl, _, rfl, ?_⟩
      have e1 : ((crcN i c : Nat) : Int).fmod 2 = ((crcN i c % 2 : Nat) : Int) := nv_fmod _ 2 (by decide)
      have e2 : ((crcN i c : Nat) : Int) / 2 ^ (1 : Int).toNat = ((crcN i c / 2 : Nat) : Int) := nv_shr _ 1 1 rfl
      by_cases h : crcN i c % 2 = 1
      · refine if_t (decide_eq_true (congrArg V.int (e1.trans (by rw [h]; rfl)))) ?_
        refine ⟨_, rfl, _, _, rfl, rfl, (by show (0 : Int) ≤ 1; decide), _, _, rfl, rfl, rfl, some (.int (0 + (i : Int))), ?_⟩
        have e3 : Builtin.bitXor (((crcN i c : Nat) : Int) / 2 ^ (1 : Int).toNat) 14514072000185962306 = ((crcN (i + 1) c : Nat) : Int) := by
          rw [e2]
          have := nv_xor (crcN i c / 2) 14514072000185962306
          refine this.trans ?_
          show _ = ((Gv.crcBit (crcN i c) : Nat) : Int)
          unfold Gv.crcBit
          rw [if_pos h]
          rfl
        show [some (V.int (Builtin.bitXor (((crcN i c : Nat) : Int) / 2 ^ (1 : Int).toNat) 14514072000185962306)), some (.int (0 + (i : Int)))] = _
        rw [e3]
      · refine if_f (decide_eq_false fun z => h (by have := e1.symm.trans (V.int.inj z); omega)) ?_
        refine ⟨_, rfl, _, _, rfl, rfl, (by show (0 : Int) ≤ 1; decide), rfl, some (.int (0 + (i : Int))), ?_⟩
        have e3 : ((crcN i c : Nat) : Int) / 2 ^ (1 : Int).toNat = ((crcN (i + 1) c : Nat) : Int) := by
          rw [e2]
          show _ = ((Gv.crcBit (crcN i c) : Nat) : Int)
          unfold Gv.crcBit
          rw [if_neg h]
        show [some (V.int (((crcN i c : Nat) : Int) / 2 ^ (1 : Int).toNat)), some (.int (0 + (i : Int)))] = _
        rw [e3]
    · rintro σ H' ⟨rfl, v, rfl⟩
      exact ⟨_, rfl, q⟩
/-! ### place_bytes -/
theorem le_snoc (p n : Nat) : Gv.le (n + 1) p = Gv.le n p ++ [p / 256 ^ n % 256] := by
  unfold Gv.le
  rw [List.range_succ, List.map_append]
  rfl
def spPlaceBytes : Sp := fun vs H Q _ => ∃ p : Nat, vs = [nv p] ∧ ∀ a, H a = none → Q (.ref a) (upd H a (.lst (nvs (Gv.le 8 p))))
theorem ok_place_bytes (T : Txt K mg) : FnOk P w K mg base CX0 1 T.F.place_bytes.f T.F.place_bytes.fd ["place"] (spPlaceBytes) := by
  refine T.F.place_bytes.F.ok sc_place_bytes (fun vs H Q E h => ?_) (fun cdv A outer s H vs Q E hr h => ⟨_, (pss_one
    (ps_ret (pe_lc (own := [("i", 1)]) (g := gName 1) (tt := tYes) (by rfl) sc_place_bytes.nd (pi_range1 rfl T.G.n_range (pa_cons pe_int pa_nil)) (blkOk_by (own := [("i", 1)]) (N := ["place", "i"]) (sc := defScope st_place_bytes) (by decide +kernel)) (fun _ _ _ _ _ => pg_name (i := 1) sc_place_bytes.nd rfl (Or.inl rfl)) (fun _ _ _ _ _ => pts_nil) (fun _ _ _ _ _ => (pe_op op_and (pe_op op_shr (pv 0) (pe_op op_mul pe_int (pv 1))) pe_int))))), ?_⟩)
  · obtain ⟨p, rfl, _⟩ := h
    rfl
  · obtain ⟨p, rfl, q⟩ := h
    refine ⟨8, rfl, by decide, by decide, fun D hD => ?_⟩
    refine lc_range (lo := 0) (n := 8) (fun i H' => H' = upd H D (.lst (nvs (Gv.le i p)))) rfl ?_ ?_
    · rintro i H' hi rfl
      refine ⟨rfl, _, rfl, _, rfl, _, _, rfl, rfl, .inl ⟨by decide, by decide⟩, _, _, rfl, rfl, ?_, _, _, rfl, rfl, ?_⟩
      · show (0 : Int) ≤ 8 * (0 + (i : Int))
        omega
      · have e1 : ((p : Int) / 2 ^ ((8 : Int) * (0 + (i : Int))).toNat) = ((p / 2 ^ (8 * i) : Nat) : Int) := nv_shr p _ (8 * i) (by omega)
        have e2 : Builtin.bitAnd ((p : Int) / 2 ^ ((8 : Int) * (0 + (i : Int))).toNat) 255 = ((p / 256 ^ i % 256 : Nat) : Int) := by
          rw [e1]
          refine (nv_and (p / 2 ^ (8 * i)) 255).trans ?_
          rw [show (255 : Nat) = 2 ^ 8 - 1 from rfl, Nat.and_two_pow_sub_one_eq_mod, Nat.pow_mul]
        refine ⟨_, upd_same, line_lt (by rw [List.length_map]; unfold Gv.le; rw [List.length_map, List.length_range]; omega), ?_⟩
        rw [upd_upd]
        show upd H D (.lst (nvs (Gv.le i p) ++ [V.int (Builtin.bitAnd ((p : Int) / 2 ^ ((8 : Int) * (0 + (i : Int))).toNat) 255)])) = _
        rw [e2, le_snoc]
        show _ = upd H D (.lst (List.map nv (_ ++ _)))
        rw [List.map_append]
        rfl
    · rintro H' rfl
      exact q D hD
/-! ### the table -/
def SumsAt (CS : Addr) (H : Hp) (sm st : Addr) : Prop := (∃ dx, H sm = some (.ins CS dx [("steps", .ref st)])) ∧ H st = some (.lst (nvs steps))
def spSumsInit (CS : Addr) : Sp := fun vs H Q _ => ∃ p dx, vs = [.ref p] ∧ H p = some (.ins CS dx []) ∧ ∀ H' st, H st = none → SumsAt CS H' p st → (∀ q o, H q = some o → q ≠ p → H' q = some o) → Q .non H'
theorem ok_Sums_init (T : Txt K mg) : FnOk P w K mg base CX0 2 T.Su.init.f T.Su.init.fd ["self"] (spSumsInit T.Su.C) := by
  refine T.Su.init.F.ok sc_Sums_init (fun vs H Q E h => ?_) (fun cdv A outer s H vs Q E hr h => ⟨_, (pss_one
    (ps_fld (pv 0) (pe_lc (own := [("low", 1)]) (g := gName 1) (tt := tYes) (by rfl) sc_Sums_init.nd (pi_range1 rfl T.G.n_range (pa_cons pe_int pa_nil)) (blkOk_by (own := [("low", 1)]) (N := ["self", "low"]) (sc := defScope st_Sums_init) (by decide +kernel)) (fun _ _ _ _ _ => pg_name (i := 1) sc_Sums_init.nd rfl (Or.inl rfl)) (fun _ _ _ _ _ => pts_nil) (fun _ _ _ _ _ => (pe_call (ok_divided T) (hr.mono (by decide)) rfl T.F.g_divided T.F.divided.F.kp T.F.divided.b .nil pass0 (pa_cons (pv 1) pa_nil)))) rfl)), ?_⟩)
  · obtain ⟨p, dx, rfl, _⟩ := h
    rfl
  · obtain ⟨p, dx, rfl, hp, q⟩ := h
    refine ⟨256, rfl, by decide, by decide, fun D hD => ?_⟩
    refine lc_range (lo := 0) (n := 256) (fun i H' => H' = upd H D (.lst (nvs ((List.range i).map crc8)))) rfl ?_ ?_
    · rintro i H' hi rfl
      refine ⟨rfl, _, rfl, i, ?_, ?_⟩
      · rw [Int.zero_add]
        rfl
      · refine ⟨_, upd_same, line_lt (by rw [List.length_map, List.length_map, List.length_range]; omega), ?_⟩
        rw [upd_upd, List.range_succ, List.map_append]
        show _ = upd H D (.lst (List.map nv (_ ++ _)))
        rw [List.map_append]
        rfl
    · rintro H' rfl
      refine ⟨_, rfl, p, T.Su.C, dx, _, rfl, (by rw [upd_ne (ne_of_none hp hD)]; exact hp), T.Su.cl, T.Su.n_steps, (by show 0 < 1000; decide), ?_⟩
      refine q _ D hD ⟨⟨dx, by rw [upd_same]; rfl⟩, by rw [upd_ne (ne_of_none hp hD).symm, upd_same]; rfl⟩ fun z o hz n => by rw [upd_ne n, upd_ne (ne_of_none hz hD)]; exact hz
/-! ### of_block -/
theorem crc_snoc (l : List Nat) (b : Nat) (c : Nat) : (l ++ [b]).foldl Gv.crcByte c = Gv.crcByte (l.foldl Gv.crcByte c) b := by
  rw [List.foldl_append]
  rfl
theorem le_lt (p n : Nat) : ∀ x ∈ Gv.le n p, x < 256 := fun x hx => by
  unfold Gv.le at hx
  rw [List.mem_map] at hx
  obtain ⟨i, _, rfl⟩ := hx
  exact Nat.mod_lt _ (by decide)
def spOfBlock (CS : Addr) : Sp := fun vs H Q _ => ∃ sm st, ∃ p : Nat, ∃ b bs, vs = [.ref sm, nv p, .ref b] ∧ SumsAt CS H sm st ∧ BlkAt H b bs ∧ ∀ H', Same H H' → Q (nv (Gv.sum p bs)) H'
theorem ok_Sums_of_block (T : Txt K mg) : FnOk P w K mg base CX0 2 T.Su.of_block.f T.Su.of_block.fd ["self", "place", "block"] (spOfBlock T.Su.C) := by
  refine T.Su.of_block.F.ok sc_Sums_of_block (fun vs H Q E h => ?_) (fun cdv A outer s H vs Q E hr h => ⟨_, (pss_cons
    (ps_set (i := 3) sc_Sums_of_block.nd rfl (Or.inl rfl) (pe_gint T.G.c_ALL_ONES))
    (pss_cons
    (ps_for PassesOwn.never rfl (pi_list (pe_op op_cat (pe_call (ok_place_bytes T) (hr.mono (by decide)) rfl T.F.g_place_bytes T.F.place_bytes.F.kp T.F.place_bytes.b .nil pass0 (pa_cons (pv 1) pa_nil)) (pv 2))) (pg_name (i := 4) sc_Sums_of_block.nd rfl (Or.inl rfl)) (pss_one
    (ps_set (i := 3) sc_Sums_of_block.nd rfl (Or.inl rfl) (pe_op op_xor (pe_ix ix_list (pe_fld (pv 0) rfl) (pe_op op_and (pe_op op_xor (pv 3) (pv 4)) pe_int) (fun _ _ => rfl)) (pe_op op_shr (pv 3) pe_int)))))
    (pss_one
    (ps_ret (pe_op op_xor (pv 3) (pe_gint T.G.c_ALL_ONES)))))), ?_⟩)
  · obtain ⟨sm, st, p, b, bs, rfl, _⟩ := h
    rfl
  · obtain ⟨sm, st, p, b, bs, rfl, ⟨⟨dx, h1⟩, h2⟩, hb, q⟩ := h
    refine ⟨_, rfl, p, rfl, fun a ha => ?_⟩
    have s1 := same_upd (o := .lst (nvs (Gv.le 8 p))) ha
    have l8 : (Gv.le 8 p).length = 8 := by unfold Gv.le; rw [List.length_map, List.length_range]
    refine ⟨_, rfl, a, b, _, _, rfl, rfl, upd_same, s1 _ _ hb.at_, line_le (by rw [List.length_map, List.length_map, l8, hb.len]; omega), fun r hr2 => ?_⟩
    have s2 := s1.trans (same_upd (o := .lst (nvs (Gv.le 8 p) ++ nvs bs)) hr2)
    have el : nvs (Gv.le 8 p) ++ nvs bs = nvs (Gv.le 8 p ++ bs) := List.map_append.symm
    have hlt : ∀ x ∈ Gv.le 8 p ++ bs, x < 256 := fun x hx => by
      rcases List.mem_append.mp hx with z | z
      · exact le_lt p 8 x z
      · exact isBlock_lt hb.ok x z
    refine ⟨r, rfl, ⟨_, SqL.of upd_same⟩, ?_⟩
    refine for_list (xs := nvs (Gv.le 8 p ++ bs)) (fun i σ H' => H' = upd (upd H a (.lst (nvs (Gv.le 8 p)))) r (.lst (nvs (Gv.le 8 p) ++ nvs bs)) ∧ ∃ v, σ = [some (.ref sm), some (nv p), some (.ref b), some (nv (((Gv.le 8 p ++ bs).take i).foldl Gv.crcByte (2 ^ 64 - 1))), v])
      ⟨rfl, none, rfl⟩ (fun i σ H' _ ⟨e, _⟩ => by rw [e, ← el]; exact SqL.of upd_same) ?_ ?_
    · rintro i y σ H' hi ⟨rfl, v, rfl⟩
      have hi2 : (List.map nv (Gv.le 8 p ++ bs))[i]? = some y := hi
      rw [List.getElem?_map] at hi2
      cases hn : (Gv.le 8 p ++ bs)[i]? with
      | none => rw [hn] at hi2; cases hi2
      | some n =>
        rw [hn] at hi2
        obtain rfl := Option.some.inj hi2
        have n256 : n < 256 := hlt n (List.mem_of_getElem? hn)
        obtain ⟨c0, hc0⟩ : ∃ c0, c0 = ((Gv.le 8 p ++ bs).take i).foldl Gv.crcByte (2 ^ 64 - 1) := ⟨_, rfl⟩
        rw [← hc0]
        have e : Builtin.bitAnd (Builtin.bitXor (c0 : Int) (n : Int)) 255 = (((c0 ^^^ n) % 256 : Nat) : Int) := by
          rw [nv_xor]
          refine (nv_and _ 255).trans ?_
          rw [show (255 : Nat) = 2 ^ 8 - 1 from rfl, Nat.and_two_pow_sub_one_eq_mod]
        have hat : atI (nvs steps) (Builtin.bitAnd (Builtin.bitXor (c0 : Int) (n : Int)) 255) = some (nv (crc8 ((c0 ^^^ n) % 256))) := by
          rw [e]
          refine atI_nat ?_
          show (List.map nv steps)[_]? = _
          rw [List.getElem?_map, steps_get _ (Nat.mod_lt _ (by decide))]
          rfl
        refine ⟨_, rfl, sm, T.Su.C, dx, _, _, rfl, s2 _ _ h1, T.Su.cl, T.Su.n_steps, lk_here, _, rfl, _, rfl, _, _, rfl, rfl, _, _, rfl, rfl, st, nvs steps, _, nv (crc8 ((c0 ^^^ n) % 256)), rfl, rfl, SqL.of (s2 _ _ h2), hat, ?_⟩
        refine ⟨_, rfl, _, _, rfl, rfl, (by show (0 : Int) ≤ 8; decide), _, _, rfl, rfl, rfl, some (nv n), ?_⟩
        have e3 : Builtin.bitXor ((crc8 ((c0 ^^^ n) % 256) : Nat) : Int) ((c0 : Int) / 2 ^ (8 : Int).toNat) = ((((Gv.le 8 p ++ bs).take (i + 1)).foldl Gv.crcByte (2 ^ 64 - 1) : Nat) : Int) := by
          rw [nv_shr c0 8 8 rfl, nv_xor, take_snoc hn, crc_snoc, ← hc0, byte_step c0 n n256]
        show [some (V.ref sm), some (nv p), some (V.ref b), some (V.int (Builtin.bitXor ((crc8 ((c0 ^^^ n) % 256) : Nat) : Int) ((c0 : Int) / 2 ^ (8 : Int).toNat))), some (nv n)] = _
        rw [e3]
    · rintro σ H' ⟨rfl, v, rfl⟩
      rw [show (nvs (Gv.le 8 p ++ bs)).length = (Gv.le 8 p ++ bs).length from List.length_map .., List.take_length]
      refine ⟨_, rfl, _, _, rfl, rfl, ?_⟩
      have e : Builtin.bitXor (((Gv.le 8 p ++ bs).foldl Gv.crcByte (2 ^ 64 - 1) : Nat) : Int) 18446744073709551615 = ((Gv.sum p bs : Nat) : Int) := (nv_xor _ 18446744073709551615).trans rfl
      have q2 := q _ s2
      show Q (.int (Builtin.bitXor (((Gv.le 8 p ++ bs).foldl Gv.crcByte (2 ^ 64 - 1) : Nat) : Int) 18446744073709551615)) _
      rw [e]
      exact q2
end
end Mp
namespace Mp
open PySem PySem.Spec PyProof.Rows L2
open Gv (Bytes Dev zeroBlock isBlock Sim Happens Prog Ask Reply Ptr)
open Gv01 (Pool)
/-! ### programs that ask, played -/
theorem play_ret {α : Type} (a : α) (s : Sim) : Gv.play (.ret a) s = (some a, s) := rfl
theorem play_ask {α : Type} (q : Ask) (k : Reply → Prog α) (s : Sim) : Gv.play (.ask q k) s = match s.answer q with | (some r, t) => Gv.play (k r) t | (none, t) => (none, t) := by
  rw [Gv.play]
  rcases h : s.answer q with ⟨_ | r, t⟩ <;> rfl
theorem play_ask1 (q : Ask) (s : Sim) : Gv.play (Gv.ask q) s = s.answer q := by
  unfold Gv.ask
  rw [play_ask]
  rcases h : s.answer q with ⟨_ | r, t⟩ <;> rfl
theorem play_bind {α β : Type} : ∀ (x : Prog α) (f : α → Prog β) (s : Sim), Gv.play (x.bind f) s = match Gv.play x s with | (some a, t) => Gv.play (f a) t | (none, t) => (none, t)
  | .ret a, f, s => rfl
  | .ask q k, f, s => by
    show Gv.play (.ask q fun r => (k r).bind f) s = _
    rw [play_ask, play_ask]
    match h : s.answer q with
    | (some r, t) => exact play_bind (k r) f t
    | (none, t) => rfl
theorem bind_ret {α : Type} : ∀ x : Prog α, x.bind .ret = x
  | .ret a => rfl
  | .ask q k => by
    show Prog.ask q (fun r => (k r).bind .ret) = _
    congr 1
    funext r
    exact bind_ret (k r)
theorem bind_assoc {α β γ : Type} (f : α → Prog β) (g : β → Prog γ) : ∀ x : Prog α, (x.bind f).bind g = x.bind fun a => (f a).bind g
  | .ret a => rfl
  | .ask q k => by
    show Prog.ask q (fun r => ((k r).bind f).bind g) = Prog.ask q (fun r => (k r).bind fun a => (f a).bind g)
    congr 1
    funext r
    exact bind_assoc f g (k r)
/-! ### pools -/
structure Good (p : Pool) : Prop where
  cfg : Gv01.configOk p.mirrors p.blocks = true
  len : p.states.length = 8
theorem apart_nodup : ∀ {l : List Nat}, Gv01.apart l = true → l.Nodup
  | [], _ => List.nodup_nil
  | x :: r, h => by
    unfold Gv01.apart at h
    rw [Bool.and_eq_true] at h
    refine List.nodup_cons.mpr ⟨fun z => ?_, apart_nodup h.2⟩
    have := h.1
    rw [List.contains_iff_mem.mpr z] at this
    cases this
theorem nodup_apart : ∀ {l : List Nat}, l.Nodup → Gv01.apart l = true
  | [], _ => rfl
  | x :: r, h => by
    have h := List.nodup_cons.mp h
    unfold Gv01.apart
    rw [Bool.and_eq_true]
    refine ⟨?_, nodup_apart h.2⟩
    cases e : r.contains x
    · rfl
    · exact absurd (List.contains_iff_mem.mp e) h.1
section
variable {p : Pool}
theorem Good.ne (h : Good p) : p.mirrors ≠ [] := fun e => by
  have := h.cfg
  rw [e] at this
  unfold Gv01.configOk at this
  simp at this
theorem Good.rows (h : Good p) : ∀ m ∈ p.mirrors, 1 ≤ m.length ∧ m.length ≤ 3 := by
  have := h.cfg
  unfold Gv01.configOk at this
  simp only [Bool.and_eq_true, List.all_eq_true, decide_eq_true_eq] at this
  exact this.2.1
theorem Good.nodup (h : Good p) : p.devices.Nodup := by
  have := h.cfg
  unfold Gv01.configOk at this
  simp only [Bool.and_eq_true, List.all_eq_true, decide_eq_true_eq] at this
  exact apart_nodup this.2.2.1
theorem Good.lt (h : Good p) : ∀ d ∈ p.devices, d < 8 := by
  have := h.cfg
  unfold Gv01.configOk at this
  simp only [Bool.and_eq_true, List.all_eq_true, decide_eq_true_eq] at this
  exact this.2.2.2.1
theorem Good.blocks (h : Good p) : 16 ≤ p.blocks ∧ p.blocks ≤ 65536 := by
  have := h.cfg
  unfold Gv01.configOk at this
  simp only [Bool.and_eq_true, List.all_eq_true, decide_eq_true_eq] at this
  exact this.2.2.2.2
theorem Good.row_in (h : Good p) {m : List Nat} (hm : m ∈ p.mirrors) : ∀ d ∈ m, d ∈ p.devices := fun d hd => List.mem_flatten.mpr ⟨m, hm, hd⟩
theorem Good.row_nodup (h : Good p) {m : List Nat} (hm : m ∈ p.mirrors) : m.Nodup := h.nodup.sublist (List.sublist_flatten_of_mem hm)
theorem dev_len8 (h : Good p) : p.devices.length ≤ 8 := by
  have := h.nodup.length_le_of_subset (l₂ := List.range 8) fun d hd => List.mem_range.mpr (h.lt d hd)
  rwa [List.length_range] at this
theorem has_iff (d : Nat) : p.has d = true ↔ d ∈ p.devices := List.contains_iff_mem
theorem set_devices (d s : Nat) : (p.set d s).devices = p.devices := by
  unfold Gv01.Pool.set
  split <;> rfl
theorem set_mirrors (d s : Nat) : (p.set d s).mirrors = p.mirrors := by
  unfold Gv01.Pool.set
  split <;> rfl
theorem set_blocks (d s : Nat) : (p.set d s).blocks = p.blocks := by
  unfold Gv01.Pool.set
  split <;> rfl
theorem Good.set (h : Good p) (d s : Nat) : Good (p.set d s) := ⟨by rw [set_mirrors, set_blocks]; exact h.cfg, by
  unfold Gv01.Pool.set
  split
  · show (p.states.set d s).length = 8
    rw [List.length_set]
    exact h.len
  · exact h.len⟩
theorem has_set (d s x : Nat) : (p.set d s).has x = p.has x := by
  unfold Gv01.Pool.has
  rw [set_devices]
theorem state_set (h : Good p) {d : Nat} (hd : d ∈ p.devices) (s x : Nat) (hx : x ∈ p.devices) : (p.set d s).state x = if x = d then s else p.state x := by
  unfold Gv01.Pool.state
  rw [has_set, if_pos ((has_iff x).mpr hx), if_pos ((has_iff x).mpr hx)]
  unfold Gv01.Pool.set
  rw [if_pos ((has_iff d).mpr hd)]
  exact set_getD _ _ _ _ _ (by rw [h.len]; exact h.lt d hd)
end
/-! ### put, to all of a list -/
def putL (k : Nat) (b : Bytes) : Pool → List Nat → Prog (Pool × Bool)
  | p, [] => .ret (p, false)
  | p, d :: r => (Gv01.put p d k b).bind fun x => (putL k b x.1 r).bind fun y => .ret (y.1, (x.2 && p.state d == Gv01.GOOD) || y.2)
theorem put_congr {α : Type} {p : Pool} {d k : Nat} {b : Bytes} {f g : Pool × Bool → Prog α} (h1 : f (p, true) = g (p, true)) (h2 : f (Gv01.out p d, false) = g (Gv01.out p d, false)) : (Gv01.put p d k b).bind f = (Gv01.put p d k b).bind g := by
  unfold Gv01.put
  rw [bind_assoc, bind_assoc]
  show Prog.ask _ _ = Prog.ask _ _
  congr 1
  funext r
  show Prog.bind (if r = .ok then _ else _) f = Prog.bind (if r = .ok then _ else _) g
  by_cases c : r = .ok
  · rw [if_pos c]
    exact h1
  · rw [if_neg c]
    show Prog.ask _ _ = Prog.ask _ _
    congr 1
    funext r2
    show Prog.bind (if r2 = .ok then _ else _) f = Prog.bind (if r2 = .ok then _ else _) g
    by_cases c2 : r2 = .ok
    · rw [if_pos c2]
      exact h1
    · rw [if_neg c2]
      exact h2
theorem out_state {p : Pool} (h : Good p) {d x : Nat} (hd : d ∈ p.devices) (hx : x ∈ p.devices) : (Gv01.out p d).state x = if x = d then 2 else p.state x := state_set h hd 2 x hx
theorem putAll_eq (k : Nat) (b : Bytes) : ∀ (row : List Nat) (p : Pool), Good p → row.Nodup → (∀ d ∈ row, d ∈ p.devices) → Gv01.putAll k b p row = putL k b p (row.filter fun d => p.state d != 2)
  | [], _, _, _, _ => rfl
  | d :: r, p, h, hn, hd => by
    have hn' := List.nodup_cons.mp hn
    have ih := putAll_eq k b r
    have hdr : ∀ x ∈ r, x ∈ p.devices := fun x hx => hd x (List.mem_cons_of_mem _ hx)
    have hdd : d ∈ p.devices := hd d List.mem_cons_self
    unfold Gv01.putAll
    by_cases c : p.state d = 2
    · rw [if_pos (show p.state d = Gv01.OUT from c), List.filter_cons_of_neg (by simp [c])]
      exact ih p h hn'.2 hdr
    · rw [if_neg (show ¬ p.state d = Gv01.OUT from c), List.filter_cons_of_pos (by simp [c])]
      unfold putL
      refine put_congr ?_ ?_
      · dsimp only
        rw [ih p h hn'.2 hdr]
      · dsimp only
        have e : (r.filter fun x => (Gv01.out p d).state x != 2) = r.filter fun x => p.state x != 2 := by
          apply List.filter_congr
          intro x hx
          rw [out_state h hdd (hdr x hx), if_neg (fun z => hn'.1 (by rw [← z]; exact hx))]
        rw [ih (Gv01.out p d) (h.set d 2) hn'.2 (fun x hx => by rw [show (Gv01.out p d).devices = p.devices from set_devices d 2]; exact hdr x hx), e]
theorem heal_eq (k : Nat) (b : Bytes) : ∀ (row : List Nat) (p : Pool), Gv01.heal k b p row = (putL k b p row).bind fun y => .ret y.1
  | [], _ => rfl
  | d :: r, p => by
    unfold Gv01.heal putL
    rw [bind_assoc]
    congr 1
    funext x
    rw [heal_eq k b r, bind_assoc]
    rfl
/-- what was given so far, and what comes -/
def fin (g : Bool) : Option (Pool × Bool) × Sim → Option (Pool × Bool) × Sim
  | (some (p, y), t) => (some (p, g || y), t)
  | (none, t) => (none, t)
theorem fin_false (x : Option (Pool × Bool) × Sim) : fin false x = x := by
  match x with
  | (some (p, y), t) => simp [fin]
  | (none, t) => rfl
theorem fin_fin (a b : Bool) (x : Option (Pool × Bool) × Sim) : fin a (fin b x) = fin (a || b) x := by
  match x with
  | (some (p, y), t) => simp [fin, Bool.or_assoc]
  | (none, t) => rfl
theorem putL_cons (k : Nat) (b : Bytes) (p : Pool) (d : Nat) (r : List Nat) (s : Sim) : Gv.play (putL k b p (d :: r)) s = match Gv.play (Gv01.put p d k b) s with
    | (some x, t) => fin (x.2 && p.state d == Gv01.GOOD) (Gv.play (putL k b x.1 r) t)
    | (none, t) => (none, t) := by
  show Gv.play (Prog.bind _ _) s = _
  rw [play_bind]
  match h : Gv.play (Gv01.put p d k b) s with
  | (none, t) => rfl
  | (some x, t) =>
    dsimp only
    rw [play_bind]
    match h2 : Gv.play (putL k b x.1 r) t with
    | (none, t2) => rfl
    | (some y, t2) => rfl
/-! ### flush -/
def flushL : Pool → List Nat → Prog Pool
  | p, [] => .ret p
  | p, d :: r => (Gv01.flushOne p d).bind fun x => flushL x r
theorem flush_congr {α : Type} {p : Pool} {d : Nat} {f g : Pool → Prog α} (h1 : f p = g p) (h2 : f (Gv01.out p d) = g (Gv01.out p d)) : (Gv01.flushOne p d).bind f = (Gv01.flushOne p d).bind g := by
  unfold Gv01.flushOne
  rw [bind_assoc, bind_assoc]
  show Prog.ask _ _ = Prog.ask _ _
  congr 1
  funext r
  show Prog.bind (if r = .ok then _ else _) f = Prog.bind (if r = .ok then _ else _) g
  by_cases c : r = .ok
  · rw [if_pos c]
    exact h1
  · rw [if_neg c]
    show Prog.ask _ _ = Prog.ask _ _
    congr 1
    funext r2
    show Prog.bind (if r2 = .ok then _ else _) f = Prog.bind (if r2 = .ok then _ else _) g
    by_cases c2 : r2 = .ok
    · rw [if_pos c2]
      exact h1
    · rw [if_neg c2]
      exact h2
theorem flushAll_eq : ∀ (row : List Nat) (p : Pool), Good p → row.Nodup → (∀ d ∈ row, d ∈ p.devices) → Gv01.flushAll p row = flushL p (row.filter fun d => p.state d != 2)
  | [], _, _, _, _ => rfl
  | d :: r, p, h, hn, hd => by
    have hn' := List.nodup_cons.mp hn
    have ih := flushAll_eq r
    have hdr : ∀ x ∈ r, x ∈ p.devices := fun x hx => hd x (List.mem_cons_of_mem _ hx)
    have hdd : d ∈ p.devices := hd d List.mem_cons_self
    unfold Gv01.flushAll
    by_cases c : p.state d = 2
    · rw [if_pos (show p.state d = Gv01.OUT from c), List.filter_cons_of_neg (by simp [c])]
      exact ih p h hn'.2 hdr
    · rw [if_neg (show ¬ p.state d = Gv01.OUT from c), List.filter_cons_of_pos (by simp [c])]
      unfold flushL
      refine flush_congr ?_ ?_
      · exact ih p h hn'.2 hdr
      · have e : (r.filter fun x => (Gv01.out p d).state x != 2) = r.filter fun x => p.state x != 2 := by
          apply List.filter_congr
          intro x hx
          rw [out_state h hdd (hdr x hx), if_neg (fun z => hn'.1 (by rw [← z]; exact hx))]
        rw [ih (Gv01.out p d) (h.set d 2) hn'.2 (fun x hx => by rw [show (Gv01.out p d).devices = p.devices from set_devices d 2]; exact hdr x hx), e]
theorem flushL_cons (p : Pool) (d : Nat) (r : List Nat) (s : Sim) : Gv.play (flushL p (d :: r)) s = match Gv.play (Gv01.flushOne p d) s with
    | (some x, t) => Gv.play (flushL x r) t
    | (none, t) => (none, t) := by
  show Gv.play (Prog.bind _ _) s = _
  rw [play_bind]
  rcases h : Gv.play (Gv01.flushOne p d) s with ⟨_ | x, t⟩ <;> rfl
/-! ### gather -/
def gatherL (k : Nat) : List Nat → Prog (List (Nat × Bytes))
  | [] => .ret []
  | d :: r => (Gv.ask (.read d k)).bind fun x => (gatherL k r).bind fun l => .ret (match x with
      | .bytes b => (d, b) :: l
      | _ => l)
theorem gather_eq (k : Nat) (p : Pool) : ∀ row : List Nat, Gv01.gather k p row = gatherL k (row.filter fun d => p.state d == 0)
  | [] => rfl
  | d :: r => by
    unfold Gv01.gather
    by_cases c : p.state d = 0
    · rw [if_pos (show p.state d = Gv01.GOOD from c), List.filter_cons_of_pos (by simp [c])]
      unfold gatherL
      congr 1
      funext x
      rw [gather_eq k p r]
      cases x <;> rfl
    · rw [if_neg (show ¬ p.state d = Gv01.GOOD from c), List.filter_cons_of_neg (by simp [c])]
      exact gather_eq k p r
def add (a : List (Nat × Bytes)) : Option (List (Nat × Bytes)) × Sim → Option (List (Nat × Bytes)) × Sim
  | (some l, t) => (some (a ++ l), t)
  | (none, t) => (none, t)
theorem add_add (a b : List (Nat × Bytes)) (x : Option (List (Nat × Bytes)) × Sim) : add a (add b x) = add (a ++ b) x := by
  match x with
  | (some l, t) => simp [add]
  | (none, t) => rfl
theorem gatherL_cons (k d : Nat) (r : List Nat) (s : Sim) : Gv.play (gatherL k (d :: r)) s = match s.answer (.read d k) with
    | (some (.bytes b), t) => add [(d, b)] (Gv.play (gatherL k r) t)
    | (some _, t) => Gv.play (gatherL k r) t
    | (none, t) => (none, t) := by
  show Gv.play (Prog.bind _ _) s = _
  rw [play_bind]
  rw [play_ask1]
  rcases h : s.answer (.read d k) with ⟨_ | x, t⟩
  · rfl
  · cases x with
    | fail =>
      show Gv.play (Prog.bind _ _) t = Gv.play (gatherL k r) t
      rw [play_bind]
      rcases h2 : Gv.play (gatherL k r) t with ⟨_ | y, t2⟩ <;> rfl
    | ok =>
      show Gv.play (Prog.bind _ _) t = Gv.play (gatherL k r) t
      rw [play_bind]
      rcases h2 : Gv.play (gatherL k r) t with ⟨_ | y, t2⟩ <;> rfl
    | bytes b =>
      show Gv.play (Prog.bind _ _) t = add [(d, b)] (Gv.play (gatherL k r) t)
      rw [play_bind]
      rcases h2 : Gv.play (gatherL k r) t with ⟨_ | y, t2⟩ <;> rfl
/-! ### seek -/
def seekL (p : Pool) (k : Nat) (q : Ptr) : List Nat → List Nat → Prog (Pool × Option Bytes)
  | _, [] => .ret (p, none)
  | wrong, d :: r => (Gv.ask (.read d k)).bind fun x => (match Gv01.known q x with
      | some b => (Gv01.heal k b p wrong).bind fun h => .ret (h, some b)
      | none => seekL p k q (wrong ++ [d]) r)
theorem seek_eq (p : Pool) (k : Nat) (q : Ptr) : ∀ row wrong : List Nat, Gv01.seek p k q wrong row = seekL p k q wrong (row.filter fun d => p.state d == 0)
  | [], _ => by unfold Gv01.seek; rfl
  | d :: r, wrong => by
    unfold Gv01.seek
    by_cases c : p.state d = 0
    · rw [if_pos (show p.state d = Gv01.GOOD from c), List.filter_cons_of_pos (by simp [c])]
      unfold seekL
      congr 1
      funext x
      cases Gv01.known q x with
      | some b => rfl
      | none => exact seek_eq p k q r _
    · rw [if_neg (show ¬ p.state d = Gv01.GOOD from c), List.filter_cons_of_neg (by simp [c])]
      exact seek_eq p k q r wrong
theorem seekL_cons (p : Pool) (k : Nat) (q : Ptr) (wrong : List Nat) (d : Nat) (r : List Nat) (s : Sim) : Gv.play (seekL p k q wrong (d :: r)) s = match s.answer (.read d k) with
    | (some x, t) => (match Gv01.known q x with
      | some b => Gv.play ((Gv01.heal k b p wrong).bind fun h => .ret (h, some b)) t
      | none => Gv.play (seekL p k q (wrong ++ [d]) r) t)
    | (none, t) => (none, t) := by
  show Gv.play (Prog.bind _ _) s = _
  rw [play_bind]
  rw [play_ask1]
  rcases h : s.answer (.read d k) with ⟨_ | x, t⟩
  · rfl
  · dsimp only
    cases Gv01.known q x <;> rfl
end Mp
namespace Mp
open PySem PySem.Spec PyProof.Rows L2
open Gv (Bytes Dev zeroBlock isBlock Sim Happens Prog Ask Reply Ptr)
open Gv01 (Pool)
/-! ### the pool on the heap -/
def pF (la sm : Addr) (n : Nat) (mr st : Addr) : List (Str × V) := [("line", .ref la), ("sums", .ref sm), ("n", nv n), ("mirrors", .ref mr), ("states", .ref st)]
section
variable {la sm mr st : Addr} {n : Nat}
theorem pF_no {m : Str} (h : (["line", "sums", "n", "mirrors", "states"] : List Str).contains m = false := by decide +kernel) : (pF la sm n mr st).lookup m = none := look_no h
theorem pF_line : List.lookup ("line" : Str) (pF la sm n mr st) = some (.ref la) := lk_here
theorem pF_sums : List.lookup ("sums" : Str) (pF la sm n mr st) = some (.ref sm) := (lk_past (by decide +kernel)).trans lk_here
theorem pF_n : List.lookup ("n" : Str) (pF la sm n mr st) = some (nv n) := (lk_past (by decide +kernel)).trans ((lk_past (by decide +kernel)).trans lk_here)
theorem pF_mirrors : List.lookup ("mirrors" : Str) (pF la sm n mr st) = some (.ref mr) := (lk_past (by decide +kernel)).trans ((lk_past (by decide +kernel)).trans ((lk_past (by decide +kernel)).trans lk_here))
theorem pF_states : List.lookup ("states" : Str) (pF la sm n mr st) = some (.ref st) := (lk_past (by decide +kernel)).trans ((lk_past (by decide +kernel)).trans ((lk_past (by decide +kernel)).trans ((lk_past (by decide +kernel)).trans lk_here)))
end
def Sh (S I : Addr → Prop) : Addr → Prop := fun q => S q ∨ I q
def Own (S I : Addr → Prop) (st : Addr) : Addr → Prop := fun q => S q ∨ I q ∨ q = st
def stOf (p : Pool) : List (Key × V) := p.devices.map fun (d : Nat) => ((Sum.inl (d : Int) : Key), nv (p.state d))
theorem Fr.imp {S S' : Addr → Prop} {H H' : Hp} (f : Fr S H H') (h : ∀ q, S' q → S q) : Fr S' H H' := ⟨fun q o s e => f.keep q o (h q s) e, f.intl, f.dom⟩
theorem LineAt.imp {CL CD : Addr} {H : Hp} {S S' : Addr → Prop} {N : Nat} {la : Addr} {sim : Sim} (L : LineAt CL CD H S N la sim) (h : ∀ q, S' q → S q) : LineAt CL CD H S' N la sim :=
  L.priv (fun q o _ e => e) fun q n _ z => n (h q z)
structure PoolIn {K : PySem.W.Frag} {mg : Str → Option Value} (T : Txt K mg) (H : Hp) (S I : Addr → Prop) (N : Nat) (pa la sm stp : Addr) (p : Pool) (sim : Sim) (dx mr st : Addr) (ms : List Addr) : Prop where
  obj : H pa = some (.ins T.Po.C dx (pF la sm p.blocks mr st))
  mir : H mr = some (.lst (ms.map V.ref))
  rows : Paired (fun m row => H m = some (.lst (nvs row)) ∧ I m) ms p.mirrors
  sta : H st = some (.dK (stOf p))
  sums : SumsAt T.Su.C H sm stp
  ipa : I pa
  imr : I mr
  ism : I sm
  istp : I stp
  hI : ∀ q, I q → H q ≠ none ∧ ¬ S q
  pr : Priv H S
  sst : ¬ S st
  ist : ¬ I st
  line : LineAt T.Li.C T.De.C H (Own S I st) N la sim
  good : Good p
  mlen : p.mirrors.length ≤ 100
def PoolAt {K : PySem.W.Frag} {mg : Str → Option Value} (T : Txt K mg) (H : Hp) (S I : Addr → Prop) (N : Nat) (pa la sm stp : Addr) (p : Pool) (sim : Sim) : Prop := ∃ dx mr st ms, PoolIn T H S I N pa la sm stp p sim dx mr st ms
theorem SumsAt.mono {CS : Addr} {H H' : Hp} {sm stp : Addr} (s : SumsAt CS H sm stp) (k : ∀ q o, (q = sm ∨ q = stp) → H q = some o → H' q = some o) : SumsAt CS H' sm stp :=
  ⟨let ⟨dx, e⟩ := s.1; ⟨dx, k _ _ (.inl rfl) e⟩, k _ _ (.inr rfl) s.2⟩
section
variable {K : PySem.W.Frag} {mg : Str → Option Value} {T : Txt K mg} {H H' : Hp} {S S' I : Addr → Prop} {N M : Nat} {pa la sm stp : Addr} {p : Pool} {sim sim' : Sim} {dx mr st : Addr} {ms : List Addr}
theorem PoolIn.own (h : PoolIn T H S I N pa la sm stp p sim dx mr st ms) : Priv H (Own S I st) := by
  rintro q (z | z | z)
  · exact h.pr q z
  · exact (h.hI q z).1
  · rw [z, h.sta]; simp
/-- what is the pool's stands, the line is told anew -/
theorem PoolIn.base (h : PoolIn T H S I N pa la sm stp p sim dx mr st ms) (k : ∀ q o, (I q ∨ q = st) → H q = some o → H' q = some o) (pr : Priv H' S') (hs : ∀ q, S' q → ¬ I q ∧ q ≠ st) (L : LineAt T.Li.C T.De.C H' (Own S' I st) M la sim') : PoolIn T H' S' I M pa la sm stp p sim' dx mr st ms where
  obj := k _ _ (.inl h.ipa) h.obj
  mir := k _ _ (.inl h.imr) h.mir
  rows := paired_imp (fun a b z => ⟨k _ _ (.inl z.2) z.1, z.2⟩) h.rows
  sta := k _ _ (.inr rfl) h.sta
  sums := h.sums.mono fun q o z e => by
    rcases z with rfl | rfl
    · exact k _ _ (.inl h.ism) e
    · exact k _ _ (.inl h.istp) e
  ipa := h.ipa
  imr := h.imr
  ism := h.ism
  istp := h.istp
  hI := fun q z => ⟨by
    cases e : H q with
    | none => exact absurd e (h.hI q z).1
    | some o => rw [k q o (.inl z) e]; simp, fun s => (hs q s).1 z⟩
  pr := pr
  sst := fun s => (hs st s).2 rfl
  ist := h.ist
  line := L
  good := h.good
  mlen := h.mlen
theorem PoolIn.apartS (h : PoolIn T H S I N pa la sm stp p sim dx mr st ms) : ∀ q, S q → ¬ I q ∧ q ≠ st := fun q s => ⟨fun z => (h.hI q z).2 s, fun z => h.sst (z ▸ s)⟩
/-- an operation on the line -/
theorem PoolIn.move (h : PoolIn T H S I N pa la sm stp p sim dx mr st ms) (L : LineAt T.Li.C T.De.C H' (Own S I st) M la sim') (fr : Fr (Own S I st) H H') : PoolIn T H' S I M pa la sm stp p sim' dx mr st ms :=
  h.base (fun q o z e => fr.keep q o (.inr z) e) (fun q s => fr.dom q (h.pr q s)) h.apartS L
theorem PoolIn.same (h : PoolIn T H S I N pa la sm stp p sim dx mr st ms) (k : Same H H') : PoolIn T H' S I N pa la sm stp p sim dx mr st ms :=
  h.base (fun q o _ e => k q o e) (h.pr.same k) h.apartS (h.line.same k)
theorem PoolAt.same (h : PoolAt T H S I N pa la sm stp p sim) (k : Same H H') : PoolAt T H' S I N pa la sm stp p sim := let ⟨dx, mr, st, ms, h⟩ := h; ⟨dx, mr, st, ms, h.same k⟩
theorem PoolIn.more (h : PoolIn T H S I N pa la sm stp p sim dx mr st ms) (l : N ≤ M) : PoolIn T H S I M pa la sm stp p sim dx mr st ms :=
  h.base (fun _ _ _ e => e) h.pr h.apartS (h.line.more l)
theorem PoolAt.more (h : PoolAt T H S I N pa la sm stp p sim) (l : N ≤ M) : PoolAt T H S I M pa la sm stp p sim := let ⟨dx, mr, st, ms, h⟩ := h; ⟨dx, mr, st, ms, h.more l⟩
/-- a new object, the caller's own from now on -/
theorem PoolIn.addS (h : PoolIn T H S I N pa la sm stp p sim dx mr st ms) {D : Addr} {o : HO} (hD : H D = none) : PoolIn T (upd H D o) (fun q => S q ∨ q = D) I N pa la sm stp p sim dx mr st ms := by
  have ne : ∀ q, H q ≠ none → q ≠ D := fun q z e => z (by rw [e]; exact hD)
  refine h.base (fun q u _ e => same_upd hD q u e) ?_ ?_ (h.line.priv (fun q u _ e => same_upd hD q u e) ?_)
  · rintro q (z | z)
    · exact dom_upd q (h.pr q z)
    · rw [z, upd_same]; simp
  · rintro q (z | z)
    · exact h.apartS q z
    · exact ⟨fun i => ne q (h.hI q i).1 z, fun e => ne q (by rw [e, h.sta]; simp) z⟩
  · rintro q n tr ((z | z) | z | z)
    · exact n (.inl z)
    · exact ne q tr z
    · exact n (.inr (.inl z))
    · exact n (.inr (.inr z))
/-- the caller stores to what is its own -/
theorem PoolIn.updS (h : PoolIn T H S I N pa la sm stp p sim dx mr st ms) {D : Addr} {o : HO} (hD : S D) : PoolIn T (upd H D o) S I N pa la sm stp p sim dx mr st ms :=
  h.base (fun q u z e => by
      rw [upd_ne (fun w => by
        have := h.apartS D hD
        rcases z with z | z
        · exact this.1 (w ▸ z)
        · exact this.2 (w.symm.trans z))]
      exact e) (fun q s => dom_upd q (h.pr q s)) h.apartS
    (h.line.priv (fun q u n e => by rw [upd_ne (fun w => n (.inl (by rw [w]; exact hD)))]; exact e) fun q n _ => n)
theorem PoolIn.subS (h : PoolIn T H S I N pa la sm stp p sim dx mr st ms) (k : ∀ q, S' q → S q) : PoolIn T H S' I N pa la sm stp p sim dx mr st ms :=
  h.base (fun _ _ _ e => e) (fun q s => h.pr q (k q s)) (fun q s => h.apartS q (k q s)) (h.line.imp fun q z => by
    rcases z with z | z | z
    · exact .inl (k q z)
    · exact .inr (.inl z)
    · exact .inr (.inr z))
theorem stOf_get {p : Pool} (d : Nat) : valV (stOf p) (Sum.inl (d : Int)) = if d ∈ p.devices then some (nv (p.state d)) else none := by
  unfold stOf
  generalize p.devices = l
  induction l with
  | nil => rfl
  | cons x r ih =>
    rw [List.map_cons]
    by_cases e : x = d
    · rw [valV_pos (by rw [e]), if_pos (by rw [e]; exact List.mem_cons_self), e]
    · rw [valV_neg (fun z => e (inl_inj z)), ih]
      by_cases m : d ∈ r
      · rw [if_pos m, if_pos (List.mem_cons_of_mem _ m)]
      · rw [if_neg m, if_neg (by
          intro z
          rcases List.mem_cons.mp z with w | w
          · exact e w.symm
          · exact m w)]
theorem stOf_set {p : Pool} (g : Good p) {d : Nat} (hd : d ∈ p.devices) (s : Nat) : putK (stOf p) (Sum.inl (d : Int)) (nv s) = stOf (p.set d s) := by
  unfold putK
  rw [valV_any, stOf_get, if_pos hd, if_pos (show (some (nv (p.state d))).isSome = true from rfl)]
  unfold stOf
  rw [set_devices, List.map_map]
  apply List.map_congr_left
  intro x hx
  show (if (Sum.inl (x : Int) : Key) = Sum.inl (d : Int) then _ else _) = _
  rw [state_set g hd s x hx]
  by_cases e : x = d
  · rw [if_pos (by rw [e]), if_pos e]
  · rw [if_neg (fun z => e (inl_inj z)), if_neg e]
theorem PoolIn.setState (h : PoolIn T H S I N pa la sm stp p sim dx mr st ms) {d : Nat} (hd : d ∈ p.devices) (s : Nat) :
    PoolIn T (upd H st (.dK (putK (stOf p) (Sum.inl (d : Int)) (nv s)))) S I N pa la sm stp (p.set d s) sim dx mr st ms := by
  rw [stOf_set h.good hd s]
  have ne : ∀ q, I q → q ≠ st := fun q i e => h.ist (e ▸ i)
  have k : ∀ q o, I q → H q = some o → upd H st (.dK (stOf (p.set d s))) q = some o := fun q o i e => by rw [upd_ne (ne q i)]; exact e
  refine ⟨?_, k _ _ h.imr h.mir, ?_, upd_same, h.sums.mono fun q o z e => ?_, h.ipa, h.imr, h.ism, h.istp, fun q i => ⟨dom_upd q (h.hI q i).1, (h.hI q i).2⟩, fun q s => dom_upd q (h.pr q s), h.sst, h.ist, ?_, h.good.set d s, ?_⟩
  · rw [set_blocks]
    exact k _ _ h.ipa h.obj
  · rw [set_mirrors]
    exact paired_imp (fun a b z => ⟨k _ _ z.2 z.1, z.2⟩) h.rows
  · rcases z with rfl | rfl
    · exact k _ _ h.ism e
    · exact k _ _ h.istp e
  · exact h.line.priv (fun q u n e => by rw [upd_ne (fun w => n (.inr (.inr w)))]; exact e) fun q n _ => n
  · rw [set_mirrors]
    exact h.mlen
theorem PoolIn.setFr (h : PoolIn T H S I N pa la sm stp p sim dx mr st ms) {kvs : List (Key × V)} : Fr (Sh S I) H (upd H st (.dK kvs)) :=
  ⟨fun q o z e => by
    rw [upd_ne (fun w => by
      rcases z with z | z
      · exact h.sst (w ▸ z)
      · exact h.ist (w ▸ z))]
    exact e, fun b ns _ e => by rw [upd_ne (ne_of e h.sta (by intro z; cases z))]; exact e, dom_upd⟩
theorem PoolIn.rowAt (h : PoolIn T H S I N pa la sm stp p sim dx mr st ms) (place : Nat) : ∃ m, ms[place % p.mirrors.length]? = some m ∧ H m = some (.lst (nvs (Gv01.mirrorOf p place))) ∧ I m ∧ Gv01.mirrorOf p place ∈ p.mirrors := by
  have pos : 0 < p.mirrors.length := List.length_pos_iff.mpr h.good.ne
  have lt : place % p.mirrors.length < p.mirrors.length := Nat.mod_lt _ pos
  have l2 : place % p.mirrors.length < ms.length := by rw [h.rows.length]; exact lt
  obtain ⟨row, hr, h1, h2⟩ := paired_get h.rows (List.getElem?_eq_getElem l2)
  have e : Gv01.mirrorOf p place = row := by
    unfold Gv01.mirrorOf
    rw [List.getD_eq_getElem?_getD, hr]
    rfl
  exact ⟨_, List.getElem?_eq_getElem l2, by rw [e]; exact h1, h2, by rw [e]; exact List.mem_of_getElem? hr⟩
end
section
variable {P : Program} {w : World} {K : PySem.W.Frag} {mg : Str → Option Value} {base : Heap}
/-! ### places, has_place, has_slot -/
def spPlaces (T : Txt K mg) : Sp := fun vs H Q _ => ∃ S I N pa la sm stp p sim, vs = [.ref pa] ∧ PoolAt T H S I N pa la sm stp p sim ∧ Q (nv (Gv01.places p)) H
theorem ok_Pool_places (T : Txt K mg) : FnOk P w K mg base CX0 1 T.Po.places.f T.Po.places.fd ["self"] (spPlaces T) := by
  refine T.Po.places.F.ok sc_Pool_places (fun vs H Q E h => ?_) (fun cdv A outer s H vs Q E hr h => ⟨_, (pss_one
    (ps_ret (pe_op op_mul (pe_callB call_len_seq (by rfl) T.G.n_len PySem.boot_len (pa_cons (pe_fld (pv 0) rfl) pa_nil)) (pe_op op_sub (pe_fld (pv 0) rfl) (pe_gint T.G.c_SLOTS))))), ?_⟩)
  · obtain ⟨S, I, N, pa, la, sm, stp, p, sim, rfl, _⟩ := h
    rfl
  · obtain ⟨S, I, N, pa, la, sm, stp, p, sim, rfl, ⟨dx, mr, st, ms, h⟩, q⟩ := h
    have hb := h.good.blocks
    refine ⟨_, rfl, pa, T.Po.C, dx, _, _, rfl, h.obj, T.Po.cl, T.Po.n_mirrors, pF_mirrors, mr, _, rfl, .inl (SqL.of h.mir), ?_⟩
    refine ⟨_, rfl, pa, T.Po.C, dx, _, _, rfl, h.obj, T.Po.cl, T.Po.n_n, pF_n, _, _, rfl, rfl, _, _, rfl, rfl, .inr ⟨?_, ?_⟩, ?_⟩
    · show -(2 ^ 64) < (p.blocks : Int) - 8
      omega
    · show (p.blocks : Int) - 8 < 2 ^ 64
      omega
    · have e : (((ms.map V.ref).length : Nat) : Int) * ((p.blocks : Int) - 8) = ((Gv01.places p : Nat) : Int) := by
        rw [List.length_map, h.rows.length]
        unfold Gv01.places
        rw [Int.natCast_mul]
        congr 1
        show (p.blocks : Int) - 8 = ((p.blocks - 8 : Nat) : Int)
        omega
      show Q (.int ((((ms.map V.ref).length : Nat) : Int) * ((p.blocks : Int) - 8))) H
      rw [e]
      exact q
def spHasPlace (T : Txt K mg) : Sp := fun vs H Q _ => ∃ S I N pa la sm stp p sim, ∃ k : Nat, vs = [.ref pa, nv k] ∧ PoolAt T H S I N pa la sm stp p sim ∧ Q (.bl (decide (k < Gv01.places p))) H
theorem ok_Pool_has_place (T : Txt K mg) : FnOk P w K mg base CX0 2 T.Po.has_place.f T.Po.has_place.fd ["self", "place"] (spHasPlace T) := by
  refine T.Po.has_place.F.ok sc_Pool_has_place (fun vs H Q E h => ?_) (fun cdv A outer s H vs Q E hr h => ⟨_, (pss_one
    (ps_ret (pe_cmpR op_lt (pv 1) (pe_meth0 (pv 0) T.Po.cl T.Po.m_places (ok_Pool_places T) (hr.mono (by decide)) T.Po.places.b .nil pass0) (nomark _)))), ?_⟩)
  · obtain ⟨S, I, N, pa, la, sm, stp, p, sim, k, rfl, _⟩ := h
    rfl
  · obtain ⟨S, I, N, pa, la, sm, stp, p, sim, k, rfl, ⟨dx, mr, st, ms, h⟩, q⟩ := h
    refine ⟨_, rfl, _, rfl, pa, dx, _, rfl, h.obj, pF_no, ?_⟩
    refine ⟨S, I, N, pa, la, sm, stp, p, sim, rfl, ⟨dx, mr, st, ms, h⟩, _, _, rfl, rfl, ?_⟩
    have e : decide ((k : Int) < (Gv01.places p : Int)) = decide (k < Gv01.places p) := decide_eq_decide.mpr (by omega)
    show Q (.bl (decide ((k : Int) < (Gv01.places p : Int)))) H
    rw [e]
    exact q
def spHasSlot : Sp := fun vs H Q _ => ∃ pa, ∃ k : Nat, vs = [.ref pa, nv k] ∧ Q (.bl (decide (k < 8))) H
theorem ok_Pool_has_slot (T : Txt K mg) : FnOk P w K mg base CX0 1 T.Po.has_slot.f T.Po.has_slot.fd ["self", "k"] (spHasSlot) := by
  refine T.Po.has_slot.F.ok sc_Pool_has_slot (fun vs H Q E h => ?_) (fun cdv A outer s H vs Q E hr h => ⟨_, (pss_one
    (ps_ret (pe_cmpR op_lt (pv 1) (pe_gint T.G.c_SLOTS) (nomark _)))), ?_⟩)
  · obtain ⟨pa, k, rfl, _⟩ := h
    rfl
  · obtain ⟨pa, k, rfl, q⟩ := h
    refine ⟨_, rfl, _, _, rfl, rfl, ?_⟩
    have e : decide ((k : Int) < 8) = decide (k < 8) := decide_eq_decide.mpr (by omega)
    show Q (.bl (decide ((k : Int) < 8))) H
    rw [e]
    exact q
/-! ### has_device, state_of, give_state -/
def spHasDevice (T : Txt K mg) : Sp := fun vs H Q _ => ∃ S I N pa la sm stp p sim, ∃ d : Nat, vs = [.ref pa, nv d] ∧ PoolAt T H S I N pa la sm stp p sim ∧ Q (.bl (p.has d)) H
theorem ok_Pool_has_device (T : Txt K mg) : FnOk P w K mg base CX0 1 T.Po.has_device.f T.Po.has_device.fd ["self", "d"] (spHasDevice T) := by
  refine T.Po.has_device.F.ok sc_Pool_has_device (fun vs H Q E h => ?_) (fun cdv A outer s H vs Q E hr h => ⟨_, (pss_one
    (ps_ret (pe_cmp (pc_din (hu_of hr) (pv 1) (pe_fld (pv 0) rfl)) rfl))), ?_⟩)
  · obtain ⟨S, I, N, pa, la, sm, stp, p, sim, d, rfl, _⟩ := h
    rfl
  · obtain ⟨S, I, N, pa, la, sm, stp, p, sim, d, rfl, ⟨dx, mr, st, ms, h⟩, q⟩ := h
    refine ⟨_, rfl, _, rfl, pa, T.Po.C, dx, _, _, rfl, h.obj, T.Po.cl, T.Po.n_states, pF_states, st, _, rfl, DGet.k (k := Sum.inl (d : Int)) h.sta, ?_⟩
    have e : (valV (stOf p) (Sum.inl (d : Int))).isSome = p.has d := by
      rw [stOf_get]
      by_cases m : d ∈ p.devices
      · rw [if_pos m, (has_iff d).mpr m]
        rfl
      · rw [if_neg m]
        cases e : p.has d
        · rfl
        · exact absurd ((has_iff d).mp e) m
    rw [e]
    exact q
def spStateOf (T : Txt K mg) : Sp := fun vs H Q _ => ∃ S I N pa la sm stp p sim, ∃ d : Nat, vs = [.ref pa, nv d] ∧ PoolAt T H S I N pa la sm stp p sim ∧ d ∈ p.devices ∧ Q (nv (p.state d)) H
theorem ok_Pool_state_of (T : Txt K mg) : FnOk P w K mg base CX0 1 T.Po.state_of.f T.Po.state_of.fd ["self", "d"] (spStateOf T) := by
  refine T.Po.state_of.F.ok sc_Pool_state_of (fun vs H Q E h => ?_) (fun cdv A outer s H vs Q E hr h => ⟨_, (pss_one
    (ps_ret (pe_dget (hu_of hr) (pe_fld (pv 0) rfl) (pv 1) (fun _ _ => rfl)))), ?_⟩)
  · obtain ⟨S, I, N, pa, la, sm, stp, p, sim, d, rfl, _⟩ := h
    rfl
  · obtain ⟨S, I, N, pa, la, sm, stp, p, sim, d, rfl, ⟨dx, mr, st, ms, h⟩, hd, q⟩ := h
    have e : valV (stOf p) (Sum.inl (d : Int)) = some (nv (p.state d)) := by rw [stOf_get, if_pos hd]
    exact ⟨_, rfl, pa, T.Po.C, dx, _, _, rfl, h.obj, T.Po.cl, T.Po.n_states, pF_states, _, rfl, st, _, rfl, e ▸ DGet.k (k := Sum.inl (d : Int)) h.sta, q⟩
def spGiveState (T : Txt K mg) : Sp := fun vs H Q _ => ∃ S I N pa la sm stp p sim dx mr st ms, ∃ d s : Nat, vs = [.ref pa, nv d, nv s] ∧ PoolIn T H S I N pa la sm stp p sim dx mr st ms ∧ d ∈ p.devices ∧
  ∀ H', PoolIn T H' S I N pa la sm stp (p.set d s) sim dx mr st ms → Fr (Sh S I) H H' → Q .non H'
theorem ok_Pool_give_state (T : Txt K mg) : FnOk P w K mg base CX0 1 T.Po.give_state.f T.Po.give_state.fd ["self", "d", "state"] (spGiveState T) := by
  refine T.Po.give_state.F.ok sc_Pool_give_state (fun vs H Q E h => ?_) (fun cdv A outer s H vs Q E hr h => ⟨_, (pss_one
    (ps_dput (hu_of hr) (pe_fld (pv 0) rfl) (pv 1) (pv 2) rfl)), ?_⟩)
  · obtain ⟨S, I, N, pa, la, sm, stp, p, sim, dx, mr, st, ms, d, s, rfl, _⟩ := h
    rfl
  · obtain ⟨S, I, N, pa, la, sm, stp, p, sim, dx, mr, st, ms, d, s, rfl, h, hd, q⟩ := h
    refine ⟨_, rfl, _, rfl, pa, T.Po.C, dx, _, _, rfl, h.obj, T.Po.cl, T.Po.n_states, pF_states, _, rfl, st, _, rfl, DPut.k (k := Sum.inl (d : Int)) h.sta (line_lt ?_), ?_⟩
    · unfold stOf
      rw [List.length_map]
      have := dev_len8 h.good
      omega
    · exact q _ (h.setState hd s) h.setFr
/-! ### mirror_at, block_at -/
def spMirrorAt (T : Txt K mg) : Sp := fun vs H Q _ => ∃ S I N pa la sm stp p sim, ∃ k : Nat, vs = [.ref pa, nv k] ∧ PoolAt T H S I N pa la sm stp p sim ∧
  ∀ m, H m = some (.lst (nvs (Gv01.mirrorOf p k))) → I m → Q (.ref m) H
theorem ok_Pool_mirror_at (T : Txt K mg) : FnOk P w K mg base CX0 1 T.Po.mirror_at.f T.Po.mirror_at.fd ["self", "place"] (spMirrorAt T) := by
  refine T.Po.mirror_at.F.ok sc_Pool_mirror_at (fun vs H Q E h => ?_) (fun cdv A outer s H vs Q E hr h => ⟨_, (pss_one
    (ps_ret (pe_ix ix_list (pe_fld (pv 0) rfl) (pe_op op_modN (pv 1) (pe_callB call_len_seq (by rfl) T.G.n_len PySem.boot_len (pa_cons (pe_fld (pv 0) rfl) pa_nil))) (fun _ _ => rfl)))), ?_⟩)
  · obtain ⟨S, I, N, pa, la, sm, stp, p, sim, k, rfl, _⟩ := h
    rfl
  · obtain ⟨S, I, N, pa, la, sm, stp, p, sim, k, rfl, ⟨dx, mr, st, ms, h⟩, q⟩ := h
    obtain ⟨m, h1, h2, h3, _⟩ := h.rowAt k
    have pos : 0 < p.mirrors.length := List.length_pos_iff.mpr h.good.ne
    refine ⟨_, rfl, pa, T.Po.C, dx, _, _, rfl, h.obj, T.Po.cl, T.Po.n_mirrors, pF_mirrors, _, rfl, _, rfl, pa, T.Po.C, dx, _, _, rfl, h.obj, T.Po.cl, T.Po.n_mirrors, pF_mirrors, mr, _, rfl, .inl (SqL.of h.mir), _, _, rfl, rfl, ?_, mr, _, _, .ref m, rfl, rfl, SqL.of h.mir, ?_, q m h2 h3⟩
    · show (((ms.map V.ref).length : Nat) : Int) ≠ 0
      rw [List.length_map, h.rows.length]
      omega
    · rw [List.length_map, h.rows.length, nv_fmod k _ pos]
      exact atI_nat (by rw [List.getElem?_map, h1]; rfl)
def spBlockAt (T : Txt K mg) : Sp := fun vs H Q _ => ∃ S I N pa la sm stp p sim, ∃ k : Nat, vs = [.ref pa, nv k] ∧ PoolAt T H S I N pa la sm stp p sim ∧ Q (nv (Gv01.blockAt p k)) H
theorem ok_Pool_block_at (T : Txt K mg) : FnOk P w K mg base CX0 1 T.Po.block_at.f T.Po.block_at.fd ["self", "place"] (spBlockAt T) := by
  refine T.Po.block_at.F.ok sc_Pool_block_at (fun vs H Q E h => ?_) (fun cdv A outer s H vs Q E hr h => ⟨_, (pss_one
    (ps_ret (pe_op op_add (pe_gint T.G.c_SLOTS) (pe_op op_fdivN (pv 1) (pe_callB call_len_seq (by rfl) T.G.n_len PySem.boot_len (pa_cons (pe_fld (pv 0) rfl) pa_nil)))))), ?_⟩)
  · obtain ⟨S, I, N, pa, la, sm, stp, p, sim, k, rfl, _⟩ := h
    rfl
  · obtain ⟨S, I, N, pa, la, sm, stp, p, sim, k, rfl, ⟨dx, mr, st, ms, h⟩, q⟩ := h
    have pos : 0 < p.mirrors.length := List.length_pos_iff.mpr h.good.ne
    have hm := h.mlen
    refine ⟨_, rfl, _, rfl, pa, T.Po.C, dx, _, _, rfl, h.obj, T.Po.cl, T.Po.n_mirrors, pF_mirrors, mr, _, rfl, .inl (SqL.of h.mir), _, _, rfl, rfl, ⟨?_, ?_⟩, _, _, rfl, rfl, ?_⟩
    · show (((ms.map V.ref).length : Nat) : Int) ≠ 0
      rw [List.length_map, h.rows.length]
      omega
    · show (((ms.map V.ref).length : Nat) : Int).natAbs < _
      rw [List.length_map, h.rows.length]
      omega
    · have e : (8 : Int) + (k : Int).fdiv (((ms.map V.ref).length : Nat) : Int) = ((Gv01.blockAt p k : Nat) : Int) := by
        rw [List.length_map, h.rows.length, Int.fdiv_eq_ediv_of_nonneg _ (by omega)]
        unfold Gv01.blockAt
        rw [Int.natCast_add, Int.natCast_ediv]
        rfl
      show Q (.int ((8 : Int) + (k : Int).fdiv (((ms.map V.ref).length : Nat) : Int))) H
      rw [e]
      exact q
end
end Mp
namespace Mp
open PySem PySem.Spec PyProof.Rows L2
open Gv (Bytes Dev zeroBlock isBlock Sim Happens Prog Ask Reply Ptr)
open Gv01 (Pool)
theorem nvs_get {l : List Nat} {i : Nat} {y : V} (h : (nvs l)[i]? = some y) : ∃ n, l[i]? = some n ∧ y = nv n := by
  have h2 : (List.map nv l)[i]? = some y := h
  rw [List.getElem?_map] at h2
  cases e : l[i]? with
  | none => rw [e] at h2; cases h2
  | some n =>
    rw [e] at h2
    exact ⟨n, rfl, (Option.some.inj h2).symm⟩
theorem nvs_len (l : List Nat) : (nvs l).length = l.length := List.length_map ..
theorem dec_nv (a b : Nat) : decide (V.int (a : Int) = V.int (b : Int)) = (a == b) := by
  by_cases h : a = b
  · rw [h, beq_self_eq_true]
    exact decide_eq_true rfl
  · rw [beq_eq_false_iff_ne.mpr h]
    exact decide_eq_false fun z => h (by have := V.int.inj z; omega)
theorem dec_nn (a b : Nat) : decide (V.int (a : Int) ≠ V.int (b : Int)) = (a != b) := by
  by_cases h : a = b
  · subst h
    simp
  · have h2 : V.int (a : Int) ≠ V.int (b : Int) := fun z => h (by have := V.int.inj z; omega)
    rw [decide_eq_true h2]
    simp [h]
theorem drop_get {α : Type} {l : List α} {i : Nat} {x : α} (h : l[i]? = some x) : l.drop i = x :: l.drop (i + 1) := by
  have hi : i < l.length := (List.getElem?_eq_some_iff.mp h).1
  rw [List.drop_eq_getElem_cons hi]
  congr 1
  rw [List.getElem?_eq_getElem hi] at h
  exact Option.some.inj h
/-- the specification's put, played -/
theorem play_put (p : Pool) (d k : Nat) (b : Bytes) (s : Sim) : Gv.play (Gv01.put p d k b) s = match s.answer (.write d k b) with
    | (none, t) => (none, t)
    | (some r, t) => if r = .ok then (some (p, true), t) else match t.answer (.write d k b) with
      | (none, t2) => (none, t2)
      | (some r2, t2) => if r2 = .ok then (some (p, true), t2) else (some (Gv01.out p d, false), t2) := by
  unfold Gv01.put
  rw [play_bind, play_ask1]
  rcases h : s.answer (.write d k b) with ⟨_ | r, t⟩
  · rfl
  · dsimp only
    by_cases c : r = .ok
    · rw [if_pos c, if_pos c]
      rfl
    · rw [if_neg c, if_neg c, play_bind, play_ask1]
      rcases h2 : t.answer (.write d k b) with ⟨_ | r2, t2⟩
      · rfl
      · dsimp only
        by_cases c2 : r2 = .ok
        · rw [if_pos c2, if_pos c2]
          rfl
        · rw [if_neg c2, if_neg c2]
          rfl
theorem put_cases {p : Pool} {d k : Nat} {b : Bytes} {s t : Sim} {x : Pool × Bool} (h : Gv.play (Gv01.put p d k b) s = (some x, t)) : x = (p, true) ∨ x = (Gv01.out p d, false) := by
  rw [play_put] at h
  rcases h1 : s.answer (.write d k b) with ⟨_ | r, t1⟩
  · rw [h1] at h; cases h
  · rw [h1] at h
    dsimp only at h
    by_cases c : r = .ok
    · rw [if_pos c] at h
      cases h
      exact .inl rfl
    · rw [if_neg c] at h
      rcases h2 : t1.answer (.write d k b) with ⟨_ | r2, t2⟩
      · rw [h2] at h; cases h
      · rw [h2] at h
        dsimp only at h
        by_cases c2 : r2 = .ok
        · rw [if_pos c2] at h
          cases h
          exact .inl rfl
        · rw [if_neg c2] at h
          cases h
          exact .inr rfl
theorem write_reply {s : Sim} {d k : Nat} {b : Bytes} {r : Reply} {t : Sim} (hb : isBlock b = true) (h : s.answer (.write d k b) = (some r, t)) : r = .ok ∨ r = .fail := by
  cases ho : isOff (hapAt s) with
  | true =>
    obtain ⟨m, n, e⟩ := is_off ho
    rw [answer_off e] at h
    cases h
  | false =>
    rw [answer_write ho hb] at h
    split at h
    · cases h; exact .inr rfl
    · split at h
      · cases h; exact .inr rfl
      · cases h; exact .inl rfl
section
variable {P : Program} {w : World} {K : PySem.W.Frag} {mg : Str → Option Value} {base : Heap}
/-! ### good_ones, those_not_out -/
def spOnes (T : Txt K mg) (f : Nat → Bool) : Sp := fun vs H Q _ => ∃ S I N pa la sm stp p sim ra row, vs = [.ref pa, .ref ra] ∧ PoolAt T H S I N pa la sm stp p sim ∧ H ra = some (.lst (nvs row)) ∧ (∀ d ∈ row, d ∈ p.devices) ∧ row.length ≤ 100 ∧
  ∀ D, H D = none → Q (.ref D) (upd H D (.lst (nvs (row.filter fun d => f (p.state d)))))
theorem filter_snoc (l : List Nat) (x : Nat) (f : Nat → Bool) : (l ++ [x]).filter f = if f x = true then l.filter f ++ [x] else l.filter f := by
  rw [List.filter_append]
  by_cases h : f x = true
  · rw [if_pos h, List.filter_cons_of_pos h]
    rfl
  · rw [if_neg h, List.filter_cons_of_neg h]
    simp
theorem ok_Pool_good_ones (T : Txt K mg) : FnOk P w K mg base CX0 1 T.Po.good_ones.f T.Po.good_ones.fd ["self", "row"] (spOnes T fun s => s == 0) := by
  refine T.Po.good_ones.F.ok sc_Pool_good_ones (fun vs H Q E h => ?_) (fun cdv A outer s H vs Q E hr h => ⟨_, (pss_one
    (ps_ret (pe_lc (own := [("d", 2)]) (g := gName 2) (tt := tTest (tOp rEq (tDGet (tFld K (tVar 0) "states") (tVar 2)) (tC (.int 0)))) (by rfl) sc_Pool_good_ones.nd (pi_list (pv 1)) (blkOk_by (own := [("d", 2)]) (N := ["self", "row", "d"]) (sc := defScope st_Pool_good_ones) (by decide +kernel)) (fun _ _ _ _ _ => pg_name (i := 2) sc_Pool_good_ones.nd rfl (Or.inl rfl)) (fun _ _ _ _ _ => pts_one (pt_cmpR op_eq (pe_dget (by exact hu_of hr) (pe_fld (pv 0) rfl) (pv 2) (fun _ _ => rfl)) (by exact pe_gint T.G.c_GOOD) (nomark _))) (fun _ _ _ _ _ => (pv 2))))), ?_⟩)
  · obtain ⟨S, I, N, pa, la, sm, stp, p, sim, ra, row, rfl, _⟩ := h
    rfl
  · obtain ⟨S, I, N, pa, la, sm, stp, p, sim, ra, row, rfl, ⟨dx, mr, st, ms, h⟩, hra, hin, hl, q⟩ := h
    refine ⟨_, rfl, ra, rfl, ⟨_, SqL.of hra⟩, fun D hD => ?_⟩
    have nD : ra ≠ D := ne_of_none hra hD
    refine lc_list (K := K) (a := ra) (xs := nvs row) (fun i H' => H' = upd H D (.lst (nvs ((row.take i).filter fun d => p.state d == 0)))) rfl (fun i H' _ e => by rw [e]; exact SqL.of (by rw [upd_ne nD]; exact hra)) ?_ ?_
    · rintro i y H' hi rfl
      obtain ⟨n, hn, rfl⟩ := nvs_get hi
      have il : i < row.length := (List.getElem?_eq_some_iff.mp hn).1
      have h1 := h.same (same_upd (o := .lst (nvs ((row.take i).filter fun d => p.state d == 0))) hD)
      have e : valV (stOf p) (Sum.inl (n : Int)) = some (nv (p.state n)) := by rw [stOf_get, if_pos (hin n (List.mem_of_getElem? hn))]
      refine ⟨rfl, _, rfl, pa, T.Po.C, dx, _, _, rfl, h1.obj, T.Po.cl, T.Po.n_states, pF_states, _, rfl, st, _, rfl, e ▸ DGet.k (k := Sum.inl (n : Int)) h1.sta, rfl, _, rfl, ?_⟩
      have e2 : decide (V.int (p.state n : Int) = V.int 0) = (p.state n == 0) := dec_nv _ 0
      by_cases c : (p.state n == 0) = true
      · refine if_t (e2.trans c) ?_
        refine ⟨_, rfl, _, upd_same, line_lt ?_, ?_⟩
        · rw [nvs_len]
          have := List.length_filter_le (fun d => p.state d == 0) (row.take i)
          rw [List.length_take] at this
          omega
        · rw [upd_upd, take_snoc hn, filter_snoc, if_pos c]
          show _ = upd H D (.lst (List.map nv (_ ++ _)))
          rw [List.map_append]
          rfl
      · refine if_f (e2.trans (by simpa using c)) ?_
        rw [take_snoc hn, filter_snoc, if_neg c]
    · rintro H' rfl
      rw [nvs_len, List.take_length]
      exact q D hD
theorem ok_Pool_those_not_out (T : Txt K mg) : FnOk P w K mg base CX0 1 T.Po.those_not_out.f T.Po.those_not_out.fd ["self", "row"] (spOnes T fun s => s != 2) := by
  refine T.Po.those_not_out.F.ok sc_Pool_those_not_out (fun vs H Q E h => ?_) (fun cdv A outer s H vs Q E hr h => ⟨_, (pss_one
    (ps_ret (pe_lc (own := [("d", 2)]) (g := gName 2) (tt := tTest (tOp rNe (tDGet (tFld K (tVar 0) "states") (tVar 2)) (tC (.int 2)))) (by rfl) sc_Pool_those_not_out.nd (pi_list (pv 1)) (blkOk_by (own := [("d", 2)]) (N := ["self", "row", "d"]) (sc := defScope st_Pool_those_not_out) (by decide +kernel)) (fun _ _ _ _ _ => pg_name (i := 2) sc_Pool_those_not_out.nd rfl (Or.inl rfl)) (fun _ _ _ _ _ => pts_one (pt_cmpR op_ne (pe_dget (by exact hu_of hr) (pe_fld (pv 0) rfl) (pv 2) (fun _ _ => rfl)) (by exact pe_gint T.G.c_OUT) (nomark _))) (fun _ _ _ _ _ => (pv 2))))), ?_⟩)
  · obtain ⟨S, I, N, pa, la, sm, stp, p, sim, ra, row, rfl, _⟩ := h
    rfl
  · obtain ⟨S, I, N, pa, la, sm, stp, p, sim, ra, row, rfl, ⟨dx, mr, st, ms, h⟩, hra, hin, hl, q⟩ := h
    refine ⟨_, rfl, ra, rfl, ⟨_, SqL.of hra⟩, fun D hD => ?_⟩
    have nD : ra ≠ D := ne_of_none hra hD
    refine lc_list (K := K) (a := ra) (xs := nvs row) (fun i H' => H' = upd H D (.lst (nvs ((row.take i).filter fun d => p.state d != 2)))) rfl (fun i H' _ e => by rw [e]; exact SqL.of (by rw [upd_ne nD]; exact hra)) ?_ ?_
    · rintro i y H' hi rfl
      obtain ⟨n, hn, rfl⟩ := nvs_get hi
      have il : i < row.length := (List.getElem?_eq_some_iff.mp hn).1
      have h1 := h.same (same_upd (o := .lst (nvs ((row.take i).filter fun d => p.state d != 2))) hD)
      have e : valV (stOf p) (Sum.inl (n : Int)) = some (nv (p.state n)) := by rw [stOf_get, if_pos (hin n (List.mem_of_getElem? hn))]
      refine ⟨rfl, _, rfl, pa, T.Po.C, dx, _, _, rfl, h1.obj, T.Po.cl, T.Po.n_states, pF_states, _, rfl, st, _, rfl, e ▸ DGet.k (k := Sum.inl (n : Int)) h1.sta, rfl, _, rfl, ?_⟩
      have e2 : (!decide (V.int (p.state n : Int) = V.int 2)) = (p.state n != 2) := congrArg (fun b => !b) (dec_nv _ 2)
      by_cases c : (p.state n != 2) = true
      · refine if_t (e2.trans c) ?_
        refine ⟨_, rfl, _, upd_same, line_lt ?_, ?_⟩
        · rw [nvs_len]
          have := List.length_filter_le (fun d => p.state d != 2) (row.take i)
          rw [List.length_take] at this
          omega
        · rw [upd_upd, take_snoc hn, filter_snoc, if_pos c]
          show _ = upd H D (.lst (List.map nv (_ ++ _)))
          rw [List.map_append]
          rfl
      · refine if_f (e2.trans (by simpa using c)) ?_
        rw [take_snoc hn, filter_snoc, if_neg c]
    · rintro H' rfl
      rw [nvs_len, List.take_length]
      exact q D hD
/-! ### put -/
def spPut (T : Txt K mg) : Sp := fun vs H Q E => ∃ S I N pa la sm stp p sim, ∃ d k : Nat, ∃ b bs, vs = [.ref pa, nv d, nv k, .ref b] ∧ PoolAt T H S I N pa la sm stp p sim ∧ N < 2900000 ∧ d ∈ p.devices ∧ BlkAt H b bs ∧ ¬ Sh S I b ∧
  (∀ t, Gv.play (Gv01.put p d k bs) sim = (none, t) → ∀ H', LineAt T.Li.C T.De.C H' (Sh S I) (N + 4) la t → Fr (Sh S I) H H' → E (.ref T.Pg.C) none H') ∧
  (∀ x t, Gv.play (Gv01.put p d k bs) sim = (some x, t) → ∀ H', PoolAt T H' S I (N + 4) pa la sm stp x.1 t → Fr (Sh S I) H H' → Q (.bl x.2) H')
theorem sh_own {S I : Addr → Prop} {st : Addr} : ∀ q, Sh S I q → Own S I st q := fun q z => by
  rcases z with z | z
  · exact .inl z
  · exact .inr (.inl z)
theorem ok_Pool_put (T : Txt K mg) : FnOk P w K mg base (L2.CX P w) 8 T.Po.put.f T.Po.put.fd ["self", "d", "k", "block"] (spPut T) := by
  refine T.Po.put.F.okX sc_Pool_put (fun vs H Q E h => ?_) (fun cdv A outer s H vs Q E hr h => ⟨_, (pss_cons
    (ps_if (PW.pt (pw_or (pt_val (pe_meth (pe_fld (pv 0) rfl) T.Li.cl T.Li.m_write (ok_Line_write T) (hr.mono (by decide)) T.Li.write.b .nil (passes_call (takes_of rfl rfl rfl rfl) (fun _ _ _ _ h => h)) (pa_cons (pv 1) (pa_cons (pv 2) (pa_cons (pv 3) pa_nil))))) (pw_or1 (pt_val (pe_meth (pe_fld (pv 0) rfl) T.Li.cl T.Li.m_write (ok_Line_write T) (hr.mono (by decide)) T.Li.write.b .nil (passes_call (takes_of rfl rfl rfl rfl) (fun _ _ _ _ h => h)) (pa_cons (pv 1) (pa_cons (pv 2) (pa_cons (pv 3) pa_nil)))))))) (pss_one
    (ps_ret pe_bl)) pss_nil)
    (pss_cons
    (ps_expr (pe_meth (pv 0) T.Po.cl T.Po.m_give_state (ok_Pool_give_state T) (hr.mono (by decide)) T.Po.give_state.b .nil pass0 (pa_cons (pv 1) (pa_cons (pe_gint T.G.c_OUT) pa_nil))))
    (pss_one
    (ps_ret pe_bl)))), ?_⟩)
  · obtain ⟨S, I, N, pa, la, sm, stp, p, sim, d, k, b, bs, rfl, _⟩ := h
    rfl
  · obtain ⟨S, I, N, pa, la, sm, stp, p, sim, d, k, b, bs, rfl, ⟨dx, mr, st, ms, h⟩, lim, hd, hb, sb, qE, qQ⟩ := h
    have nb : ∀ {H1 : Hp} {N1 sim1}, PoolIn T H1 S I N1 pa la sm stp p sim1 dx mr st ms → BlkAt H1 b bs → ¬ Own S I st b := fun h1 hb1 z => by
      rcases z with z | z | z
      · exact sb (.inl z)
      · exact sb (.inr z)
      · exact ne_of hb1.at_ h1.sta (by intro z; cases z) z
    obtain ⟨dl, dv, en, gs, ek, hl⟩ := h.line
    have pp := play_put p d k bs sim
    refine ⟨_, rfl, pa, T.Po.C, dx, _, _, rfl, h.obj, T.Po.cl, T.Po.n_line, pF_line, la, dl, _, rfl, hl.obj, lF_no, _, rfl, _, rfl, _, rfl, ?_⟩
    refine ⟨Own S I st, N, la, sim, d, k, b, bs, rfl, h.line, h.own, by omega, hb, nb h hb, fun t e H1 L1 f1 => ?_, fun t e H1 L1 f1 => ?_, fun t e H1 L1 f1 => ?_⟩
    · rw [e] at pp
      exact qE t pp H1 ((L1.more (by omega)).imp sh_own) (f1.imp sh_own)
    · rw [e] at pp
      dsimp only at pp
      rw [if_neg (by intro z; cases z)] at pp
      have h1 := h.move L1 f1
      have hb1 := f1.blk hb
      obtain ⟨dl1, dv1, en1, gs1, ek1, hl1⟩ := h1.line
      refine ⟨_, rfl, if_f rfl ?_⟩
      refine ⟨_, rfl, pa, T.Po.C, dx, _, _, rfl, h1.obj, T.Po.cl, T.Po.n_line, pF_line, la, dl1, _, rfl, hl1.obj, lF_no, _, rfl, _, rfl, _, rfl, ?_⟩
      refine ⟨Own S I st, N + 2, la, t, d, k, b, bs, rfl, h1.line, h1.own, by omega, hb1, nb h1 hb1, fun t2 e2 H2 L2 f2 => ?_, fun t2 e2 H2 L2 f2 => ?_, fun t2 e2 H2 L2 f2 => ?_⟩
      · rw [e2] at pp
        exact qE t2 pp H2 (L2.imp sh_own) ((f1.trans f2).imp sh_own)
      · rw [e2] at pp
        dsimp only at pp
        rw [if_neg (by intro z; cases z)] at pp
        have h2 := h1.move L2 f2
        refine ⟨_, rfl, if_f rfl ?_⟩
        refine ⟨_, rfl, pa, dx, _, rfl, h2.obj, pF_no, _, rfl, ?_⟩
        refine ⟨S, I, N + 4, pa, la, sm, stp, p, t2, dx, mr, st, ms, d, 2, rfl, h2, hd, fun H3 h3 f3 => ?_⟩
        exact qQ _ t2 pp H3 ⟨dx, mr, st, ms, h3⟩ (((f1.trans f2).imp sh_own).trans f3)
      · rw [e2] at pp
        dsimp only at pp
        rw [if_pos rfl] at pp
        have h2 := h1.move L2 f2
        refine ⟨_, rfl, if_t rfl ?_⟩
        exact qQ _ t2 pp H2 ⟨dx, mr, st, ms, h2⟩ ((f1.trans f2).imp sh_own)
    · rw [e] at pp
      dsimp only at pp
      rw [if_pos rfl] at pp
      have h1 := h.move (L1.more (show N + 2 ≤ N + 4 by omega)) f1
      refine ⟨_, rfl, if_t rfl (if_t rfl ?_)⟩
      exact qQ _ t pp H1 ⟨dx, mr, st, ms, h1⟩ (f1.imp sh_own)
/-! ### put_all -/
def spPutAll (T : Txt K mg) : Sp := fun vs H Q E => ∃ S I N pa la sm stp p sim, ∃ ra row, ∃ k : Nat, ∃ b bs, vs = [.ref pa, .ref ra, nv k, .ref b] ∧ PoolAt T H S I N pa la sm stp p sim ∧ N < 2800000 ∧ H ra = some (.lst (nvs row)) ∧ row.Nodup ∧ (∀ d ∈ row, d ∈ p.devices) ∧ BlkAt H b bs ∧ ¬ Sh S I b ∧
  (∀ t, Gv.play (Gv01.putAll k bs p row) sim = (none, t) → ∀ H', LineAt T.Li.C T.De.C H' (Sh S I) (N + 32) la t → Fr (Sh S I) H H' → E (.ref T.Pg.C) none H') ∧
  (∀ x t, Gv.play (Gv01.putAll k bs p row) sim = (some x, t) → ∀ H', PoolAt T H' S I (N + 32) pa la sm stp x.1 t → Fr (Sh S I) H H' → Q (.int (if x.2 = true then 1 else 0)) H')
theorem row_len {p : Pool} (g : Good p) {row : List Nat} (hn : row.Nodup) (hin : ∀ d ∈ row, d ∈ p.devices) : row.length ≤ 8 := by
  have := hn.length_le_of_subset (l₂ := List.range 8) fun d hd => List.mem_range.mpr (g.lt d (hin d hd))
  rwa [List.length_range] at this
theorem ok_Pool_put_all (T : Txt K mg) : FnOk P w K mg base (L2.CX P w) 9 T.Po.put_all.f T.Po.put_all.fd ["self", "row", "k", "block"] (spPutAll T) := by
  refine T.Po.put_all.F.okX sc_Pool_put_all (fun vs H Q E h => ?_) (fun cdv A outer s H vs Q E hr h => ⟨_, (pss_cons
    (ps_set (i := 4) sc_Pool_put_all.nd rfl (Or.inl rfl) pe_int)
    (pss_cons
    (ps_for (passes_of rfl) rfl (pi_list (pe_meth (pv 0) T.Po.cl T.Po.m_those_not_out (ok_Pool_those_not_out T) (hr.mono (by decide)) T.Po.those_not_out.b .nil pass0 (pa_cons (pv 1) pa_nil))) (pg_name (i := 5) sc_Pool_put_all.nd rfl (Or.inl rfl)) (pss_one
    (ps_if (PW.pt (pw_and (pt_val (pe_meth (pv 0) T.Po.cl T.Po.m_put (ok_Pool_put T) (hr.mono (by decide)) T.Po.put.b .nil (passes_call (takes_of rfl rfl rfl rfl) (fun _ _ _ _ h => h)) (pa_cons (pv 5) (pa_cons (pv 2) (pa_cons (pv 3) pa_nil))))) (pw_and1 (pt_cmpR op_eq (pe_dget (hu_of hr) (pe_fld (pv 0) rfl) (pv 5) (fun _ _ => rfl)) (pe_gint T.G.c_GOOD) (nomark _))))) (pss_one
    (ps_set (i := 4) sc_Pool_put_all.nd rfl (Or.inl rfl) pe_int)) pss_nil)))
    (pss_one
    (ps_ret (pv 4))))), ?_⟩)
  · obtain ⟨S, I, N, pa, la, sm, stp, p, sim, ra, row, k, b, bs, rfl, _⟩ := h
    rfl
  · obtain ⟨S, I, N, pa, la, sm, stp, p, sim, ra, row, k, b, bs, rfl, h, lim, hra, hnd, hin, hb, sb, qE, qQ⟩ := h
    have hg : Good p := let ⟨_, _, _, _, h⟩ := h; h.good
    have hl8 := row_len hg hnd hin
    rw [putAll_eq k bs row p hg hnd hin] at qE qQ
    obtain ⟨dx, mr, st, ms, h0⟩ := h
    refine ⟨_, rfl, pa, dx, _, rfl, h0.obj, pF_no, _, rfl, ?_⟩
    refine ⟨S, I, N, pa, la, sm, stp, p, sim, ra, row, rfl, ⟨dx, mr, st, ms, h0⟩, hra, hin, by omega, fun D hD => ?_⟩
    obtain ⟨l, hl⟩ : ∃ l, l = row.filter fun d => p.state d != 2 := ⟨_, rfl⟩
    rw [← hl] at qE qQ
    have hlin : ∀ d ∈ l, d ∈ p.devices := fun d hd => hin d (by rw [hl] at hd; exact (List.mem_filter.mp hd).1)
    have hll : l.length ≤ 8 := by rw [hl]; exact Nat.le_trans (List.length_filter_le _ _) hl8
    rw [show (row.filter fun d => (fun s => s != 2) (p.state d)) = l from hl.symm]
    have sm0 := same_upd (o := .lst (nvs l)) hD
    refine ⟨D, rfl, ⟨_, SqL.of upd_same⟩, ?_⟩
    refine for_list (xs := nvs l) (fun i σ H' => ∃ p' sim' g v, σ = [some (.ref pa), some (.ref ra), some (nv k), some (.ref b), some (.int (if g = true then 1 else 0)), v] ∧ PoolAt T H' S I (N + 4 * i) pa la sm stp p' sim' ∧ p'.devices = p.devices ∧ Fr (Sh S I) H H' ∧ H' D = some (.lst (nvs l)) ∧
        Gv.play (putL k bs p l) sim = fin g (Gv.play (putL k bs p' (l.drop i)) sim'))
      ⟨p, sim, false, none, rfl, ⟨dx, mr, st, ms, h0.same sm0⟩, rfl, Fr.of_same sm0, upd_same, by rw [fin_false]; rfl⟩ (fun i σ H' _ ⟨_, _, _, _, _, _, _, _, e, _⟩ => SqL.of e) ?_ ?_
    · rintro i y σ H' hi ⟨p', sim', g, v, rfl, hp', ed, f1, hD', ep⟩
      obtain ⟨n, hn, rfl⟩ := nvs_get hi
      have il : i < l.length := (List.getElem?_eq_some_iff.mp hn).1
      have hne : l ≠ [] := fun e => by rw [e] at il; cases il
      have ndev : n ∈ p'.devices := by rw [ed]; exact hlin n (List.mem_of_getElem? hn)
      rw [drop_get hn, putL_cons] at ep
      obtain ⟨dx1, mr1, st1, ms1, h1⟩ := hp'
      refine ⟨_, rfl, pa, dx1, _, rfl, h1.obj, pF_no, _, rfl, _, rfl, _, rfl, ?_⟩
      refine ⟨S, I, N + 4 * i, pa, la, sm, stp, p', sim', n, k, b, bs, rfl, ⟨dx1, mr1, st1, ms1, h1⟩, by omega, ndev, f1.blk hb, sb, fun t e H2 L2 f2 => ?_, fun x t e H2 h2 f2 => ?_⟩
      · rw [e] at ep
        exact qE t ep H2 (L2.more (by omega)) (f1.trans f2)
      · rw [e] at ep
        dsimp only at ep
        rw [fin_fin] at ep
        have hD2 := f2.intl D l hne hD'
        have ed2 : x.1.devices = p.devices := by
          rcases put_cases e with rfl | rfl
          · exact ed
          · exact (set_devices _ _).trans ed
        refine ⟨_, rfl, ?_⟩
        by_cases cx : x.2 = true
        · have ex : x.1 = p' := by
            rcases put_cases e with rfl | rfl
            · rfl
            · cases cx
          obtain ⟨dx2, mr2, st2, ms2, h3⟩ := h2
          have ev : valV (stOf x.1) (Sum.inl (n : Int)) = some (nv (x.1.state n)) := by rw [stOf_get, if_pos (by rw [ex]; exact ndev)]
          refine if_t cx ?_
          refine ⟨_, rfl, pa, T.Po.C, dx2, _, _, rfl, h3.obj, T.Po.cl, T.Po.n_states, pF_states, _, rfl, st2, _, rfl, ev ▸ DGet.k (k := Sum.inl (n : Int)) h3.sta, rfl, _, rfl, ?_⟩
          have e2 : decide (V.int (x.1.state n : Int) = V.int 0) = (p'.state n == Gv01.GOOD) := by rw [ex]; exact dec_nv _ 0
          rw [cx, Bool.true_and] at ep
          by_cases cg : (p'.state n == Gv01.GOOD) = true
          · refine if_t (e2.trans cg) ?_
            refine ⟨x.1, t, true, some (nv n), rfl, PoolAt.more ⟨dx2, mr2, st2, ms2, h3⟩ (by omega), ed2, f1.trans f2, hD2, ?_⟩
            rw [cg, Bool.or_true] at ep
            exact ep
          · refine if_f (e2.trans (by simpa using cg)) ?_
            refine ⟨x.1, t, g, some (nv n), rfl, PoolAt.more ⟨dx2, mr2, st2, ms2, h3⟩ (by omega), ed2, f1.trans f2, hD2, ?_⟩
            rw [show (p'.state n == Gv01.GOOD) = false by simpa using cg, Bool.or_false] at ep
            exact ep
        · have cx' : x.2 = false := by simpa using cx
          refine if_f cx' (if_f rfl ?_)
          refine ⟨x.1, t, g, some (nv n), rfl, h2.more (by omega), ed2, f1.trans f2, hD2, ?_⟩
          rw [cx', Bool.false_and, Bool.or_false] at ep
          exact ep
    · rintro σ H' ⟨p', sim', g, v, rfl, hp', ed, f1, hD', ep⟩
      rw [nvs_len] at hp' ep
      rw [List.drop_length] at ep
      refine ⟨_, rfl, ?_⟩
      have ep2 : Gv.play (putL k bs p l) sim = (some (p', g), sim') := ep.trans (by show (some (p', g || false), sim') = _; rw [Bool.or_false])
      exact qQ (p', g) sim' ep2 H' (hp'.more (by omega)) f1
end
end Mp
namespace Mp
open PySem PySem.Spec PyProof.Rows L2
open Gv (Bytes Dev zeroBlock isBlock Sim Happens Prog Ask Reply Ptr)
open Gv01 (Pool)
theorem stOf_keys (p : Pool) : (stOf p).map (fun kv => kV kv.1) = nvs p.devices := by
  unfold stOf
  rw [List.map_map]
  rfl
theorem play_flushOne (p : Pool) (d : Nat) (s : Sim) : Gv.play (Gv01.flushOne p d) s = match s.answer (.flush d) with
    | (none, t) => (none, t)
    | (some r, t) => if r = .ok then (some p, t) else match t.answer (.flush d) with
      | (none, t2) => (none, t2)
      | (some r2, t2) => if r2 = .ok then (some p, t2) else (some (Gv01.out p d), t2) := by
  unfold Gv01.flushOne
  rw [play_bind, play_ask1]
  rcases h : s.answer (.flush d) with ⟨_ | r, t⟩
  · rfl
  · dsimp only
    by_cases c : r = .ok
    · rw [if_pos c, if_pos c]
      rfl
    · rw [if_neg c, if_neg c, play_bind, play_ask1]
      rcases h2 : t.answer (.flush d) with ⟨_ | r2, t2⟩
      · rfl
      · dsimp only
        by_cases c2 : r2 = .ok
        · rw [if_pos c2, if_pos c2]
          rfl
        · rw [if_neg c2, if_neg c2]
          rfl
theorem Fr.upd {S : Addr → Prop} {H H1 : Hp} (f : Fr S H H1) {p : Addr} {o : HO} (h : H p = none) : Fr S H (L2.upd H1 p o) :=
  ⟨fun q u s e => by rw [upd_ne (ne_of_none e h)]; exact f.keep q u s e, fun b ns n e => by rw [upd_ne (ne_of_none e h)]; exact f.intl b ns n e, fun q e => dom_upd q (f.dom q e)⟩
theorem any_filter (l : List Nat) (f : Nat → Bool) : ((l.filter f).length = 0) ↔ l.any f = false := by
  rw [List.length_eq_zero_iff, List.filter_eq_nil_iff, List.any_eq_false]
section
variable {P : Program} {w : World} {K : PySem.W.Frag} {mg : Str → Option Value} {base : Heap}
/-! ### write, put_slot -/
def spPoolWrite (T : Txt K mg) : Sp := fun vs H Q E => ∃ S I N pa la sm stp p sim, ∃ place : Nat, ∃ b bs, vs = [.ref pa, nv place, .ref b] ∧ PoolAt T H S I N pa la sm stp p sim ∧ N < 2800000 ∧ place < Gv01.places p ∧ BlkAt H b bs ∧ ¬ Sh S I b ∧
  (∀ t, Gv.play (Gv01.write p place bs) sim = (none, t) → ∀ H', LineAt T.Li.C T.De.C H' (Sh S I) (N + 48) la t → Fr (Sh S I) H H' → E (.ref T.Pg.C) none H') ∧
  (∀ x t, Gv.play (Gv01.write p place bs) sim = (some x, t) → ∀ H', PoolAt T H' S I (N + 48) pa la sm stp x.1 t → Fr (Sh S I) H H' → Q (.int (if x.2 = true then 1 else 0)) H')
theorem ok_Pool_write (T : Txt K mg) : FnOk P w K mg base (L2.CX P w) 10 T.Po.write.f T.Po.write.fd ["self", "place", "block"] (spPoolWrite T) := by
  refine T.Po.write.F.okX sc_Pool_write (fun vs H Q E h => ?_) (fun cdv A outer s H vs Q E hr h => ⟨_, (pss_one
    (ps_ret (pe_meth (pv 0) T.Po.cl T.Po.m_put_all (ok_Pool_put_all T) (hr.mono (by decide)) T.Po.put_all.b .nil (passes_call (takes_of rfl rfl rfl rfl) (fun _ _ _ _ h => h)) (pa_cons (pe_meth (pv 0) T.Po.cl T.Po.m_mirror_at (ok_Pool_mirror_at T) (hr.mono (by decide)) T.Po.mirror_at.b .nil pass0 (pa_cons (pv 1) pa_nil)) (pa_cons (pe_meth (pv 0) T.Po.cl T.Po.m_block_at (ok_Pool_block_at T) (hr.mono (by decide)) T.Po.block_at.b .nil pass0 (pa_cons (pv 1) pa_nil)) (pa_cons (pv 2) pa_nil)))))), ?_⟩)
  · obtain ⟨S, I, N, pa, la, sm, stp, p, sim, place, b, bs, rfl, _⟩ := h
    rfl
  · obtain ⟨S, I, N, pa, la, sm, stp, p, sim, place, b, bs, rfl, ⟨dx, mr, st, ms, h⟩, lim, hp, hb, sb, qE, qQ⟩ := h
    have e : Gv01.write p place bs = Gv01.putAll (Gv01.blockAt p place) bs p (Gv01.mirrorOf p place) := by
      unfold Gv01.write
      rw [if_neg (by omega)]
    rw [e] at qE qQ
    obtain ⟨_, _, _, _, hmem⟩ := h.rowAt place
    refine ⟨_, rfl, pa, dx, _, rfl, h.obj, pF_no, _, rfl, pa, dx, _, rfl, h.obj, pF_no, _, rfl, ?_⟩
    refine ⟨S, I, N, pa, la, sm, stp, p, sim, place, rfl, ⟨dx, mr, st, ms, h⟩, fun m hm im => ?_⟩
    refine ⟨_, rfl, pa, dx, _, rfl, h.obj, pF_no, _, rfl, ?_⟩
    refine ⟨S, I, N, pa, la, sm, stp, p, sim, place, rfl, ⟨dx, mr, st, ms, h⟩, _, rfl, ?_⟩
    exact ⟨S, I, N, pa, la, sm, stp, p, sim, m, _, Gv01.blockAt p place, b, bs, rfl, ⟨dx, mr, st, ms, h⟩, lim, hm, h.good.row_nodup hmem, h.good.row_in hmem, hb, sb,
      fun t ht H' L f => qE t ht H' (L.more (by omega)) f, fun x t ht H' L f => qQ x t ht H' (L.more (by omega)) f⟩
def spPoolPutSlot (T : Txt K mg) : Sp := fun vs H Q E => ∃ S I N pa la sm stp p sim, ∃ k : Nat, ∃ b bs, vs = [.ref pa, nv k, .ref b] ∧ PoolAt T H S I N pa la sm stp p sim ∧ N < 2800000 ∧ k < 8 ∧ BlkAt H b bs ∧ ¬ Sh S I b ∧
  (∀ t, Gv.play (Gv01.putSlot p k bs) sim = (none, t) → ∀ H', LineAt T.Li.C T.De.C H' (Sh S I) (N + 48) la t → Fr (Sh S I) H H' → E (.ref T.Pg.C) none H') ∧
  (∀ x t, Gv.play (Gv01.putSlot p k bs) sim = (some x, t) → ∀ H', PoolAt T H' S I (N + 48) pa la sm stp x.1 t → Fr (Sh S I) H H' → Q (.int (if x.2 = true then 1 else 0)) H')
theorem ok_Pool_put_slot (T : Txt K mg) : FnOk P w K mg base (L2.CX P w) 10 T.Po.put_slot.f T.Po.put_slot.fd ["self", "k", "block"] (spPoolPutSlot T) := by
  refine T.Po.put_slot.F.okX sc_Pool_put_slot (fun vs H Q E h => ?_) (fun cdv A outer s H vs Q E hr h => ⟨_, (pss_one
    (ps_ret (pe_meth (pv 0) T.Po.cl T.Po.m_put_all (ok_Pool_put_all T) (hr.mono (by decide)) T.Po.put_all.b .nil (passes_call (takes_of rfl rfl rfl rfl) (fun _ _ _ _ h => h)) (pa_cons (pe_callTy (call_list_dK rfl) (by rfl) T.G.n_list (by decide +kernel) (pa_cons (pe_fld (pv 0) rfl) pa_nil)) (pa_cons (pv 1) (pa_cons (pv 2) pa_nil)))))), ?_⟩)
  · obtain ⟨S, I, N, pa, la, sm, stp, p, sim, k, b, bs, rfl, _⟩ := h
    rfl
  · obtain ⟨S, I, N, pa, la, sm, stp, p, sim, k, b, bs, rfl, ⟨dx, mr, st, ms, h⟩, lim, hk, hb, sb, qE, qQ⟩ := h
    have e : Gv01.putSlot p k bs = Gv01.putAll k bs p p.devices := by
      unfold Gv01.putSlot
      rw [if_neg (show ¬ Gv01.SLOTS ≤ k from fun z => by have z2 : 8 ≤ k := z; omega)]
    rw [e] at qE qQ
    refine ⟨_, rfl, pa, dx, _, rfl, h.obj, pF_no, _, rfl, pa, T.Po.C, dx, _, _, rfl, h.obj, T.Po.cl, T.Po.n_states, pF_states, st, _, rfl, h.sta, fun D hD => ⟨_, rfl, _, rfl, ?_⟩⟩
    rw [stOf_keys]
    have sm0 := same_upd (o := .lst (nvs p.devices)) hD
    exact ⟨S, I, N, pa, la, sm, stp, p, sim, D, p.devices, k, b, bs, rfl, ⟨dx, mr, st, ms, h.same sm0⟩, lim, upd_same, h.good.nodup, fun d hd => hd, hb.mono (sm0 b), sb,
      fun t ht H' L f => qE t ht H' (L.more (by omega)) ((Fr.of_same sm0).trans f), fun x t ht H' L f => qQ x t ht H' (L.more (by omega)) ((Fr.of_same sm0).trans f)⟩
/-! ### flush -/
def spPoolFlush (T : Txt K mg) : Sp := fun vs H Q E => ∃ S I N pa la sm stp p sim, vs = [.ref pa] ∧ PoolAt T H S I N pa la sm stp p sim ∧ N < 2800000 ∧
  (∀ t, Gv.play (Gv01.flush p) sim = (none, t) → ∀ H', LineAt T.Li.C T.De.C H' (Sh S I) (N + 48) la t → Fr (Sh S I) H H' → E (.ref T.Pg.C) none H') ∧
  (∀ x t, Gv.play (Gv01.flush p) sim = (some x, t) → ∀ H', PoolAt T H' S I (N + 48) pa la sm stp x.1 t → Fr (Sh S I) H H' → Q (.int (if x.2 = true then 1 else 0)) H')
theorem ok_Pool_flush (T : Txt K mg) : FnOk P w K mg base (L2.CX P w) 8 T.Po.flush.f T.Po.flush.fd ["self"] (spPoolFlush T) := by
  refine T.Po.flush.F.okX sc_Pool_flush (fun vs H Q E h => ?_) (fun cdv A outer s H vs Q E hr h => ⟨_, (pss_cons
    (ps_for (passes_of rfl) rfl (pi_list (pe_meth (pv 0) T.Po.cl T.Po.m_those_not_out (ok_Pool_those_not_out T) (hr.mono (by decide)) T.Po.those_not_out.b .nil pass0 (pa_cons (pe_callTy (call_list_dK rfl) (by rfl) T.G.n_list (by decide +kernel) (pa_cons (pe_fld (pv 0) rfl) pa_nil)) pa_nil))) (pg_name (i := 1) sc_Pool_flush.nd rfl (Or.inl rfl)) (pss_one
    (ps_if (PW.pt (pw_and (pt_not (pt_val (pe_meth (pe_fld (pv 0) rfl) T.Li.cl T.Li.m_flush (ok_Line_flush T) (hr.mono (by decide)) T.Li.flush.b .nil (passes_call (takes_of rfl rfl rfl rfl) (fun _ _ _ _ h => h)) (pa_cons (pv 1) pa_nil)))) (pw_and1 (pt_not (pt_val (pe_meth (pe_fld (pv 0) rfl) T.Li.cl T.Li.m_flush (ok_Line_flush T) (hr.mono (by decide)) T.Li.flush.b .nil (passes_call (takes_of rfl rfl rfl rfl) (fun _ _ _ _ h => h)) (pa_cons (pv 1) pa_nil))))))) (pss_one
    (ps_expr (pe_meth (pv 0) T.Po.cl T.Po.m_give_state (ok_Pool_give_state T) (hr.mono (by decide)) T.Po.give_state.b .nil pass0 (pa_cons (pv 1) (pa_cons (pe_gint T.G.c_OUT) pa_nil))))) pss_nil)))
    (pss_cons
    (ps_for (passes_of rfl) rfl (pi_list (pe_fld (pv 0) rfl)) (pg_name (i := 2) sc_Pool_flush.nd rfl (Or.inl rfl)) (pss_one
    (ps_if (pt_cmpR op_eq (pe_callB call_len_seq (by rfl) T.G.n_len PySem.boot_len (pa_cons (pe_meth (pv 0) T.Po.cl T.Po.m_good_ones (ok_Pool_good_ones T) (hr.mono (by decide)) T.Po.good_ones.b .nil pass0 (pa_cons (pv 2) pa_nil)) pa_nil)) pe_int (nomark _)) (pss_one
    (ps_ret pe_int)) pss_nil)))
    (pss_one
    (ps_ret pe_int)))), ?_⟩)
  · obtain ⟨S, I, N, pa, la, sm, stp, p, sim, rfl, _⟩ := h
    rfl
  · obtain ⟨S, I, N, pa, la, sm, stp, p, sim, rfl, ⟨dx, mr, st, ms, h⟩, lim, qE, qQ⟩ := h
    have l8 := dev_len8 h.good
    obtain ⟨l, hl⟩ : ∃ l, l = p.devices.filter fun d => p.state d != 2 := ⟨_, rfl⟩
    have hll : l.length ≤ 8 := by rw [hl]; exact Nat.le_trans (List.length_filter_le _ _) l8
    have hlin : ∀ d ∈ l, d ∈ p.devices := fun d hd => by rw [hl] at hd; exact (List.mem_filter.mp hd).1
    have ef : Gv.play (Gv01.flush p) sim = match Gv.play (flushL p l) sim with | (some x, t) => (some (x, x.whole), t) | (none, t) => (none, t) := by
      unfold Gv01.flush
      rw [play_bind, flushAll_eq p.devices p h.good h.good.nodup (fun d hd => hd), ← hl]
      rcases hx : Gv.play (flushL p l) sim with ⟨_ | x, t⟩ <;> rfl
    refine ⟨_, rfl, pa, dx, _, rfl, h.obj, pF_no, _, rfl, pa, T.Po.C, dx, _, _, rfl, h.obj, T.Po.cl, T.Po.n_states, pF_states, st, _, rfl, h.sta, fun D0 hD0 => ?_⟩
    rw [stOf_keys]
    have sm0 := same_upd (o := .lst (nvs p.devices)) hD0
    refine ⟨S, I, N, pa, la, sm, stp, p, sim, D0, p.devices, rfl, ⟨dx, mr, st, ms, h.same sm0⟩, upd_same, fun d hd => hd, by omega, fun D hD => ?_⟩
    rw [show (p.devices.filter fun d => (fun s => s != 2) (p.state d)) = l from hl.symm]
    have sm1 := sm0.trans (same_upd (o := .lst (nvs l)) hD)
    refine ⟨D, rfl, ⟨_, SqL.of upd_same⟩, ?_⟩
    refine for_list (xs := nvs l) (fun i σ H' => ∃ p' sim' v, σ = [some (.ref pa), v, none] ∧ PoolAt T H' S I (N + 4 * i) pa la sm stp p' sim' ∧ p'.devices = p.devices ∧ Fr (Sh S I) H H' ∧ H' D = some (.lst (nvs l)) ∧
        Gv.play (flushL p l) sim = Gv.play (flushL p' (l.drop i)) sim')
      ⟨p, sim, none, rfl, ⟨dx, mr, st, ms, h.same sm1⟩, rfl, Fr.of_same sm1, upd_same, rfl⟩ (fun i σ H' _ ⟨_, _, _, _, _, _, _, e, _⟩ => SqL.of e) ?_ ?_
    · rintro i y σ H' hi ⟨p', sim', v, rfl, ⟨dx1, mr1, st1, ms1, h1⟩, ed, f1, hD', ep⟩
      obtain ⟨n, hn, rfl⟩ := nvs_get hi
      have il : i < l.length := (List.getElem?_eq_some_iff.mp hn).1
      have hne : l ≠ [] := fun e => by rw [e] at il; cases il
      have ndev : n ∈ p'.devices := by rw [ed]; exact hlin n (List.mem_of_getElem? hn)
      rw [drop_get hn, flushL_cons, play_flushOne] at ep
      obtain ⟨dl, dv, en, gs, ek, hli⟩ := h1.line
      refine ⟨_, rfl, pa, T.Po.C, dx1, _, _, rfl, h1.obj, T.Po.cl, T.Po.n_line, pF_line, la, dl, _, rfl, hli.obj, lF_no, _, rfl, ?_⟩
      refine ⟨Own S I st1, N + 4 * i, la, sim', n, rfl, h1.line, h1.own, by omega, fun t e H2 L2 f2 => ?_, fun t e H2 L2 f2 => ?_, fun t e H2 L2 f2 => ?_⟩
      · rw [e] at ep
        rw [ep] at ef
        exact qE t ef H2 ((L2.more (by omega)).imp sh_own) (f1.trans (f2.imp sh_own))
      · rw [e] at ep
        dsimp only at ep
        rw [if_neg (by intro z; cases z)] at ep
        have h2 := h1.move L2 f2
        obtain ⟨dl2, dv2, en2, gs2, ek2, hli2⟩ := h2.line
        refine ⟨_, rfl, if_t rfl ?_⟩
        refine ⟨_, rfl, pa, T.Po.C, dx1, _, _, rfl, h2.obj, T.Po.cl, T.Po.n_line, pF_line, la, dl2, _, rfl, hli2.obj, lF_no, _, rfl, ?_⟩
        have f12 := f1.trans (f2.imp sh_own)
        refine ⟨Own S I st1, N + 4 * i + 2, la, t, n, rfl, h2.line, h2.own, by omega, fun t2 e2 H3 L3 f3 => ?_, fun t2 e2 H3 L3 f3 => ?_, fun t2 e2 H3 L3 f3 => ?_⟩
        · rw [e2] at ep
          rw [ep] at ef
          exact qE t2 ef H3 ((L3.more (by omega)).imp sh_own) (f12.trans (f3.imp sh_own))
        · rw [e2] at ep
          dsimp only at ep
          rw [if_neg (by intro z; cases z)] at ep
          have h3 := h2.move L3 f3
          refine ⟨_, rfl, if_t rfl ?_⟩
          refine ⟨_, rfl, pa, dx1, _, rfl, h3.obj, pF_no, _, rfl, ?_⟩
          have f13 := f12.trans (f3.imp sh_own)
          refine ⟨S, I, N + 4 * i + 4, pa, la, sm, stp, p', t2, dx1, mr1, st1, ms1, n, 2, rfl, h3, ndev, fun H4 h4 f4 => ?_⟩
          exact ⟨_, t2, some (nv n), rfl, PoolAt.more ⟨dx1, mr1, st1, ms1, h4⟩ (by omega), (set_devices _ _).trans ed, f13.trans f4, f4.intl D l hne (f3.intl D l hne (f2.intl D l hne hD')), ep⟩
        · rw [e2] at ep
          dsimp only at ep
          rw [if_pos rfl] at ep
          have h3 := h2.move L3 f3
          refine ⟨_, rfl, if_f rfl ?_⟩
          exact ⟨p', t2, some (nv n), rfl, PoolAt.more ⟨dx1, mr1, st1, ms1, h3⟩ (by omega), ed, f12.trans (f3.imp sh_own), f3.intl D l hne (f2.intl D l hne hD'), ep⟩
      · rw [e] at ep
        dsimp only at ep
        rw [if_pos rfl] at ep
        have h2 := h1.move L2 f2
        refine ⟨_, rfl, if_f rfl (if_f rfl ?_)⟩
        exact ⟨p', t, some (nv n), rfl, PoolAt.more ⟨dx1, mr1, st1, ms1, h2⟩ (by omega), ed, f1.trans (f2.imp sh_own), f2.intl D l hne hD', ep⟩
    · rintro σ H1 ⟨p', sim', v, rfl, ⟨dx1, mr1, st1, ms1, h1⟩, ed, f1, hD', ep⟩
      rw [nvs_len, List.drop_length] at ep
      rw [nvs_len] at h1
      rw [ep] at ef
      have ef2 : Gv.play (Gv01.flush p) sim = (some (p', p'.whole), sim') := ef
      have fin : ∀ (H2 : Hp) (b : Bool), p'.whole = b → Same H1 H2 → Q (.int (if b = true then 1 else 0)) H2 := fun H2 b eb sm2 => by
        rw [← eb]
        exact qQ (p', p'.whole) sim' ef2 H2 (PoolAt.more (PoolAt.same ⟨dx1, mr1, st1, ms1, h1⟩ sm2) (by omega)) (f1.trans (Fr.of_same sm2))
      have el : ms1.length = p'.mirrors.length := h1.rows.length
      refine ⟨_, rfl, pa, T.Po.C, dx1, _, _, rfl, h1.obj, T.Po.cl, T.Po.n_mirrors, pF_mirrors, mr1, rfl, ⟨_, SqL.of h1.mir⟩, ?_⟩
      refine for_list (xs := ms1.map V.ref) (fun i σ H' => Same H1 H' ∧ (∃ v w, σ = [some (.ref pa), v, w]) ∧ ∀ m ∈ p'.mirrors.take i, m.any (fun d => p'.state d == Gv01.GOOD) = true)
        ⟨Same.refl H1, ⟨_, _, rfl⟩, fun m hm => by simp at hm⟩ (fun i σ H' _ ⟨sm, _⟩ => SqL.of (sm _ _ h1.mir)) ?_ ?_
      · rintro i y σ H' hi ⟨sm2, ⟨v1, v2, rfl⟩, hall⟩
        rw [List.getElem?_map] at hi
        cases hm : ms1[i]? with
        | none => rw [hm] at hi; cases hi
        | some m =>
          rw [hm] at hi
          obtain rfl := Option.some.inj hi
          obtain ⟨row, hr, r1, r2⟩ := paired_get h1.rows hm
          have hrow : row ∈ p'.mirrors := List.mem_of_getElem? hr
          have h2 := h1.same sm2
          refine ⟨_, rfl, pa, dx1, _, rfl, h2.obj, pF_no, _, rfl, ?_⟩
          refine ⟨S, I, _, pa, la, sm, stp, p', sim', m, row, rfl, ⟨dx1, mr1, st1, ms1, h2⟩, sm2 _ _ r1, h1.good.row_in hrow, by have := (h1.good.rows row hrow).2; omega, fun G hG => ?_⟩
          refine ⟨G, _, rfl, .inl (SqL.of upd_same), rfl, _, rfl, ?_⟩
          rw [nvs_len]
          have sm3 := sm2.trans (same_upd (o := .lst (nvs (row.filter fun d => p'.state d == 0))) hG)
          have ez : decide (V.int ((row.filter fun d => (fun s => s == 0) (p'.state d)).length : Int) = V.int 0) = decide ((row.filter fun d => p'.state d == 0).length = 0) := by
            apply decide_eq_decide.mpr
            exact ⟨fun z => by have h3 : (((row.filter fun d => p'.state d == 0).length : Nat) : Int) = 0 := V.int.inj z; omega, fun z => by rw [z]; rfl⟩
          by_cases c : (row.filter fun d => p'.state d == 0).length = 0
          · refine if_t (ez.trans (decide_eq_true c)) ?_
            refine fin _ false ?_ sm3
            have hn : row.any (fun d => p'.state d == Gv01.GOOD) = false := (any_filter row fun d => p'.state d == 0).mp c
            unfold Gv01.Pool.whole
            rw [List.all_eq_false]
            exact ⟨row, hrow, by rw [hn]; simp⟩
          · refine if_f (ez.trans (decide_eq_false c)) ?_
            refine ⟨sm3, ⟨_, _, rfl⟩, fun m' hm' => ?_⟩
            rw [take_snoc hr] at hm'
            rcases List.mem_append.mp hm' with z | z
            · exact hall m' z
            · rw [List.mem_singleton.mp z]
              cases e : row.any fun d => p'.state d == Gv01.GOOD with
              | true => rfl
              | false => exact absurd ((any_filter row fun d => p'.state d == 0).mpr e) c
      · rintro σ H' ⟨sm2, _, hall⟩
        rw [List.length_map, el, List.take_length] at hall
        refine fin H' true ?_ sm2
        unfold Gv01.Pool.whole
        rw [List.all_eq_true]
        exact hall
end
end Mp
namespace Mp
open PySem PySem.Spec PyProof.Rows L2
open Gv (Bytes Dev zeroBlock isBlock Sim Happens Prog Ask Reply Ptr)
open Gv01 (Pool)
theorem heal_play {p : Pool} (g : Good p) (k : Nat) (b : Bytes) (row : List Nat) (hn : row.Nodup) (hin : ∀ d ∈ row, d ∈ p.devices) (h0 : ∀ d ∈ row, p.state d = 0) (s : Sim) :
    Gv.play ((Gv01.heal k b p row).bind fun h => .ret (h, some b)) s = match Gv.play (Gv01.putAll k b p row) s with | (some x, t) => (some (x.1, some b), t) | (none, t) => (none, t) := by
  have e : row.filter (fun d => p.state d != 2) = row := by
    rw [List.filter_eq_self]
    intro d hd
    rw [h0 d hd]
    rfl
  rw [putAll_eq k b row p g hn hin, e, heal_eq, bind_assoc, play_bind]
  rcases hx : Gv.play (putL k b p row) s with ⟨_ | x, t⟩ <;> rfl
def readAns : Option Bytes → List Int
  | some b => 1 :: Gv01Neutral.short b
  | none => [0]
theorem short_nvs (b : Bytes) : (Gv01Neutral.short b).map V.int = nvs (shortN b) := by
  rw [short_eq]
  unfold Gv01Neutral.ints
  rw [List.map_map]
  rfl
theorem known_eq (place wanted : Nat) (b : Bytes) : Gv01.known ⟨place, wanted⟩ (.bytes b) = if Gv.sum place b = wanted then some b else none := rfl
section
variable {P : Program} {w : World} {K : PySem.W.Frag} {mg : Str → Option Value} {base : Heap}
/-! ### read -/
def spPoolRead (T : Txt K mg) : Sp := fun vs H Q E => ∃ S I N pa la sm stp p sim, ∃ place wanted : Nat, vs = [.ref pa, nv place, nv wanted] ∧ PoolAt T H S I N pa la sm stp p sim ∧ N < 2700000 ∧ place < Gv01.places p ∧
  (∀ t, Gv.play (Gv01.read p ⟨place, wanted⟩) sim = (none, t) → ∀ H', LineAt T.Li.C T.De.C H' (Sh S I) (N + 48) la t → Fr (Sh S I) H H' → E (.ref T.Pg.C) none H') ∧
  (∀ x t, Gv.play (Gv01.read p ⟨place, wanted⟩) sim = (some x, t) → ∀ H' r, PoolAt T H' S I (N + 48) pa la sm stp x.1 t → Fr (Sh S I) H H' → H' r = some (.lst ((readAns x.2).map V.int)) → H r = none → Q (.ref r) H')
theorem ok_Pool_read (T : Txt K mg) : FnOk P w K mg base (L2.CX P w) 10 T.Po.read.f T.Po.read.fd ["self", "place", "wanted"] (spPoolRead T) := by
  refine T.Po.read.F.okX sc_Pool_read (fun vs H Q E h => ?_) (fun cdv A outer s H vs Q E hr h => ⟨_, (pss_cons
    (ps_set (i := 3) sc_Pool_read.nd rfl (Or.inl rfl) (pe_meth (pv 0) T.Po.cl T.Po.m_block_at (ok_Pool_block_at T) (hr.mono (by decide)) T.Po.block_at.b .nil pass0 (pa_cons (pv 1) pa_nil)))
    (pss_cons
    (ps_set (i := 4) sc_Pool_read.nd rfl (Or.inl rfl) (pe_lst pa_nil))
    (pss_cons
    (ps_for (passes_of rfl) rfl (pi_list (pe_meth (pv 0) T.Po.cl T.Po.m_good_ones (ok_Pool_good_ones T) (hr.mono (by decide)) T.Po.good_ones.b .nil pass0 (pa_cons (pe_meth (pv 0) T.Po.cl T.Po.m_mirror_at (ok_Pool_mirror_at T) (hr.mono (by decide)) T.Po.mirror_at.b .nil pass0 (pa_cons (pv 1) pa_nil)) pa_nil))) (pg_name (i := 5) sc_Pool_read.nd rfl (Or.inl rfl)) (pss_cons
    (ps_set (i := 6) sc_Pool_read.nd rfl (Or.inl rfl) (pe_meth (pe_fld (pv 0) rfl) T.Li.cl T.Li.m_read (ok_Line_read T) (hr.mono (by decide)) T.Li.read.b .nil (passes_call (takes_of rfl rfl rfl rfl) (fun _ _ _ _ h => h)) (pa_cons (pv 5) (pa_cons (pv 3) pa_nil))))
    (pss_cons
    (ps_if (PW.pt (pw_and (pt_cmp (pc_notN (pv 6))) (pw_and1 (pt_cmpR op_eq (pe_meth (pe_fld (pv 0) rfl) T.Su.cl T.Su.m_of_block (ok_Sums_of_block T) (hr.mono (by decide)) T.Su.of_block.b .nil pass0 (pa_cons (pv 1) (pa_cons (pv 6) pa_nil))) (pv 2) (nomark _))))) (pss_cons
    (ps_expr (pe_meth (pv 0) T.Po.cl T.Po.m_put_all (ok_Pool_put_all T) (hr.mono (by decide)) T.Po.put_all.b .nil (passes_call (takes_of rfl rfl rfl rfl) (fun _ _ _ _ h => h)) (pa_cons (pv 4) (pa_cons (pv 3) (pa_cons (pv 6) pa_nil)))))
    (pss_one
    (ps_ret (pe_op op_cat (pe_lst (pa_cons pe_int pa_nil)) (pe_call (ok_told_bytes T) (hr.mono (by decide)) rfl T.F.g_told_bytes T.F.told_bytes.F.kp T.F.told_bytes.b .nil pass0 (pa_cons (pv 6) pa_nil)))))) pss_nil)
    (pss_one
    (ps_expr (pe_bm PySem.F.plainAttrs_list PySem.F.slot_list_append PySem.F.type_list_append mt_append (pv 4) (pa_cons (pv 5) pa_nil)))))))
    (pss_one
    (ps_ret (pe_lst (pa_cons pe_int pa_nil))))))), ?_⟩)
  · obtain ⟨S, I, N, pa, la, sm, stp, p, sim, place, wanted, rfl, _⟩ := h
    rfl
  · obtain ⟨S, I, N, pa, la, sm, stp, p, sim, place, wanted, rfl, ⟨dx, mr, st, ms, h⟩, lim, hpl, qE, qQ⟩ := h
    obtain ⟨_, _, _, _, hmem⟩ := h.rowAt place
    obtain ⟨k, hk⟩ : ∃ k, k = Gv01.blockAt p place := ⟨_, rfl⟩
    obtain ⟨row, hrow⟩ : ∃ row, row = Gv01.mirrorOf p place := ⟨_, rfl⟩
    obtain ⟨l, hl⟩ : ∃ l, l = row.filter fun d => p.state d == 0 := ⟨_, rfl⟩
    have er : Gv.play (Gv01.read p ⟨place, wanted⟩) sim = Gv.play (seekL p k ⟨place, wanted⟩ [] l) sim := by
      unfold Gv01.read
      rw [if_neg (show ¬ Gv01.places p ≤ place by omega), seek_eq]
      show Gv.play (seekL p (Gv01.blockAt p place) ⟨place, wanted⟩ [] (List.filter _ (Gv01.mirrorOf p place))) sim = _
      rw [← hk, ← hrow, ← hl]
    rw [er] at qE qQ
    rw [← hrow] at hmem
    have hrin := h.good.row_in hmem
    have hrl := (h.good.rows row hmem).2
    have hll : l.length ≤ 3 := by rw [hl]; exact Nat.le_trans (List.length_filter_le _ _) hrl
    have hlnd : l.Nodup := by rw [hl]; exact (h.good.row_nodup hmem).sublist List.filter_sublist
    have hlin : ∀ d ∈ l, d ∈ p.devices := fun d hd => hrin d (by rw [hl] at hd; exact (List.mem_filter.mp hd).1)
    have hl0 : ∀ d ∈ l, p.state d = 0 := fun d hd => by rw [hl] at hd; exact eq_of_beq (List.mem_filter.mp hd).2
    refine ⟨_, rfl, pa, dx, _, rfl, h.obj, pF_no, _, rfl, ?_⟩
    refine ⟨S, I, N, pa, la, sm, stp, p, sim, place, rfl, ⟨dx, mr, st, ms, h⟩, ?_⟩
    rw [← hk]
    refine ⟨Nat.zero_le _, fun aA hA => ?_⟩
    have smA := same_upd (o := .lst []) hA
    have h1 := h.addS (o := .lst []) hA
    refine ⟨_, rfl, pa, dx, _, rfl, h1.obj, pF_no, _, rfl, pa, dx, _, rfl, h1.obj, pF_no, _, rfl, ?_⟩
    refine ⟨_, I, N, pa, la, sm, stp, p, sim, place, rfl, ⟨dx, mr, st, ms, h1⟩, fun m hm im => ?_⟩
    rw [← hrow] at hm
    refine ⟨_, I, N, pa, la, sm, stp, p, sim, m, row, rfl, ⟨dx, mr, st, ms, h1⟩, hm, hrin, by omega, fun D hD => ?_⟩
    rw [show (row.filter fun d => (fun s => s == 0) (p.state d)) = l from hl.symm]
    have smD := same_upd (o := .lst (nvs l)) hD
    have nAD : aA ≠ D := (none_upd hD).2.symm
    have shS : ∀ q, Sh S I q → Own (fun q => S q ∨ q = aA) I st q := fun q z => by
      rcases z with z | z
      · exact .inl (.inl z)
      · exact .inr (.inl z)
    have shS2 : ∀ q, Sh S I q → Sh (fun q => S q ∨ q = aA) I q := fun q z => by
      rcases z with z | z
      · exact .inl (.inl z)
      · exact .inr z
    refine ⟨D, rfl, ⟨_, SqL.of upd_same⟩, ?_⟩
    refine for_list (xs := nvs l) (fun i σ H' => ∃ sim' v5 v6, σ = [some (.ref pa), some (nv place), some (nv wanted), some (nv k), some (.ref aA), v5, v6] ∧ PoolIn T H' (fun q => S q ∨ q = aA) I (N + 2 * i) pa la sm stp p sim' dx mr st ms ∧ Fr (Sh S I) H H' ∧
        H' aA = some (.lst (nvs (l.take i))) ∧ H' D = some (.lst (nvs l)) ∧ Gv.play (seekL p k ⟨place, wanted⟩ [] l) sim = Gv.play (seekL p k ⟨place, wanted⟩ (l.take i) (l.drop i)) sim')
      ⟨sim, none, none, rfl, h1.same smD, (Fr.of_same smA).trans (Fr.of_same smD), (by rw [upd_ne nAD]; exact upd_same), upd_same, rfl⟩ (fun i σ H' _ ⟨_, _, _, _, _, _, _, e, _⟩ => SqL.of e) ?_ ?_
    · rintro i y σ H' hi ⟨sim', v5, v6, rfl, hp, f1, hA', hD', ep⟩
      obtain ⟨n, hn, rfl⟩ := nvs_get hi
      have il : i < l.length := (List.getElem?_eq_some_iff.mp hn).1
      have hne : l ≠ [] := fun e => by rw [e] at il; cases il
      rw [drop_get hn, seekL_cons] at ep
      obtain ⟨dl, dv, en, gs, ek, hli⟩ := hp.line
      -- the read failed, or another block came: asked.append(d)
      have next : ∀ (t : Sim) (v6 : Option V) (H2 : Hp), PoolIn T H2 (fun q => S q ∨ q = aA) I (N + 2 * i + 2) pa la sm stp p t dx mr st ms → Fr (Sh S I) H H2 → H2 aA = some (.lst (nvs (l.take i))) → H2 D = some (.lst (nvs l)) →
          Gv.play (seekL p k ⟨place, wanted⟩ [] l) sim = Gv.play (seekL p k ⟨place, wanted⟩ (l.take i ++ [n]) (l.drop (i + 1))) t →
          (nvs (l.take i)).length < sizeLine ∧ ∃ sim' v5 v6', [some (V.ref pa), some (nv place), some (nv wanted), some (nv k), some (.ref aA), some (nv n), v6] = [some (.ref pa), some (nv place), some (nv wanted), some (nv k), some (.ref aA), v5, v6'] ∧ PoolIn T (upd H2 aA (.lst (nvs (l.take i) ++ [nv n]))) (fun q => S q ∨ q = aA) I (N + 2 * (i + 1)) pa la sm stp p sim' dx mr st ms ∧ Fr (Sh S I) H (upd H2 aA (.lst (nvs (l.take i) ++ [nv n]))) ∧
            (upd H2 aA (.lst (nvs (l.take i) ++ [nv n]))) aA = some (.lst (nvs (l.take (i + 1)))) ∧ (upd H2 aA (.lst (nvs (l.take i) ++ [nv n]))) D = some (.lst (nvs l)) ∧ Gv.play (seekL p k ⟨place, wanted⟩ [] l) sim = Gv.play (seekL p k ⟨place, wanted⟩ (l.take (i + 1)) (l.drop (i + 1))) sim' := fun t v6 H2 h2 f2 hA2 hD2 e2 => by
        refine ⟨line_lt (by rw [nvs_len, List.length_take]; omega), t, some (nv n), v6, rfl, (h2.updS (.inr rfl)).more (by omega), f2.upd hA, ?_, ?_, ?_⟩
        · rw [upd_same, take_snoc hn]
          show _ = some (HO.lst (List.map nv (_ ++ _)))
          rw [List.map_append]
          rfl
        · rw [upd_ne nAD.symm]
          exact hD2
        · rw [take_snoc hn]
          exact e2
      refine ⟨_, rfl, pa, T.Po.C, dx, _, _, rfl, hp.obj, T.Po.cl, T.Po.n_line, pF_line, la, dl, _, rfl, hli.obj, lF_no, _, rfl, _, rfl, ?_⟩
      refine ⟨_, N + 2 * i, la, sim', n, k, rfl, hp.line, hp.own, by omega, fun t e H2 L2 f2 => ?_, fun t e H2 L2 f2 => ?_, fun t bs e H2 pb L2 f2 hb sb => ?_⟩
      · rw [e] at ep
        exact qE t ep H2 ((L2.more (by omega)).imp shS) (f1.trans (f2.imp shS))
      · rw [e] at ep
        dsimp only at ep
        refine ⟨_, rfl, _, rfl, if_f rfl (if_f rfl ?_)⟩
        have hA2 := f2.keep aA _ (.inl (.inr rfl)) hA'
        obtain ⟨z1, z2⟩ := next t (some .non) H2 (hp.move L2 f2) (f1.trans (f2.imp shS)) hA2 (f2.intl D l hne hD') ep
        exact ⟨_, rfl, .inl ⟨rfl, _, SqL.of hA2⟩, _, rfl, aA, _, _, rfl, rfl, hA2, z1, z2⟩
      · rw [e] at ep
        dsimp only at ep
        rw [known_eq] at ep
        have h2 := hp.move L2 f2
        have hA2 := f2.keep aA _ (.inl (.inr rfl)) hA'
        have hD2 := f2.intl D l hne hD'
        obtain ⟨dxs, hsm⟩ := h2.sums.1
        refine ⟨_, rfl, _, rfl, if_t rfl ?_⟩
        refine ⟨_, rfl, pa, T.Po.C, dx, _, _, rfl, h2.obj, T.Po.cl, T.Po.n_sums, pF_sums, sm, dxs, _, rfl, hsm, (lk_past (by decide +kernel)).trans rfl, _, rfl, _, rfl, ?_⟩
        refine ⟨sm, stp, place, pb, bs, rfl, h2.sums, hb, fun H3 sm3 => ⟨_, rfl, rfl, _, rfl, ?_⟩⟩
        have h3 := h2.same sm3
        have f3 := (f1.trans (f2.imp shS)).trans (Fr.of_same (S := Sh S I) sm3)
        have hA3 := sm3 _ _ hA2
        have hD3 := sm3 _ _ hD2
        have hb3 := hb.mono (sm3 pb)
        have ed : decide (V.int ((Gv.sum place bs : Nat) : Int) = V.int (wanted : Int)) = (Gv.sum place bs == wanted) := dec_nv _ _
        by_cases c : Gv.sum place bs = wanted
        · refine if_t (ed.trans (beq_iff_eq.mpr c)) ?_
          rw [if_pos c] at ep
          dsimp only at ep
          have htn : (l.take i).Nodup := hlnd.sublist (List.take_sublist _ _)
          have hti : ∀ d ∈ l.take i, d ∈ p.devices := fun d hd => hlin d (List.mem_of_mem_take hd)
          rw [heal_play h.good k bs (l.take i) htn hti (fun d hd => hl0 d (List.mem_of_mem_take hd))] at ep
          refine ⟨_, rfl, pa, dx, _, rfl, h3.obj, pF_no, _, rfl, _, rfl, _, rfl, ?_⟩
          refine ⟨_, I, N + 2 * i + 2, pa, la, sm, stp, p, t, aA, l.take i, k, pb, bs, rfl, ⟨dx, mr, st, ms, h3⟩, by omega, hA3, htn, hti, hb3, (fun z => sb (by
            rcases z with z | z
            · exact .inl z
            · exact .inr (.inl z))), fun t2 e2 H4 L4 f4 => ?_, fun x t2 e2 H4 h4 f4 => ?_⟩
          · rw [e2] at ep
            exact qE t2 ep H4 ((L4.more (by omega)).imp shS2) (f3.trans (f4.imp shS2))
          · rw [e2] at ep
            dsimp only at ep
            have hb4 := f4.blk hb3
            have f04 := f3.trans (f4.imp shS2)
            refine ⟨(by show 1 ≤ sizeLine; decide), fun u hu => ?_⟩
            have su := same_upd (o := .lst [.int 1]) hu
            refine ⟨_, rfl, pb, bs, rfl, su _ _ hb4.at_, by rw [hb4.len]; exact Nat.le_refl _, fun r hr2 => ?_⟩
            have sr := same_upd (o := .lst (nvs (shortN bs))) hr2
            refine ⟨u, r, _, _, rfl, rfl, sr _ _ upd_same, upd_same, line_le ?_, fun z hz => ?_⟩
            · rw [nvs_len]
              have := shortN_len bs
              have := hb4.len
              show 1 + _ ≤ _
              omega
            · have sz := same_upd (o := .lst ([V.int 1] ++ nvs (shortN bs))) hz
              obtain ⟨dx4, mr4, st4, ms4, h4'⟩ := h4
              have h5 := ((h4'.same su).same sr).same sz
              refine qQ (x.1, some bs) t2 ep _ z (PoolAt.more ⟨dx4, mr4, st4, ms4, h5.subS fun q s => .inl s⟩ (by omega)) (((f04.trans (Fr.of_same su)).trans (Fr.of_same sr)).trans (Fr.of_same sz)) ?_ ?_
              · rw [upd_same]
                unfold readAns
                rw [List.map_cons, short_nvs]
                rfl
              · exact dom_none ((f04.trans (Fr.of_same su)).trans (Fr.of_same sr)).dom hz
        · refine if_f (ed.trans (beq_eq_false_iff_ne.mpr c)) ?_
          rw [if_neg c] at ep
          dsimp only at ep
          obtain ⟨z1, z2⟩ := next t (some (.ref pb)) H3 h3 f3 hA3 hD3 ep
          exact ⟨_, rfl, .inl ⟨rfl, _, SqL.of hA3⟩, _, rfl, aA, _, _, rfl, rfl, hA3, z1, z2⟩
    · rintro σ H' ⟨sim', v5, v6, rfl, hp, f1, hA', hD', ep⟩
      rw [nvs_len] at hp ep
      rw [List.drop_length] at ep
      refine ⟨(by show 1 ≤ sizeLine; decide), fun u hu => ?_⟩
      have su := same_upd (o := .lst [.int 0]) hu
      exact qQ (p, none) sim' ep _ u (PoolAt.more ⟨dx, mr, st, ms, (hp.same su).subS fun q s => .inl s⟩ (by omega)) (f1.trans (Fr.of_same su)) upd_same (dom_none f1.dom hu)
/-! ### slots -/
def tellN (x : Nat × Bytes) : List Int := (x.1 : Int) :: ((Gv01Neutral.short x.2).length : Int) :: Gv01Neutral.short x.2
def tellAll (l : List (Nat × Bytes)) : List Int := l.flatMap tellN
theorem tellAll_snoc (l : List (Nat × Bytes)) (x : Nat × Bytes) : tellAll (l ++ [x]) = tellAll l ++ tellN x := by
  unfold tellAll
  rw [List.flatMap_append]
  simp
theorem short_len (b : Bytes) : (Gv01Neutral.short b).length = (shortN b).length := by
  rw [short_eq]
  unfold Gv01Neutral.ints
  rw [List.length_map]
def spPoolSlots (T : Txt K mg) : Sp := fun vs H Q E => ∃ S I N pa la sm stp p sim, ∃ k : Nat, vs = [.ref pa, nv k] ∧ PoolAt T H S I N pa la sm stp p sim ∧ N < 2700000 ∧ k < 8 ∧
  (∀ t, Gv.play (Gv01.slots p k) sim = (none, t) → ∀ H', LineAt T.Li.C T.De.C H' (Sh S I) (N + 48) la t → Fr (Sh S I) H H' → E (.ref T.Pg.C) none H') ∧
  (∀ x t, Gv.play (Gv01.slots p k) sim = (some x, t) → ∀ H' r, PoolAt T H' S I (N + 48) pa la sm stp x.1 t → Fr (Sh S I) H H' → H' r = some (.lst (((x.2.length : Int) :: tellAll x.2).map V.int)) → H r = none → Q (.ref r) H')
theorem ok_Pool_slots (T : Txt K mg) : FnOk P w K mg base (L2.CX P w) 8 T.Po.slots.f T.Po.slots.fd ["self", "k"] (spPoolSlots T) := by
  refine T.Po.slots.F.okX sc_Pool_slots (fun vs H Q E h => ?_) (fun cdv A outer s H vs Q E hr h => ⟨_, (pss_cons
    (ps_set (i := 2) sc_Pool_slots.nd rfl (Or.inl rfl) pe_int)
    (pss_cons
    (ps_set (i := 3) sc_Pool_slots.nd rfl (Or.inl rfl) (pe_lst pa_nil))
    (pss_cons
    (ps_for (passes_of rfl) rfl (pi_list (pe_meth (pv 0) T.Po.cl T.Po.m_good_ones (ok_Pool_good_ones T) (hr.mono (by decide)) T.Po.good_ones.b .nil pass0 (pa_cons (pe_callTy (call_list_dK rfl) (by rfl) T.G.n_list (by decide +kernel) (pa_cons (pe_fld (pv 0) rfl) pa_nil)) pa_nil))) (pg_name (i := 4) sc_Pool_slots.nd rfl (Or.inl rfl)) (pss_cons
    (ps_set (i := 5) sc_Pool_slots.nd rfl (Or.inl rfl) (pe_meth (pe_fld (pv 0) rfl) T.Li.cl T.Li.m_read (ok_Line_read T) (hr.mono (by decide)) T.Li.read.b .nil (passes_call (takes_of rfl rfl rfl rfl) (fun _ _ _ _ h => h)) (pa_cons (pv 4) (pa_cons (pv 1) pa_nil))))
    (pss_one
    (ps_if (pt_cmp (pc_notN (pv 5))) (pss_cons
    (ps_aug (i := 2) sc_Pool_slots.nd rfl (Or.inl rfl) pe_int ip_add)
    (pss_cons
    (ps_set (i := 6) sc_Pool_slots.nd rfl (Or.inl rfl) (pe_call (ok_told_bytes T) (hr.mono (by decide)) rfl T.F.g_told_bytes T.F.told_bytes.F.kp T.F.told_bytes.b .nil pass0 (pa_cons (pv 5) pa_nil)))
    (pss_cons
    (ps_expr (pe_bm PySem.F.plainAttrs_list PySem.F.slot_list_extend PySem.F.type_list_extend mt_extend (pv 3) (pa_cons (pe_lst (pa_cons (pv 4) (pa_cons (pe_callB call_len_seq (by rfl) T.G.n_len PySem.boot_len (pa_cons (pv 6) pa_nil)) pa_nil))) pa_nil)))
    (pss_one
    (ps_expr (pe_bm PySem.F.plainAttrs_list PySem.F.slot_list_extend PySem.F.type_list_extend mt_extend (pv 3) (pa_cons (pv 6) pa_nil))))))) pss_nil))))
    (pss_one
    (ps_ret (pe_op op_cat (pe_lst (pa_cons (pv 2) pa_nil)) (pv 3))))))), ?_⟩)
  · obtain ⟨S, I, N, pa, la, sm, stp, p, sim, k, rfl, _⟩ := h
    rfl
  · obtain ⟨S, I, N, pa, la, sm, stp, p, sim, k, rfl, ⟨dx, mr, st, ms, h⟩, lim, hk8, qE, qQ⟩ := h
    have l8 := dev_len8 h.good
    obtain ⟨l, hl⟩ : ∃ l, l = p.devices.filter fun d => p.state d == 0 := ⟨_, rfl⟩
    have hll : l.length ≤ 8 := by rw [hl]; exact Nat.le_trans (List.length_filter_le _ _) l8
    have es : Gv.play (Gv01.slots p k) sim = match Gv.play (gatherL k l) sim with | (some x, t) => (some (p, x), t) | (none, t) => (none, t) := by
      unfold Gv01.slots
      rw [if_neg (show ¬ Gv01.SLOTS ≤ k from fun z => by have z2 : 8 ≤ k := z; omega), play_bind, gather_eq, ← hl]
      rcases hx : Gv.play (gatherL k l) sim with ⟨_ | x, t⟩ <;> rfl
    refine ⟨Nat.zero_le _, fun aA hA => ?_⟩
    have smA := same_upd (o := .lst []) hA
    have h1 := h.addS (o := .lst []) hA
    refine ⟨_, rfl, pa, dx, _, rfl, h1.obj, pF_no, _, rfl, pa, T.Po.C, dx, _, _, rfl, h1.obj, T.Po.cl, T.Po.n_states, pF_states, st, _, rfl, h1.sta, fun D0 hD0 => ?_⟩
    rw [stOf_keys]
    have sm0 := same_upd (o := .lst (nvs p.devices)) hD0
    refine ⟨_, I, N, pa, la, sm, stp, p, sim, D0, p.devices, rfl, ⟨dx, mr, st, ms, h1.same sm0⟩, upd_same, fun d hd => hd, by omega, fun D hD => ?_⟩
    rw [show (p.devices.filter fun d => (fun s => s == 0) (p.state d)) = l from hl.symm]
    have smD := sm0.trans (same_upd (o := .lst (nvs l)) hD)
    have nAD : aA ≠ D := (none_upd (none_upd hD).1).2.symm
    have shS : ∀ q, Sh S I q → Own (fun q => S q ∨ q = aA) I st q := fun q z => by
      rcases z with z | z
      · exact .inl (.inl z)
      · exact .inr (.inl z)
    refine ⟨D, rfl, ⟨_, SqL.of upd_same⟩, ?_⟩
    refine for_list (xs := nvs l) (fun i σ H' => ∃ sim' acc v4 v5 v6, σ = [some (.ref pa), some (nv k), some (nv acc.length), some (.ref aA), v4, v5, v6] ∧ PoolIn T H' (fun q => S q ∨ q = aA) I (N + 2 * i) pa la sm stp p sim' dx mr st ms ∧ Fr (Sh S I) H H' ∧
        H' aA = some (.lst ((tellAll acc).map V.int)) ∧ H' D = some (.lst (nvs l)) ∧ (tellAll acc).length ≤ 1026 * i ∧ Gv.play (gatherL k l) sim = add acc (Gv.play (gatherL k (l.drop i)) sim'))
      ⟨sim, [], none, none, none, rfl, h1.same smD, (Fr.of_same smA).trans (Fr.of_same smD), smD _ _ upd_same, upd_same, Nat.le_refl _, by
        show Gv.play (gatherL k l) sim = add [] (Gv.play (gatherL k l) sim)
        rcases Gv.play (gatherL k l) sim with ⟨_ | x, t⟩ <;> rfl⟩ (fun i σ H' _ ⟨_, _, _, _, _, _, _, _, _, e, _⟩ => SqL.of e) ?_ ?_
    · rintro i y σ H' hi ⟨sim', acc, v4, v5, v6, rfl, hp, f1, hA', hD', tl, ep⟩
      obtain ⟨n, hn, rfl⟩ := nvs_get hi
      have il : i < l.length := (List.getElem?_eq_some_iff.mp hn).1
      have hne : l ≠ [] := fun e => by rw [e] at il; cases il
      rw [drop_get hn, gatherL_cons] at ep
      obtain ⟨dl, dv, en, gs, ek, hli⟩ := hp.line
      refine ⟨_, rfl, pa, T.Po.C, dx, _, _, rfl, hp.obj, T.Po.cl, T.Po.n_line, pF_line, la, dl, _, rfl, hli.obj, lF_no, _, rfl, _, rfl, ?_⟩
      refine ⟨_, N + 2 * i, la, sim', n, k, rfl, hp.line, hp.own, by omega, fun t e H2 L2 f2 => ?_, fun t e H2 L2 f2 => ?_, fun t bs e H2 pb L2 f2 hb sb => ?_⟩
      · rw [e] at ep
        have ep2 : Gv.play (gatherL k l) sim = (none, t) := ep
        rw [ep2] at es
        exact qE t es H2 ((L2.more (by omega)).imp shS) (f1.trans (f2.imp shS))
      · rw [e] at ep
        dsimp only at ep
        have hA2 := f2.keep aA _ (.inl (.inr rfl)) hA'
        refine ⟨_, rfl, _, rfl, if_f rfl ?_⟩
        exact ⟨t, acc, some (nv n), some .non, v6, rfl, (hp.move L2 f2).more (by omega), f1.trans (f2.imp shS), hA2, f2.intl D l hne hD', by omega, ep⟩
      · rw [e] at ep
        dsimp only at ep
        rw [add_add] at ep
        have h2 := hp.move L2 f2
        have hA2 := f2.keep aA _ (.inl (.inr rfl)) hA'
        have hD2 := f2.intl D l hne hD'
        have f12 := f1.trans (f2.imp shS)
        refine ⟨_, rfl, _, rfl, if_t rfl ?_⟩
        refine ⟨_, rfl, _, _, rfl, rfl, ?_⟩
        refine ⟨_, rfl, pb, bs, rfl, hb.at_, by rw [hb.len]; exact Nat.le_refl _, fun r hr2 => ?_⟩
        have sr := same_upd (o := .lst (nvs (shortN bs))) hr2
        have h3 := h2.same sr
        have hA3 := sr _ _ hA2
        refine ⟨_, rfl, .inl ⟨rfl, _, SqL.of hA3⟩, _, rfl, _, rfl, r, _, rfl, .inl (SqL.of upd_same), (by show 2 ≤ sizeLine; decide), fun u hu => ?_⟩
        have su := same_upd (o := .lst [nv n, .int ((nvs (shortN bs)).length : Int)]) hu
        have hA4 := su _ _ hA3
        have sl := shortN_len bs
        have bl := hb.len
        have nAu : u ≠ aA := (ne_of_none hA3 hu).symm
        have nAr : r ≠ aA := (ne_of_none hA2 hr2).symm
        have nru : r ≠ u := (none_upd hu).2.symm
        refine ⟨aA, u, _, _, rfl, rfl, hA4, upd_same, line_le ?_, ?_⟩
        · rw [List.length_map]
          show _ + 2 ≤ _
          omega
        · refine ⟨_, rfl, .inl ⟨rfl, _, SqL.of upd_same⟩, _, rfl, aA, r, _, _, rfl, rfl, upd_same, (by rw [upd_ne nAr]; exact su _ _ upd_same), line_le ?_, ?_⟩
          · rw [List.length_append, List.length_map, nvs_len]
            show _ + 2 + _ ≤ _
            omega
          · have eN : (tellAll acc).map V.int ++ [nv n, V.int ((nvs (shortN bs)).length : Int)] ++ nvs (shortN bs) = (tellAll (acc ++ [(n, bs)])).map V.int := by
              rw [tellAll_snoc, List.map_append, List.append_assoc, nvs_len]
              unfold tellN
              rw [List.map_cons, List.map_cons, short_nvs, short_len]
              rfl
            refine ⟨t, acc ++ [(n, bs)], some (nv n), some (.ref pb), some (.ref r), ?_, ?_, ?_, ?_, ?_, ?_, ep⟩
            · rw [List.length_append]
              rfl
            · exact (((h3.same su).updS (o := .lst ((tellAll acc).map V.int ++ [nv n, V.int ((nvs (shortN bs)).length : Int)])) (.inr rfl)).updS (.inr rfl)).more (by omega)
            · exact (((f12.trans (Fr.of_same sr)).trans (Fr.of_same su)).upd hA).upd hA
            · rw [upd_same, eN]
            · rw [upd_ne nAD.symm, upd_ne nAD.symm]
              exact su _ _ (sr _ _ hD2)
            · rw [tellAll_snoc, List.length_append]
              unfold tellN
              rw [List.length_cons, List.length_cons, short_len]
              show _ + ((shortN bs).length + 1 + 1) ≤ _
              omega
    · rintro σ H' ⟨sim', acc, v4, v5, v6, rfl, hp, f1, hA', hD', tl, ep⟩
      rw [nvs_len] at hp ep tl
      rw [List.drop_length] at ep
      have ep2 : Gv.play (gatherL k l) sim = (some acc, sim') := ep.trans (by show (some (acc ++ []), sim') = _; rw [List.append_nil])
      rw [ep2] at es
      refine ⟨_, rfl, (by show 1 ≤ sizeLine; decide), fun u hu => ?_⟩
      have su := same_upd (o := .lst [nv acc.length]) hu
      refine ⟨_, rfl, u, aA, _, _, rfl, rfl, upd_same, su _ _ hA', line_le ?_, fun z hz => ?_⟩
      · rw [List.length_map]
        show 1 + _ ≤ _
        omega
      · have sz := same_upd (o := .lst ([nv acc.length] ++ (tellAll acc).map V.int)) hz
        exact qQ (p, acc) sim' es _ z (PoolAt.more ⟨dx, mr, st, ms, ((hp.same su).same sz).subS fun q s => .inl s⟩ (by omega)) ((f1.trans (Fr.of_same su)).trans (Fr.of_same sz)) upd_same (dom_none (f1.trans (Fr.of_same su)).dom hz)
end
end Mp
namespace Mp
open PySem PySem.Spec PyProof.Rows L2
open Gv (Bytes Dev zeroBlock isBlock Sim Happens Prog Ask Reply Ptr)
open Gv01 (Pool)
/-! ### dicts of distinct devices -/
def mkD (v : V) (l : List Nat) : List (Key × V) := l.map fun (d : Nat) => ((Sum.inl (d : Int) : Key), v)
theorem mkD_get (v : V) (d : Nat) : ∀ l : List Nat, valV (mkD v l) (Sum.inl (d : Int)) = if d ∈ l then some v else none
  | [] => rfl
  | x :: r => by
    show valV ((Sum.inl (x : Int), v) :: mkD v r) _ = _
    by_cases e : x = d
    · rw [valV_pos (by rw [e]), if_pos (by rw [e]; exact List.mem_cons_self)]
    · rw [valV_neg (fun z => e (inl_inj z)), mkD_get v d r]
      by_cases m : d ∈ r
      · rw [if_pos m, if_pos (List.mem_cons_of_mem _ m)]
      · rw [if_neg m, if_neg (by
          intro z
          rcases List.mem_cons.mp z with w | w
          · exact e w.symm
          · exact m w)]
theorem mkD_put (v : V) {d : Nat} {l : List Nat} (h : d ∉ l) : putK (mkD v l) (Sum.inl (d : Int)) v = mkD v (l ++ [d]) := by
  rw [putK_new v (by rw [mkD_get, if_neg h])]
  unfold mkD
  rw [List.map_append]
  rfl
theorem mkD_len (v : V) (l : List Nat) : (mkD v l).length = l.length := List.length_map ..
def fresh0 (rows : List (List Nat)) (n : Nat) : Pool := ⟨rows, n, List.replicate 8 0⟩
theorem fresh_state {rows : List (List Nat)} {n : Nat} (g : Good (fresh0 rows n)) : stOf (fresh0 rows n) = mkD (nv 0) rows.flatten := by
  unfold stOf mkD
  apply List.map_congr_left
  intro d hd
  have hd' : d ∈ (fresh0 rows n).devices := hd
  have l := g.lt d hd'
  have e : (fresh0 rows n).state d = 0 := by
    unfold Gv01.Pool.state
    rw [if_pos ((has_iff d).mpr hd')]
    show (List.replicate 8 0).getD d _ = 0
    rw [List.getD_eq_getElem?_getD, List.getElem?_replicate, if_pos l]
    rfl
  rw [e]
theorem flat_snoc {rows : List (List Nat)} {i : Nat} {row : List Nat} (h : rows[i]? = some row) : (rows.take (i + 1)).flatten = (rows.take i).flatten ++ row := by
  rw [take_snoc h, List.flatten_append]
  simp
theorem flat_nodup {rows : List (List Nat)} (h : rows.flatten.Nodup) (i : Nat) : (rows.take i).flatten.Nodup := by
  have e : rows.flatten = (rows.take i).flatten ++ (rows.drop i).flatten := by rw [← List.flatten_append, List.take_append_drop]
  rw [e] at h
  exact h.sublist (List.sublist_append_left _ _)
theorem snoc_not {l : List Nat} {d : Nat} (h : (l ++ [d]).Nodup) : d ∉ l := fun m => by
  rw [List.nodup_append] at h
  exact h.2.2 d m d (by simp) rfl
theorem flat_new {rows : List (List Nat)} (h : rows.flatten.Nodup) {i j : Nat} {row : List Nat} {d : Nat} (hr : rows[i]? = some row) (hd : row[j]? = some d) : d ∉ (rows.take i).flatten ++ row.take j := by
  have h1 := flat_nodup h (i + 1)
  rw [flat_snoc hr] at h1
  refine snoc_not (h1.sublist ?_)
  rw [List.append_assoc, ← take_snoc hd]
  exact List.Sublist.append_left (List.take_sublist _ _) _
section
variable {P : Program} {w : World} {K : PySem.W.Frag} {mg : Str → Option Value} {base : Heap}
/-! ### __init__ -/
def spPoolInit (CP : Addr) : Sp := fun vs H Q _ => ∃ pa la sm mr dx, ∃ n : Nat, ∃ (ms : List Addr) (rows : List (List Nat)), vs = [.ref pa, .ref la, .ref sm, nv n, .ref mr] ∧ H pa = some (.ins CP dx []) ∧ H mr = some (.lst (ms.map V.ref)) ∧ Paired (fun m row => H m = some (.lst (nvs row))) ms rows ∧ Good (fresh0 rows n) ∧
  ∀ H' st, H st = none → H' pa = some (.ins CP dx (pF la sm n mr st)) → H' st = some (.dK (stOf (fresh0 rows n))) → (∀ q o, H q = some o → q ≠ pa → H' q = some o) → Q .non H'
theorem ok_Pool_init (T : Txt K mg) : FnOk P w K mg base CX0 1 T.Po.init.f T.Po.init.fd ["self", "line", "sums", "n", "mirrors"] (spPoolInit T.Po.C) := by
  refine T.Po.init.F.ok sc_Pool_init (fun vs H Q E h => ?_) (fun cdv A outer s H vs Q E hr h => ⟨_, (pss_cons
    (ps_fld (pv 0) (pv 1) rfl)
    (pss_cons
    (ps_fld (pv 0) (pv 2) rfl)
    (pss_cons
    (ps_fld (pv 0) (pv 3) rfl)
    (pss_cons
    (ps_fld (pv 0) (pv 4) rfl)
    (pss_cons
    (ps_fld (pv 0) pe_dnewK rfl)
    (pss_one
    (ps_for PassesOwn.never rfl (pi_list (pv 4)) (pg_name (i := 5) sc_Pool_init.nd rfl (Or.inl rfl)) (pss_one
    (ps_for PassesOwn.never rfl (pi_list (pv 5)) (pg_name (i := 6) sc_Pool_init.nd rfl (Or.inl rfl)) (pss_one
    (ps_dput (hu_of hr) (pe_fld (pv 0) rfl) (pv 6) (pe_gint T.G.c_GOOD) rfl))))))))))), ?_⟩)
  · obtain ⟨pa, la, sm, mr, dx, n, ms, rows, rfl, _⟩ := h
    rfl
  · obtain ⟨pa, la, sm, mr, dx, n, ms, rows, rfl, hp, hm, pw, g, q⟩ := h
    have hnd : rows.flatten.Nodup := g.nodup
    have hlt : ∀ d ∈ rows.flatten, d < 8 := g.lt
    have hl8 : rows.flatten.length ≤ 8 := dev_len8 g
    refine ⟨_, rfl, _, rfl, pa, T.Po.C, dx, [], rfl, hp, T.Po.cl, T.Po.n_line, (by show 0 < 1000; decide), ?_⟩
    refine ⟨_, rfl, _, rfl, pa, T.Po.C, dx, _, rfl, upd_same, T.Po.cl, T.Po.n_sums, (by show 1 < 1000; decide), ?_⟩
    refine ⟨_, rfl, _, rfl, pa, T.Po.C, dx, _, rfl, upd_same, T.Po.cl, T.Po.n_n, (by show 2 < 1000; decide), ?_⟩
    refine ⟨_, rfl, _, rfl, pa, T.Po.C, dx, _, rfl, upd_same, T.Po.cl, T.Po.n_mirrors, (by show 3 < 1000; decide), ?_⟩
    intro st hst
    rw [upd_upd, upd_upd, upd_upd] at hst ⊢
    have nst : st ≠ pa := (none_upd hst).2
    have hst0 : H st = none := (none_upd hst).1
    refine ⟨_, rfl, pa, T.Po.C, dx, _, rfl, (by rw [upd_ne nst.symm]; exact upd_same), T.Po.cl, T.Po.n_states, (by show 4 < 1000; decide), ?_⟩
    obtain ⟨HH, hHH⟩ : ∃ HH, HH = upd (upd (upd H pa (.ins T.Po.C dx (putF "mirrors" (.ref mr) (putF "n" (nv n) (putF "sums" (.ref sm) (putF "line" (.ref la) [])))))) st (.dK [])) pa (.ins T.Po.C dx (pF la sm n mr st)) := ⟨_, rfl⟩
    have epf : putF "states" (V.ref st) (putF "mirrors" (.ref mr) (putF "n" (nv n) (putF "sums" (.ref sm) (putF "line" (.ref la) [])))) = pF la sm n mr st := rfl
    rw [epf, ← hHH]
    have k0 : ∀ z o, H z = some o → z ≠ pa → HH z = some o := fun z o hz nz => by
      rw [hHH, upd_ne nz, upd_ne (ne_of_none hz hst0), upd_ne nz]
      exact hz
    have o1 : HH pa = some (.ins T.Po.C dx (pF la sm n mr st)) := by rw [hHH]; exact upd_same
    have o2 : HH st = some (.dK []) := by rw [hHH, upd_ne nst]; exact upd_same
    have nm : mr ≠ pa := ne_of hm hp (by intro z; cases z)
    have nms : ∀ z xs, H z = some (.lst xs) → z ≠ pa := fun z xs hz => ne_of hz hp (by intro z; cases z)
    have nzs : ∀ z o, H z = some o → z ≠ st := fun z o hz => ne_of_none hz hst0
    have upst : upd HH st (.dK []) = HH := by
      funext z
      unfold upd
      split
      · rename_i e
        rw [e, o2]
      · rfl
    refine ⟨_, rfl, mr, rfl, ⟨_, SqL.of (k0 _ _ hm nm)⟩, ?_⟩
    refine for_list (xs := ms.map V.ref) (fun i σ H' => (∃ v w, σ = [some (.ref pa), some (.ref la), some (.ref sm), some (nv n), some (.ref mr), v, w]) ∧ H' = upd HH st (.dK (mkD (nv 0) (rows.take i).flatten)))
      ⟨⟨none, none, rfl⟩, upst.symm⟩ (fun i σ H' _ ⟨_, e⟩ => by rw [e]; exact SqL.of (by rw [upd_ne (nzs _ _ hm)]; exact k0 _ _ hm nm)) ?_ ?_
    · rintro i y σ H' hi ⟨⟨v1, v2, rfl⟩, rfl⟩
      rw [List.getElem?_map] at hi
      cases hmi : ms[i]? with
      | none => rw [hmi] at hi; cases hi
      | some m =>
        rw [hmi] at hi
        obtain rfl := Option.some.inj hi
        obtain ⟨row, hr, r1⟩ := paired_get pw hmi
        have hm1 : ∀ u, upd HH st u m = some (.lst (nvs row)) := fun u => by
          rw [upd_ne (nzs _ _ r1)]
          exact k0 _ _ r1 (nms _ _ r1)
        refine ⟨_, rfl, m, rfl, ⟨_, SqL.of (hm1 _)⟩, ?_⟩
        refine for_list (xs := nvs row) (fun j σ H' => (∃ w, σ = [some (.ref pa), some (.ref la), some (.ref sm), some (nv n), some (.ref mr), some (.ref m), w]) ∧ H' = upd HH st (.dK (mkD (nv 0) ((rows.take i).flatten ++ row.take j))))
          ⟨⟨v2, rfl⟩, by rw [List.take_zero, List.append_nil]⟩ (fun j σ H' _ ⟨_, e⟩ => by rw [e]; exact SqL.of (hm1 _)) ?_ ?_
        · rintro j y σ H' hj ⟨⟨w2, rfl⟩, rfl⟩
          obtain ⟨d, hd, rfl⟩ := nvs_get hj
          refine ⟨_, rfl, pa, T.Po.C, dx, _, _, rfl, (by rw [upd_ne nst.symm]; exact o1), T.Po.cl, T.Po.n_states, pF_states, _, rfl, st, _, rfl, DPut.k (k := Sum.inl (d : Int)) upd_same (line_lt ?_), ⟨_, rfl⟩, ?_⟩
          · rw [mkD_len]
            have h1 := flat_nodup hnd (i + 1)
            rw [flat_snoc hr] at h1
            have h2 : ((rows.take i).flatten ++ row.take j).length ≤ ((rows.take i).flatten ++ row).length := by
              rw [List.length_append, List.length_append, List.length_take]
              omega
            have h3 : ((rows.take i).flatten ++ row).length ≤ rows.flatten.length := by
              rw [← flat_snoc hr]
              have e : rows.flatten = (rows.take (i + 1)).flatten ++ (rows.drop (i + 1)).flatten := by rw [← List.flatten_append, List.take_append_drop]
              rw [e, List.length_append]
              omega
            omega
          · rw [upd_upd, show putK (mkD (nv 0) ((rows.take i).flatten ++ row.take j)) (Sum.inl (d : Int)) (V.int 0) = _ from mkD_put (nv 0) (flat_new hnd hr hd), List.append_assoc, ← take_snoc hd]
        · rintro σ H' ⟨⟨w2, rfl⟩, rfl⟩
          rw [nvs_len, List.take_length, ← flat_snoc hr]
          exact ⟨⟨_, _, rfl⟩, rfl⟩
    · rintro σ H' ⟨_, rfl⟩
      rw [List.length_map, pw.length, List.take_length, ← fresh_state g]
      exact q _ st hst0 (by rw [upd_ne nst.symm]; exact o1) upd_same fun z o hz nz => by
        rw [upd_ne (nzs z o hz)]
        exact k0 z o hz nz
/-! ### can_be_pool -/
theorem config_of {rows : List (List Nat)} {n : Nat} (h1 : rows ≠ []) (h2 : ∀ m ∈ rows, 1 ≤ m.length ∧ m.length ≤ 3) (h3 : rows.flatten.Nodup) (h4 : ∀ d ∈ rows.flatten, d < 8) (h5 : 16 ≤ n ∧ n ≤ 65536) : Gv01.configOk rows n = true := by
  unfold Gv01.configOk
  simp only [Bool.and_eq_true, List.all_eq_true, decide_eq_true_eq]
  refine ⟨?_, h2, nodup_apart h3, h4, h5⟩
  cases rows with
  | nil => exact absurd rfl h1
  | cons x r => rfl
theorem config_good {rows : List (List Nat)} {n : Nat} (h : Gv01.configOk rows n = true) : Good (fresh0 rows n) := ⟨h, List.length_replicate⟩
theorem config_no {rows : List (List Nat)} {n : Nat} (h : Good (fresh0 rows n) → False) : Gv01.configOk rows n = false := by
  cases e : Gv01.configOk rows n with
  | false => rfl
  | true => exact (h (config_good e)).elim
theorem mem_flat {rows : List (List Nat)} {i : Nat} {row : List Nat} (h : rows[i]? = some row) {d : Nat} (hd : d ∈ row) : d ∈ rows.flatten := List.mem_flatten.mpr ⟨row, List.mem_of_getElem? h, hd⟩
def spCanBe : Sp := fun vs H Q _ => ∃ n : Nat, ∃ mr, ∃ (ms : List Addr) (rows : List (List Nat)), vs = [nv n, .ref mr] ∧ H mr = some (.lst (ms.map V.ref)) ∧ Paired (fun m row => H m = some (.lst (nvs row))) ms rows ∧
  ∀ H', Same H H' → Q (.bl (Gv01.configOk rows n)) H'
theorem ok_can_be_pool (T : Txt K mg) : FnOk P w K mg base CX0 1 T.F.can_be_pool.f T.F.can_be_pool.fd ["n", "mirrors"] (spCanBe) := by
  refine T.F.can_be_pool.F.ok sc_can_be_pool (fun vs H Q E h => ?_) (fun cdv A outer s H vs Q E hr h => ⟨_, (pss_cons
    (ps_if (PW.pt (pw_or (pt_cmpR op_lt (pv 0) (pe_gint T.G.c_FEWEST_BLOCKS) (nomark _)) (pw_or (pt_cmpR op_gt (pv 0) (pe_gint T.G.c_MOST_BLOCKS) (nomark _)) (pw_or1 (pt_cmpR op_eq (pe_callB call_len_seq (by rfl) T.G.n_len PySem.boot_len (pa_cons (pv 1) pa_nil)) pe_int (nomark _)))))) (pss_one
    (ps_ret pe_bl)) pss_nil)
    (pss_cons
    (ps_set (i := 2) sc_can_be_pool.nd rfl (Or.inl rfl) pe_dnewK)
    (pss_cons
    (ps_for PassesOwn.never rfl (pi_list (pv 1)) (pg_name (i := 3) sc_can_be_pool.nd rfl (Or.inl rfl)) (pss_cons
    (ps_if (PW.pt (pw_or (pt_cmpR op_eq (pe_callB call_len_seq (by rfl) T.G.n_len PySem.boot_len (pa_cons (pv 3) pa_nil)) pe_int (nomark _)) (pw_or1 (pt_cmpR op_gt (pe_callB call_len_seq (by rfl) T.G.n_len PySem.boot_len (pa_cons (pv 3) pa_nil)) (pe_gint T.G.c_WIDEST_MIRROR) (nomark _))))) (pss_one
    (ps_ret pe_bl)) pss_nil)
    (pss_one
    (ps_for PassesOwn.never rfl (pi_list (pv 3)) (pg_name (i := 4) sc_can_be_pool.nd rfl (Or.inl rfl)) (pss_cons
    (ps_if (PW.pt (pw_or (pt_cmpR op_ge (pv 4) (pe_gint T.G.c_DEVICES) (nomark _)) (pw_or1 (pt_cmp (pc_din (hu_of hr) (pv 4) (pv 2)))))) (pss_one
    (ps_ret pe_bl)) pss_nil)
    (pss_one
    (ps_dput (hu_of hr) (pv 2) (pv 4) pe_bl rfl)))))))
    (pss_one
    (ps_ret pe_bl))))), ?_⟩)
  · obtain ⟨n, mr, ms, rows, rfl, _⟩ := h
    rfl
  · obtain ⟨n, mr, ms, rows, rfl, hm, pw, q⟩ := h
    have no : ∀ H', Same H H' → (Good (fresh0 rows n) → False) → Q (.bl false) H' := fun H' sm c => by
      have := q H' sm
      rw [config_no c] at this
      exact this
    have el : ms.length = rows.length := pw.length
    refine ⟨_, rfl, _, _, rfl, rfl, _, rfl, ?_⟩
    by_cases c1 : n < 16
    · exact if_t (decide_eq_true (by omega)) (if_t rfl (no H (Same.refl H) fun g => by have : 16 ≤ n := g.blocks.1; omega))
    refine if_f (decide_eq_false (by omega)) ?_
    refine ⟨_, rfl, _, _, rfl, rfl, _, rfl, ?_⟩
    by_cases c2 : n > 65536
    · exact if_t (decide_eq_true (by omega)) (if_t rfl (no H (Same.refl H) fun g => by have : n ≤ 65536 := g.blocks.2; omega))
    refine if_f (decide_eq_false (by omega)) ?_
    refine ⟨_, rfl, mr, _, rfl, .inl (SqL.of hm), rfl, _, rfl, ?_⟩
    rw [List.length_map, el]
    by_cases c3 : rows.length = 0
    · exact if_t (decide_eq_true (by rw [c3]; rfl)) (no H (Same.refl H) fun g => g.ne (List.length_eq_zero_iff.mp c3))
    refine if_f (decide_eq_false (fun z => c3 (by have := V.int.inj z; omega))) ?_
    intro sd hsd
    have sm0 := same_upd (o := .dK []) hsd
    have nz : ∀ z o, H z = some o → z ≠ sd := fun z o hz => ne_of_none hz hsd
    have keep : ∀ u, Same H (upd H sd u) := fun u => same_upd hsd
    refine ⟨_, rfl, mr, rfl, ⟨_, SqL.of (sm0 _ _ hm)⟩, ?_⟩
    refine for_list (xs := ms.map V.ref) (fun i σ H' => (∃ v w, σ = [some (nv n), some (.ref mr), some (.ref sd), v, w]) ∧ H' = upd H sd (.dK (mkD (.bl true) (rows.take i).flatten)) ∧ (∀ m ∈ rows.take i, 1 ≤ m.length ∧ m.length ≤ 3) ∧ (rows.take i).flatten.Nodup ∧ ∀ d ∈ (rows.take i).flatten, d < 8)
      ⟨⟨none, none, rfl⟩, rfl, fun m h => by simp at h, List.nodup_nil, fun d h => by simp at h⟩ (fun i σ H' _ ⟨_, e, _⟩ => by rw [e]; exact SqL.of (keep _ _ _ hm)) ?_ ?_
    · rintro i y σ H' hi ⟨⟨v1, v2, rfl⟩, rfl, a1, a2, a3⟩
      rw [List.getElem?_map] at hi
      cases hmi : ms[i]? with
      | none => rw [hmi] at hi; cases hi
      | some m =>
        rw [hmi] at hi
        obtain rfl := Option.some.inj hi
        obtain ⟨row, hr, r1⟩ := paired_get pw hmi
        have hrow : row ∈ rows := List.mem_of_getElem? hr
        have len : ∀ u, SqL K (upd H sd u) m (nvs row) := fun u => SqL.of (keep u _ _ r1)
        refine ⟨_, rfl, m, _, rfl, .inl (len _), rfl, _, rfl, ?_⟩
        rw [nvs_len]
        by_cases d1 : row.length = 0
        · exact if_t (decide_eq_true (by rw [d1]; rfl)) (if_t rfl (no _ (keep _) fun g => by have := (g.rows row hrow).1; omega))
        refine if_f (decide_eq_false (fun z => d1 (by have := V.int.inj z; omega))) ?_
        refine ⟨_, rfl, m, _, rfl, .inl (len _), _, _, rfl, rfl, _, rfl, ?_⟩
        rw [nvs_len]
        by_cases d2 : row.length > 3
        · exact if_t (decide_eq_true (by omega)) (no _ (keep _) fun g => by have := (g.rows row hrow).2; omega)
        refine if_f (decide_eq_false (by omega)) ?_
        refine ⟨_, rfl, m, rfl, ⟨_, len _⟩, ?_⟩
        refine for_list (xs := nvs row) (fun j σ H' => (∃ w, σ = [some (nv n), some (.ref mr), some (.ref sd), some (.ref m), w]) ∧ H' = upd H sd (.dK (mkD (.bl true) ((rows.take i).flatten ++ row.take j))) ∧ ((rows.take i).flatten ++ row.take j).Nodup ∧ ∀ d ∈ (rows.take i).flatten ++ row.take j, d < 8)
          ⟨⟨v2, rfl⟩, by rw [List.take_zero, List.append_nil], by rw [List.take_zero, List.append_nil]; exact a2, by rw [List.take_zero, List.append_nil]; exact a3⟩ (fun j σ H' _ ⟨_, e, _⟩ => by rw [e]; exact len _) ?_ ?_
        · rintro j y σ H' hj ⟨⟨w2, rfl⟩, rfl, b2, b3⟩
          obtain ⟨d, hd, rfl⟩ := nvs_get hj
          have hdm : d ∈ row := List.mem_of_getElem? hd
          refine ⟨_, rfl, _, _, rfl, rfl, _, rfl, ?_⟩
          by_cases e1 : d ≥ 8
          · exact if_t (decide_eq_true (by omega)) (if_t rfl (no _ (keep _) fun g => by have : d < 8 := g.lt d (mem_flat hr hdm); omega))
          refine if_f (decide_eq_false (by omega)) ?_
          refine ⟨_, rfl, _, rfl, sd, _, rfl, DGet.k (k := Sum.inl (d : Int)) upd_same, _, rfl, ?_⟩
          rw [mkD_get]
          by_cases e2 : d ∈ (rows.take i).flatten ++ row.take j
          · rw [if_pos e2]
            exact if_t rfl (no _ (keep _) fun g => flat_new g.nodup hr hd e2)
          rw [if_neg e2]
          refine if_f rfl ?_
          have ll : ((rows.take i).flatten ++ row.take j).length ≤ 8 := by
            have := b2.length_le_of_subset (l₂ := List.range 8) fun x hx => List.mem_range.mpr (b3 x hx)
            rwa [List.length_range] at this
          refine ⟨_, rfl, _, rfl, sd, _, rfl, DPut.k (k := Sum.inl (d : Int)) upd_same (line_lt (by rw [mkD_len]; omega)), ⟨_, rfl⟩, ?_, ?_, ?_⟩
          · rw [upd_upd, mkD_put (.bl true) e2, List.append_assoc, ← take_snoc hd]
          · rw [take_snoc hd, ← List.append_assoc, List.nodup_append]
            refine ⟨b2, by simp, fun x hx y hy z => ?_⟩
            rw [List.mem_singleton.mp hy] at z
            exact e2 (z ▸ hx)
          · rw [take_snoc hd, ← List.append_assoc]
            intro x hx
            rcases List.mem_append.mp hx with z | z
            · exact b3 x z
            · rw [List.mem_singleton.mp z]
              omega
        · rintro σ H' ⟨⟨w2, rfl⟩, rfl, b2, b3⟩
          rw [nvs_len, List.take_length, ← flat_snoc hr] at *
          refine ⟨⟨_, _, rfl⟩, rfl, fun m' hm' => ?_, b2, b3⟩
          rw [take_snoc hr] at hm'
          rcases List.mem_append.mp hm' with z | z
          · exact a1 m' z
          · rw [List.mem_singleton.mp z]
            omega
    · rintro σ H' ⟨_, rfl, a1, a2, a3⟩
      rw [List.length_map, el, List.take_length] at *
      have := q _ (keep (.dK (mkD (.bl true) rows.flatten)))
      rw [config_of (fun e => c3 (by rw [e]; rfl)) a1 a2 a3 (by omega)] at this
      exact this
end
end Mp
namespace Mp
open PySem PySem.Spec PyProof.Rows L2
open Gv (Bytes Dev zeroBlock isBlock Sim Happens Prog Ask Reply Ptr)
open Gv01 (Pool)
/-! ### what a call of the pool answers -/
def blk (ns : List Nat) : Bytes := if ns.length ≤ 1024 then Gv.blockOf ns else ns
theorem blk_ok {ns : List Nat} (h : ∀ x ∈ ns, x < 256) : isBlock (blk ns) = decide (ns.length ≤ 1024) := by
  unfold blk
  by_cases c : ns.length ≤ 1024
  · rw [if_pos c, decide_eq_true c]
    refine isBlock_of (blockOf_len c) fun x hx => ?_
    rw [blockOf_eq c] at hx
    rcases List.mem_append.mp hx with z | z
    · exact h x z
    · rw [List.eq_of_mem_replicate z]
      decide
  · rw [if_neg c, decide_eq_false c]
    cases e : isBlock ns with
    | false => rfl
    | true => exact absurd (isBlock_len e) (by omega)
def AnsOk {K : PySem.W.Frag} {mg : Str → Option Value} (T : Txt K mg) (H : Hp) (S I : Addr → Prop) (N : Nat) (pa la sm stp : Addr) (p : Pool) (sim : Sim) (c : Gv01.Call) (Q : VK) (E : XK) : Prop :=
  (∀ t, Gv.play (Gv01.does (some p) c) sim = (none, t) → ∀ H', LineAt T.Li.C T.De.C H' (Sh S I) (N + 48) la t → Fr (Sh S I) H H' → E (.ref T.Pg.C) none H') ∧
  (∀ p' a t, Gv.play (Gv01.does (some p) c) sim = (some (some p', a), t) → ∀ H' r, PoolAt T H' S I (N + 48) pa la sm stp p' t → Fr (Sh S I) H H' → H' r = some (.lst ((Gv01Neutral.told c a).map V.int)) → H r = none → Q (.ref r) H')
section
variable {P : Program} {w : World} {K : PySem.W.Frag} {mg : Str → Option Value} {base : Heap}
theorem AnsOk.same {T : Txt K mg} {H H1 : Hp} {S I : Addr → Prop} {N : Nat} {pa la sm stp : Addr} {p : Pool} {sim : Sim} {c : Gv01.Call} {Q : VK} {E : XK} (h : AnsOk T H S I N pa la sm stp p sim c Q E) (k : Same H H1) : AnsOk T H1 S I N pa la sm stp p sim c Q E :=
  ⟨fun t e H' L f => h.1 t e H' L ((Fr.of_same k).trans f), fun p' a t e H' r L f hr hn => h.2 p' a t e H' r L ((Fr.of_same k).trans f) hr (dom_none (dom_same k) hn)⟩
/-- nobody's asked: [z] -/
theorem AnsOk.one {T : Txt K mg} {H : Hp} {S I : Addr → Prop} {N : Nat} {pa la sm stp : Addr} {p : Pool} {sim : Sim} {c : Gv01.Call} {Q : VK} {E : XK} (h : AnsOk T H S I N pa la sm stp p sim c Q E) (hp : PoolAt T H S I N pa la sm stp p sim) {z : Int}
    (e : Gv.play (Gv01.does (some p) c) sim = (some (some p, Gv01.only z), sim)) (et : Gv01Neutral.told c (Gv01.only z) = [z]) : ∀ r, H r = none → Q (.ref r) (upd H r (.lst [V.int z])) := fun r hr =>
  h.2 p _ sim e _ r ((hp.same (same_upd hr)).more (by omega)) (Fr.of_same (same_upd hr)) (by rw [upd_same, et]; rfl) hr
theorem told_only (c : Gv01.Call) (z : Int) : Gv01Neutral.told c (Gv01.only z) = [z] := by
  cases c <;> rfl
/-! ### read -/
def spReadAnswer (T : Txt K mg) : Sp := fun vs H Q E => ∃ S I N pa la sm stp p sim, ∃ k s : Nat, vs = [.ref pa, nv k, nv s] ∧ PoolAt T H S I N pa la sm stp p sim ∧ N < 2700000 ∧ AnsOk T H S I N pa la sm stp p sim (.read k s) Q E
theorem ok_read_answer (T : Txt K mg) : FnOk P w K mg base (L2.CX P w) 11 T.F.read_answer.f T.F.read_answer.fd ["pool", "place", "wanted"] (spReadAnswer T) := by
  refine T.F.read_answer.F.okX sc_read_answer (fun vs H Q E h => ?_) (fun cdv A outer s H vs Q E hr h => ⟨_, (pss_cons
    (ps_if (pt_not (pt_val (pe_meth (pv 0) T.Po.cl T.Po.m_has_place (ok_Pool_has_place T) (hr.mono (by decide)) T.Po.has_place.b .nil pass0 (pa_cons (pv 1) pa_nil)))) (pss_one
    (ps_ret (pe_lst (pa_cons (pe_gint T.G.c_WRONG) pa_nil)))) pss_nil)
    (pss_one
    (ps_ret (pe_meth (pv 0) T.Po.cl T.Po.m_read (ok_Pool_read T) (hr.mono (by decide)) T.Po.read.b .nil (passes_call (takes_of rfl rfl rfl rfl) (fun _ _ _ _ h => h)) (pa_cons (pv 1) (pa_cons (pv 2) pa_nil)))))), ?_⟩)
  · obtain ⟨S, I, N, pa, la, sm, stp, p, sim, k, s, rfl, _⟩ := h
    rfl
  · obtain ⟨S, I, N, pa, la, sm, stp, p, sim, k, s, rfl, hp, lim, a⟩ := h
    obtain ⟨dx, mr, st, ms, h⟩ := hp
    refine ⟨_, rfl, pa, dx, _, rfl, h.obj, pF_no, _, rfl, ?_⟩
    refine ⟨S, I, N, pa, la, sm, stp, p, sim, k, rfl, ⟨dx, mr, st, ms, h⟩, _, rfl, ?_⟩
    by_cases c : k < Gv01.places p
    · refine if_f (by rw [decide_eq_true c]; rfl) ?_
      refine ⟨_, rfl, pa, dx, _, rfl, h.obj, pF_no, _, rfl, _, rfl, ?_⟩
      have e : ∀ x, Gv.play (Gv01.read p ⟨k, s⟩) sim = x → Gv.play (Gv01.does (some p) (.read k s)) sim = match x with | (some x, t) => (some (some x.1, match x.2 with | some b => ⟨1, [(0, b)]⟩ | none => Gv01.only 0), t) | (none, t) => (none, t) := fun x ex => by
        show Gv.play (if Gv01.places p ≤ k then _ else _) sim = _
        rw [if_neg (by omega), play_bind, ex]
        rcases x with ⟨_ | x, t⟩ <;> rfl
      refine ⟨S, I, N, pa, la, sm, stp, p, sim, k, s, rfl, ⟨dx, mr, st, ms, h⟩, lim, c, fun t ht H' L f => a.1 t (e _ ht) H' L f, fun x t ht H' r L f hr hn => a.2 x.1 _ t (e _ ht) H' r L f ?_ hn⟩
      rw [hr]
      rcases x with ⟨p', _ | b⟩
      · rfl
      · show _ = some (HO.lst (List.map V.int ((1 : Int) :: ([((0 : Nat), b)].flatMap fun (x : Nat × List Nat) => Gv01Neutral.short x.2))))
        rw [List.flatMap_cons, List.flatMap_nil, List.append_nil]
        rfl
    · refine if_t (by rw [decide_eq_false c]; rfl) ?_
      exact ⟨(by show 1 ≤ sizeLine; decide), a.one ⟨dx, mr, st, ms, h⟩ (by show Gv.play (if Gv01.places p ≤ k then _ else _) sim = _; rw [if_pos (by omega)]; rfl) (told_only _ _)⟩
/-! ### write -/
def spWriteAnswer (T : Txt K mg) : Sp := fun vs H Q E => ∃ S I N pa la sm stp p sim, ∃ k : Nat, ∃ b ns, vs = [.ref pa, nv k, .ref b] ∧ PoolAt T H S I N pa la sm stp p sim ∧ N < 2700000 ∧ H b = some (.lst (nvs ns)) ∧ (∀ x ∈ ns, x < 256) ∧ AnsOk T H S I N pa la sm stp p sim (.write k (blk ns)) Q E
theorem yes_if (b : Bool) : Gv01.yes b = Gv01.only (if b = true then 1 else 0) := rfl
theorem ok_write_answer (T : Txt K mg) : FnOk P w K mg base (L2.CX P w) 11 T.F.write_answer.f T.F.write_answer.fd ["pool", "place", "told"] (spWriteAnswer T) := by
  refine T.F.write_answer.F.okX sc_write_answer (fun vs H Q E h => ?_) (fun cdv A outer s H vs Q E hr h => ⟨_, (pss_cons
    (ps_if (PW.pt (pw_or (pt_not (pt_val (pe_meth (pv 0) T.Po.cl T.Po.m_has_place (ok_Pool_has_place T) (hr.mono (by decide)) T.Po.has_place.b .nil pass0 (pa_cons (pv 1) pa_nil)))) (pw_or1 (pt_not (pt_val (pe_call (ok_is_block T) (hr.mono (by decide)) rfl T.F.g_is_block T.F.is_block.F.kp T.F.is_block.b .nil pass0 (pa_cons (pv 2) pa_nil))))))) (pss_one
    (ps_ret (pe_lst (pa_cons (pe_gint T.G.c_WRONG) pa_nil)))) pss_nil)
    (pss_one
    (ps_ret (pe_lst (pa_cons (pe_meth (pv 0) T.Po.cl T.Po.m_write (ok_Pool_write T) (hr.mono (by decide)) T.Po.write.b .nil (passes_call (takes_of rfl rfl rfl rfl) (fun _ _ _ _ h => h)) (pa_cons (pv 1) (pa_cons (pe_call (ok_whole_block T) (hr.mono (by decide)) rfl T.F.g_whole_block T.F.whole_block.F.kp T.F.whole_block.b .nil pass0 (pa_cons (pv 2) pa_nil)) pa_nil))) pa_nil))))), ?_⟩)
  · obtain ⟨S, I, N, pa, la, sm, stp, p, sim, k, b, ns, rfl, _⟩ := h
    rfl
  · obtain ⟨S, I, N, pa, la, sm, stp, p, sim, k, b, ns, rfl, hp, lim, hb, h256, a⟩ := h
    obtain ⟨dx, mr, st, ms, h⟩ := hp
    have bad : Gv01.places p ≤ k ∨ isBlock (blk ns) = false → ∀ r, H r = none → Q (.ref r) (upd H r (.lst [V.int (-2)])) := fun c =>
      a.one ⟨dx, mr, st, ms, h⟩ (by show Gv.play (if Gv01.places p ≤ k ∨ isBlock (blk ns) = false then _ else _) sim = _; rw [if_pos c]; rfl) (told_only _ _)
    refine ⟨_, rfl, pa, dx, _, rfl, h.obj, pF_no, _, rfl, ?_⟩
    refine ⟨S, I, N, pa, la, sm, stp, p, sim, k, rfl, ⟨dx, mr, st, ms, h⟩, _, rfl, ?_⟩
    by_cases c : k < Gv01.places p
    · refine if_f (by rw [decide_eq_true c]; rfl) ?_
      refine ⟨_, rfl, b, _, rfl, SqL.of hb, _, rfl, ?_⟩
      rw [nvs_len]
      by_cases c2 : ns.length ≤ 1024
      · refine if_f (by rw [decide_eq_true c2]; rfl) ?_
        refine ⟨_, rfl, pa, dx, _, rfl, h.obj, pF_no, _, rfl, _, rfl, ?_⟩
        refine ⟨b, ns, rfl, hb, c2, fun H1 q hq sm1 hq1 => ?_⟩
        have ok : isBlock (blk ns) = true := by rw [blk_ok h256, decide_eq_true c2]
        have eb : blk ns = Gv.blockOf ns := by unfold blk; rw [if_pos c2]
        have hbl : BlkAt H1 q (blk ns) := ⟨by rw [eb]; exact hq1, ok⟩
        have nq : ¬ Sh S I q := fun z => by
          rcases z with z | z
          · exact h.pr q z hq
          · exact (h.hI q z).1 hq
        have a1 := a.same sm1
        have e : ∀ x, Gv.play (Gv01.write p k (blk ns)) sim = x → Gv.play (Gv01.does (some p) (.write k (blk ns))) sim = match x with | (some x, t) => (some (some x.1, Gv01.yes x.2), t) | (none, t) => (none, t) := fun x ex => by
          show Gv.play (if Gv01.places p ≤ k ∨ isBlock (blk ns) = false then _ else _) sim = _
          rw [if_neg (by rw [ok]; rintro (z | z); omega; cases z), play_bind, ex]
          rcases x with ⟨_ | x, t⟩ <;> rfl
        refine ⟨S, I, N, pa, la, sm, stp, p, sim, k, q, blk ns, rfl, ⟨dx, mr, st, ms, h.same sm1⟩, by omega, c, hbl, nq, fun t ht H' L f => a1.1 t (e _ ht) H' L f, fun x t ht H' L f => ⟨(by show 1 ≤ sizeLine; decide), fun r hr => ?_⟩⟩
        refine a1.2 x.1 _ t (e _ ht) _ r (L.same (same_upd hr)) (f.trans (Fr.of_same (same_upd hr))) ?_ (dom_none f.dom hr)
        rw [upd_same, yes_if, told_only]
        rfl
      · refine if_t (by rw [decide_eq_false c2]; rfl) ?_
        exact ⟨(by show 1 ≤ sizeLine; decide), bad (.inr (by rw [blk_ok h256, decide_eq_false c2]))⟩
    · refine if_t (by rw [decide_eq_false c]; rfl) (if_t rfl ?_)
      exact ⟨(by show 1 ≤ sizeLine; decide), bad (.inl (by omega))⟩
/-! ### slots, put_slot -/
def spSlotsAnswer (T : Txt K mg) : Sp := fun vs H Q E => ∃ S I N pa la sm stp p sim, ∃ k : Nat, vs = [.ref pa, nv k] ∧ PoolAt T H S I N pa la sm stp p sim ∧ N < 2700000 ∧ AnsOk T H S I N pa la sm stp p sim (.slots k) Q E
theorem ok_slots_answer (T : Txt K mg) : FnOk P w K mg base (L2.CX P w) 9 T.F.slots_answer.f T.F.slots_answer.fd ["pool", "k"] (spSlotsAnswer T) := by
  refine T.F.slots_answer.F.okX sc_slots_answer (fun vs H Q E h => ?_) (fun cdv A outer s H vs Q E hr h => ⟨_, (pss_cons
    (ps_if (pt_not (pt_val (pe_meth (pv 0) T.Po.cl T.Po.m_has_slot (ok_Pool_has_slot T) (hr.mono (by decide)) T.Po.has_slot.b .nil pass0 (pa_cons (pv 1) pa_nil)))) (pss_one
    (ps_ret (pe_lst (pa_cons (pe_gint T.G.c_WRONG) pa_nil)))) pss_nil)
    (pss_one
    (ps_ret (pe_meth (pv 0) T.Po.cl T.Po.m_slots (ok_Pool_slots T) (hr.mono (by decide)) T.Po.slots.b .nil (passes_call (takes_of rfl rfl rfl rfl) (fun _ _ _ _ h => h)) (pa_cons (pv 1) pa_nil))))), ?_⟩)
  · obtain ⟨S, I, N, pa, la, sm, stp, p, sim, k, rfl, _⟩ := h
    rfl
  · obtain ⟨S, I, N, pa, la, sm, stp, p, sim, k, rfl, hp, lim, a⟩ := h
    obtain ⟨dx, mr, st, ms, h⟩ := hp
    refine ⟨_, rfl, pa, dx, _, rfl, h.obj, pF_no, _, rfl, ?_⟩
    refine ⟨pa, k, rfl, _, rfl, ?_⟩
    by_cases c : k < 8
    · refine if_f (by rw [decide_eq_true c]; rfl) ?_
      refine ⟨_, rfl, pa, dx, _, rfl, h.obj, pF_no, _, rfl, ?_⟩
      have e : ∀ x, Gv.play (Gv01.slots p k) sim = x → Gv.play (Gv01.does (some p) (.slots k)) sim = match x with | (some x, t) => (some (some x.1, ⟨(x.2.length : Nat), x.2⟩), t) | (none, t) => (none, t) := fun x ex => by
        show Gv.play (if Gv01.SLOTS ≤ k then _ else _) sim = _
        rw [if_neg (fun z => by have z2 : 8 ≤ k := z; omega), play_bind, ex]
        rcases x with ⟨_ | x, t⟩ <;> rfl
      exact ⟨S, I, N, pa, la, sm, stp, p, sim, k, rfl, ⟨dx, mr, st, ms, h⟩, lim, c, fun t ht H' L f => a.1 t (e _ ht) H' L f, fun x t ht H' r L f hr hn => a.2 x.1 _ t (e _ ht) H' r L f hr hn⟩
    · refine if_t (by rw [decide_eq_false c]; rfl) ?_
      exact ⟨(by show 1 ≤ sizeLine; decide), a.one ⟨dx, mr, st, ms, h⟩ (by show Gv.play (if Gv01.SLOTS ≤ k then _ else _) sim = _; rw [if_pos (show Gv01.SLOTS ≤ k from (by omega : 8 ≤ k))]; rfl) (told_only _ _)⟩
def spPutSlotAnswer (T : Txt K mg) : Sp := fun vs H Q E => ∃ S I N pa la sm stp p sim, ∃ k : Nat, ∃ b ns, vs = [.ref pa, nv k, .ref b] ∧ PoolAt T H S I N pa la sm stp p sim ∧ N < 2700000 ∧ H b = some (.lst (nvs ns)) ∧ (∀ x ∈ ns, x < 256) ∧ AnsOk T H S I N pa la sm stp p sim (.putSlot k (blk ns)) Q E
theorem ok_put_slot_answer (T : Txt K mg) : FnOk P w K mg base (L2.CX P w) 11 T.F.put_slot_answer.f T.F.put_slot_answer.fd ["pool", "k", "told"] (spPutSlotAnswer T) := by
  refine T.F.put_slot_answer.F.okX sc_put_slot_answer (fun vs H Q E h => ?_) (fun cdv A outer s H vs Q E hr h => ⟨_, (pss_cons
    (ps_if (PW.pt (pw_or (pt_not (pt_val (pe_meth (pv 0) T.Po.cl T.Po.m_has_slot (ok_Pool_has_slot T) (hr.mono (by decide)) T.Po.has_slot.b .nil pass0 (pa_cons (pv 1) pa_nil)))) (pw_or1 (pt_not (pt_val (pe_call (ok_is_block T) (hr.mono (by decide)) rfl T.F.g_is_block T.F.is_block.F.kp T.F.is_block.b .nil pass0 (pa_cons (pv 2) pa_nil))))))) (pss_one
    (ps_ret (pe_lst (pa_cons (pe_gint T.G.c_WRONG) pa_nil)))) pss_nil)
    (pss_one
    (ps_ret (pe_lst (pa_cons (pe_meth (pv 0) T.Po.cl T.Po.m_put_slot (ok_Pool_put_slot T) (hr.mono (by decide)) T.Po.put_slot.b .nil (passes_call (takes_of rfl rfl rfl rfl) (fun _ _ _ _ h => h)) (pa_cons (pv 1) (pa_cons (pe_call (ok_whole_block T) (hr.mono (by decide)) rfl T.F.g_whole_block T.F.whole_block.F.kp T.F.whole_block.b .nil pass0 (pa_cons (pv 2) pa_nil)) pa_nil))) pa_nil))))), ?_⟩)
  · obtain ⟨S, I, N, pa, la, sm, stp, p, sim, k, b, ns, rfl, _⟩ := h
    rfl
  · obtain ⟨S, I, N, pa, la, sm, stp, p, sim, k, b, ns, rfl, hp, lim, hb, h256, a⟩ := h
    obtain ⟨dx, mr, st, ms, h⟩ := hp
    have bad : Gv01.SLOTS ≤ k ∨ isBlock (blk ns) = false → ∀ r, H r = none → Q (.ref r) (upd H r (.lst [V.int (-2)])) := fun c =>
      a.one ⟨dx, mr, st, ms, h⟩ (by show Gv.play (if Gv01.SLOTS ≤ k ∨ isBlock (blk ns) = false then _ else _) sim = _; rw [if_pos c]; rfl) (told_only _ _)
    refine ⟨_, rfl, pa, dx, _, rfl, h.obj, pF_no, _, rfl, ?_⟩
    refine ⟨pa, k, rfl, _, rfl, ?_⟩
    by_cases c : k < 8
    · refine if_f (by rw [decide_eq_true c]; rfl) ?_
      refine ⟨_, rfl, b, _, rfl, SqL.of hb, _, rfl, ?_⟩
      rw [nvs_len]
      by_cases c2 : ns.length ≤ 1024
      · refine if_f (by rw [decide_eq_true c2]; rfl) ?_
        refine ⟨_, rfl, pa, dx, _, rfl, h.obj, pF_no, _, rfl, _, rfl, ?_⟩
        refine ⟨b, ns, rfl, hb, c2, fun H1 q hq sm1 hq1 => ?_⟩
        have ok : isBlock (blk ns) = true := by rw [blk_ok h256, decide_eq_true c2]
        have eb : blk ns = Gv.blockOf ns := by unfold blk; rw [if_pos c2]
        have hbl : BlkAt H1 q (blk ns) := ⟨by rw [eb]; exact hq1, ok⟩
        have nq : ¬ Sh S I q := fun z => by
          rcases z with z | z
          · exact h.pr q z hq
          · exact (h.hI q z).1 hq
        have a1 := a.same sm1
        have e : ∀ x, Gv.play (Gv01.putSlot p k (blk ns)) sim = x → Gv.play (Gv01.does (some p) (.putSlot k (blk ns))) sim = match x with | (some x, t) => (some (some x.1, Gv01.yes x.2), t) | (none, t) => (none, t) := fun x ex => by
          show Gv.play (if Gv01.SLOTS ≤ k ∨ isBlock (blk ns) = false then _ else _) sim = _
          rw [if_neg (by rw [ok]; rintro (z | z); (have z2 : 8 ≤ k := z; omega); cases z), play_bind, ex]
          rcases x with ⟨_ | x, t⟩ <;> rfl
        refine ⟨S, I, N, pa, la, sm, stp, p, sim, k, q, blk ns, rfl, ⟨dx, mr, st, ms, h.same sm1⟩, by omega, c, hbl, nq, fun t ht H' L f => a1.1 t (e _ ht) H' L f, fun x t ht H' L f => ⟨(by show 1 ≤ sizeLine; decide), fun r hr => ?_⟩⟩
        refine a1.2 x.1 _ t (e _ ht) _ r (L.same (same_upd hr)) (f.trans (Fr.of_same (same_upd hr))) ?_ (dom_none f.dom hr)
        rw [upd_same, yes_if, told_only]
        rfl
      · refine if_t (by rw [decide_eq_false c2]; rfl) ?_
        exact ⟨(by show 1 ≤ sizeLine; decide), bad (.inr (by rw [blk_ok h256, decide_eq_false c2]))⟩
    · refine if_t (by rw [decide_eq_false c]; rfl) (if_t rfl ?_)
      exact ⟨(by show 1 ≤ sizeLine; decide), bad (.inl (show 8 ≤ k by omega))⟩
/-! ### state; out, fill, good -/
def spStateAnswer (T : Txt K mg) : Sp := fun vs H Q E => ∃ S I N pa la sm stp p sim, ∃ d : Nat, vs = [.ref pa, nv d] ∧ PoolAt T H S I N pa la sm stp p sim ∧ AnsOk T H S I N pa la sm stp p sim (.state d) Q E
theorem ok_state_answer (T : Txt K mg) : FnOk P w K mg base CX0 2 T.F.state_answer.f T.F.state_answer.fd ["pool", "d"] (spStateAnswer T) := by
  refine T.F.state_answer.F.ok sc_state_answer (fun vs H Q E h => ?_) (fun cdv A outer s H vs Q E hr h => ⟨_, (pss_cons
    (ps_if (pt_not (pt_val (pe_meth (pv 0) T.Po.cl T.Po.m_has_device (ok_Pool_has_device T) (hr.mono (by decide)) T.Po.has_device.b .nil pass0 (pa_cons (pv 1) pa_nil)))) (pss_one
    (ps_ret (pe_lst (pa_cons (pe_gint T.G.c_WRONG) pa_nil)))) pss_nil)
    (pss_one
    (ps_ret (pe_lst (pa_cons (pe_meth (pv 0) T.Po.cl T.Po.m_state_of (ok_Pool_state_of T) (hr.mono (by decide)) T.Po.state_of.b .nil pass0 (pa_cons (pv 1) pa_nil)) pa_nil))))), ?_⟩)
  · obtain ⟨S, I, N, pa, la, sm, stp, p, sim, d, rfl, _⟩ := h
    rfl
  · obtain ⟨S, I, N, pa, la, sm, stp, p, sim, d, rfl, hp, a⟩ := h
    obtain ⟨dx, mr, st, ms, h⟩ := hp
    refine ⟨_, rfl, pa, dx, _, rfl, h.obj, pF_no, _, rfl, ?_⟩
    refine ⟨S, I, N, pa, la, sm, stp, p, sim, d, rfl, ⟨dx, mr, st, ms, h⟩, _, rfl, ?_⟩
    by_cases c : p.has d = true
    · refine if_f (by rw [c]; rfl) ?_
      refine ⟨_, rfl, pa, dx, _, rfl, h.obj, pF_no, _, rfl, ?_⟩
      refine ⟨S, I, N, pa, la, sm, stp, p, sim, d, rfl, ⟨dx, mr, st, ms, h⟩, (has_iff d).mp c, (by show 1 ≤ sizeLine; decide), ?_⟩
      exact a.one ⟨dx, mr, st, ms, h⟩ (by show (some (if p.has d = true then _ else _), sim) = _; rw [if_pos c]) (told_only _ _)
    · refine if_t (by rw [show p.has d = false by simpa using c]; rfl) ?_
      exact ⟨(by show 1 ≤ sizeLine; decide), a.one ⟨dx, mr, st, ms, h⟩ (by show (some (if p.has d = true then _ else _), sim) = _; rw [if_neg c]) (told_only _ _)⟩
def spStateGiven : Sp := fun vs H Q _ => ∃ c s : Nat, vs = [nv c] ∧ ((c = 7 ∧ s = 2) ∨ (c = 8 ∧ s = 1) ∨ (c = 9 ∧ s = 0)) ∧ ∀ H', Same H H' → Q (nv s) H'
theorem ok_state_given (T : Txt K mg) : FnOk P w K mg base CX0 1 T.F.state_given.f T.F.state_given.fd ["code"] (spStateGiven) := by
  refine T.F.state_given.F.ok sc_state_given (fun vs H Q E h => ?_) (fun cdv A outer s H vs Q E hr h => ⟨_, (pss_cons
    (ps_set (i := 1) sc_state_given.nd rfl (Or.inl rfl) (pe_disp (pps_cons (pe_gint T.G.c_OUT_CALL) (pe_gint T.G.c_OUT) (pps_cons (pe_gint T.G.c_FILL) (pe_gint T.G.c_BEING_FILLED) (pps_cons (pe_gint T.G.c_GOOD_CALL) (pe_gint T.G.c_GOOD) pps_nil))) (by rfl) (by rfl) (fun z => by cases z) (by decide)))
    (pss_one
    (ps_ret (pe_dget (hu_of hr) (pv 1) (pv 0) (fun _ _ => rfl))))), ?_⟩)
  · obtain ⟨c, s, rfl, _⟩ := h
    rfl
  · obtain ⟨c, s, rfl, hc, q⟩ := h
    intro p hp
    refine ⟨upd_same, [(Sum.inl 7, .int 2), (Sum.inl 8, .int 1), (Sum.inl 9, .int 0)], rfl, by decide, ?_⟩
    rw [upd_upd]
    have sm := same_upd (o := .dK (mergeK [] [(Sum.inl 7, .int 2), (Sum.inl 8, .int 1), (Sum.inl 9, .int 0)])) hp
    rcases hc with ⟨rfl, rfl⟩ | ⟨rfl, rfl⟩ | ⟨rfl, rfl⟩
    · exact ⟨_, rfl, _, rfl, p, .int 2, rfl, DGet.k (k := Sum.inl 7) upd_same, q _ sm⟩
    · exact ⟨_, rfl, _, rfl, p, .int 1, rfl, DGet.k (k := Sum.inl 8) upd_same, q _ sm⟩
    · exact ⟨_, rfl, _, rfl, p, .int 0, rfl, DGet.k (k := Sum.inl 9) upd_same, q _ sm⟩
def spGiveAnswer (T : Txt K mg) : Sp := fun vs H Q E => ∃ S I N pa la sm stp p sim, ∃ d s : Nat, ∃ c, vs = [.ref pa, nv d, nv s] ∧ PoolAt T H S I N pa la sm stp p sim ∧ ((c = .out d ∧ s = 2) ∨ (c = .fill d ∧ s = 1) ∨ (c = .good d ∧ s = 0)) ∧ AnsOk T H S I N pa la sm stp p sim c Q E
theorem ok_give_state_answer (T : Txt K mg) : FnOk P w K mg base CX0 2 T.F.give_state_answer.f T.F.give_state_answer.fd ["pool", "d", "state"] (spGiveAnswer T) := by
  refine T.F.give_state_answer.F.ok sc_give_state_answer (fun vs H Q E h => ?_) (fun cdv A outer s H vs Q E hr h => ⟨_, (pss_cons
    (ps_if (pt_not (pt_val (pe_meth (pv 0) T.Po.cl T.Po.m_has_device (ok_Pool_has_device T) (hr.mono (by decide)) T.Po.has_device.b .nil pass0 (pa_cons (pv 1) pa_nil)))) (pss_one
    (ps_ret (pe_lst (pa_cons (pe_gint T.G.c_WRONG) pa_nil)))) pss_nil)
    (pss_cons
    (ps_expr (pe_meth (pv 0) T.Po.cl T.Po.m_give_state (ok_Pool_give_state T) (hr.mono (by decide)) T.Po.give_state.b .nil pass0 (pa_cons (pv 1) (pa_cons (pv 2) pa_nil))))
    (pss_one
    (ps_ret (pe_lst (pa_cons (pe_gint T.G.c_DONE) pa_nil)))))), ?_⟩)
  · obtain ⟨S, I, N, pa, la, sm, stp, p, sim, d, s, c, rfl, _⟩ := h
    rfl
  · obtain ⟨S, I, N, pa, la, sm, stp, p, sim, d, s, c, rfl, hp, hc, a⟩ := h
    obtain ⟨dx, mr, st, ms, h⟩ := hp
    have e : Gv.play (Gv01.does (some p) c) sim = (some (if p.has d = true then (some (p.set d s), Gv01.only 0) else (some p, Gv01.only (-2))), sim) := by
      rcases hc with ⟨rfl, rfl⟩ | ⟨rfl, rfl⟩ | ⟨rfl, rfl⟩ <;> rfl
    refine ⟨_, rfl, pa, dx, _, rfl, h.obj, pF_no, _, rfl, ?_⟩
    refine ⟨S, I, N, pa, la, sm, stp, p, sim, d, rfl, ⟨dx, mr, st, ms, h⟩, _, rfl, ?_⟩
    by_cases c : p.has d = true
    · rw [if_pos c] at e
      refine if_f (by rw [c]; rfl) ?_
      refine ⟨_, rfl, pa, dx, _, rfl, h.obj, pF_no, _, rfl, _, rfl, ?_⟩
      refine ⟨S, I, N, pa, la, sm, stp, p, sim, dx, mr, st, ms, d, s, rfl, h, (has_iff d).mp c, fun H1 h1 f1 => ⟨(by show 1 ≤ sizeLine; decide), fun r hr => ?_⟩⟩
      exact a.2 _ _ sim e _ r ((PoolAt.same ⟨dx, mr, st, ms, h1⟩ (same_upd hr)).more (by omega)) (f1.trans (Fr.of_same (same_upd hr))) (by rw [upd_same, told_only]; rfl) (dom_none f1.dom hr)
    · rw [if_neg c] at e
      refine if_t (by rw [show p.has d = false by simpa using c]; rfl) ?_
      exact ⟨(by show 1 ≤ sizeLine; decide), a.one ⟨dx, mr, st, ms, h⟩ e (told_only _ _)⟩
end
end Mp
namespace Mp
open PySem PySem.Spec PyProof.Rows L2
open Gv (Bytes Dev zeroBlock isBlock Sim Happens Prog Ask Reply Ptr)
open Gv01 (Pool)
/-! ### a call on the heap -/
def cF (code : Nat) (na li : Addr) : List (Str × V) := [("code", nv code), ("numbers", .ref na), ("lists", .ref li)]
section
variable {code : Nat} {na li : Addr}
theorem cF_code : List.lookup ("code" : Str) (cF code na li) = some (nv code) := lk_here
theorem cF_numbers : List.lookup ("numbers" : Str) (cF code na li) = some (.ref na) := (lk_past (by decide +kernel)).trans lk_here
theorem cF_lists : List.lookup ("lists" : Str) (cF code na li) = some (.ref li) := (lk_past (by decide +kernel)).trans ((lk_past (by decide +kernel)).trans lk_here)
end
structure CallIn (CC : Addr) (H : Hp) (ca : Addr) (code : Nat) (nums : List Nat) (rows : List (List Nat)) (dx na li : Addr) (bs : List Addr) : Prop where
  obj : H ca = some (.ins CC dx (cF code na li))
  nums : H na = some (.lst (nvs nums))
  lists : H li = some (.lst (bs.map V.ref))
  rows : Paired (fun b r => H b = some (.lst (nvs r))) bs rows
inductive PForm : Nat → List Nat → List (List Nat) → Gv01.Call → Prop
  | places : PForm 1 [] [] .places
  | read (k s : Nat) : PForm 2 [k, s] [] (.read k s)
  | write (k : Nat) (ns : List Nat) (h : ∀ x ∈ ns, x < 256) : PForm 3 [k] [ns] (.write k (blk ns))
  | flush : PForm 4 [] [] .flush
  | slots (k : Nat) : PForm 5 [k] [] (.slots k)
  | putSlot (k : Nat) (ns : List Nat) (h : ∀ x ∈ ns, x < 256) : PForm 6 [k] [ns] (.putSlot k (blk ns))
  | out (d : Nat) : PForm 7 [d] [] (.out d)
  | fill (d : Nat) : PForm 8 [d] [] (.fill d)
  | good (d : Nat) : PForm 9 [d] [] (.good d)
  | state (d : Nat) : PForm 10 [d] [] (.state d)
theorem noRaise {α : Type} {x : α} {s t : Sim} (e : (some x, s) = ((none : Option α), t)) : False := by cases e
section
variable {P : Program} {w : World} {K : PySem.W.Frag} {mg : Str → Option Value} {base : Heap}
def spPoolAnswer (T : Txt K mg) : Sp := fun vs H Q E => ∃ S I N pa la sm stp p sim ca code nums rows c, vs = [.ref pa, .ref ca] ∧ PoolAt T H S I N pa la sm stp p sim ∧ N < 2700000 ∧ (∃ dc na li bs, CallIn T.Ca.C H ca code nums rows dc na li bs) ∧ PForm code nums rows c ∧ AnsOk T H S I N pa la sm stp p sim c Q E
theorem ok_pool_answer (T : Txt K mg) : FnOk P w K mg base (L2.CX P w) 12 T.F.pool_answer.f T.F.pool_answer.fd ["pool", "call"] (spPoolAnswer T) := by
  refine T.F.pool_answer.F.okX sc_pool_answer (fun vs H Q E h => ?_) (fun cdv A outer s H vs Q E hr h => ⟨_, (pss_cons
    (ps_if (pt_cmpR op_eq (pe_fld (pv 1) rfl) (pe_gint T.G.c_PLACES) (nomark _)) (pss_one
    (ps_ret (pe_lst (pa_cons (pe_meth0 (pv 0) T.Po.cl T.Po.m_places (ok_Pool_places T) (hr.mono (by decide)) T.Po.places.b .nil pass0) pa_nil)))) pss_nil)
    (pss_cons
    (ps_if (pt_cmpR op_eq (pe_fld (pv 1) rfl) (pe_gint T.G.c_READ) (nomark _)) (pss_one
    (ps_ret (pe_call (ok_read_answer T) (hr.mono (by decide)) rfl T.F.g_read_answer T.F.read_answer.F.kp T.F.read_answer.b .nil (passes_call (takes_of rfl rfl rfl rfl) (fun _ _ _ _ h => h)) (pa_cons (pv 0) (pa_cons (pe_ix ix_list (pe_fld (pv 1) rfl) pe_int (fun _ _ => rfl)) (pa_cons (pe_ix ix_list (pe_fld (pv 1) rfl) pe_int (fun _ _ => rfl)) pa_nil)))))) pss_nil)
    (pss_cons
    (ps_if (pt_cmpR op_eq (pe_fld (pv 1) rfl) (pe_gint T.G.c_WRITE) (nomark _)) (pss_one
    (ps_ret (pe_call (ok_write_answer T) (hr.mono (by decide)) rfl T.F.g_write_answer T.F.write_answer.F.kp T.F.write_answer.b .nil (passes_call (takes_of rfl rfl rfl rfl) (fun _ _ _ _ h => h)) (pa_cons (pv 0) (pa_cons (pe_ix ix_list (pe_fld (pv 1) rfl) pe_int (fun _ _ => rfl)) (pa_cons (pe_ix ix_list (pe_fld (pv 1) rfl) pe_int (fun _ _ => rfl)) pa_nil)))))) pss_nil)
    (pss_cons
    (ps_if (pt_cmpR op_eq (pe_fld (pv 1) rfl) (pe_gint T.G.c_FLUSH) (nomark _)) (pss_one
    (ps_ret (pe_lst (pa_cons (pe_meth0 (pv 0) T.Po.cl T.Po.m_flush (ok_Pool_flush T) (hr.mono (by decide)) T.Po.flush.b .nil (passes_call (takes_of rfl rfl rfl rfl) (fun _ _ _ _ h => h))) pa_nil)))) pss_nil)
    (pss_cons
    (ps_if (pt_cmpR op_eq (pe_fld (pv 1) rfl) (pe_gint T.G.c_SLOTS_CALL) (nomark _)) (pss_one
    (ps_ret (pe_call (ok_slots_answer T) (hr.mono (by decide)) rfl T.F.g_slots_answer T.F.slots_answer.F.kp T.F.slots_answer.b .nil (passes_call (takes_of rfl rfl rfl rfl) (fun _ _ _ _ h => h)) (pa_cons (pv 0) (pa_cons (pe_ix ix_list (pe_fld (pv 1) rfl) pe_int (fun _ _ => rfl)) pa_nil))))) pss_nil)
    (pss_cons
    (ps_if (pt_cmpR op_eq (pe_fld (pv 1) rfl) (pe_gint T.G.c_PUT_SLOT) (nomark _)) (pss_one
    (ps_ret (pe_call (ok_put_slot_answer T) (hr.mono (by decide)) rfl T.F.g_put_slot_answer T.F.put_slot_answer.F.kp T.F.put_slot_answer.b .nil (passes_call (takes_of rfl rfl rfl rfl) (fun _ _ _ _ h => h)) (pa_cons (pv 0) (pa_cons (pe_ix ix_list (pe_fld (pv 1) rfl) pe_int (fun _ _ => rfl)) (pa_cons (pe_ix ix_list (pe_fld (pv 1) rfl) pe_int (fun _ _ => rfl)) pa_nil)))))) pss_nil)
    (pss_cons
    (ps_if (pt_cmpR op_eq (pe_fld (pv 1) rfl) (pe_gint T.G.c_STATE) (nomark _)) (pss_one
    (ps_ret (pe_call (ok_state_answer T) (hr.mono (by decide)) rfl T.F.g_state_answer T.F.state_answer.F.kp T.F.state_answer.b .nil pass0 (pa_cons (pv 0) (pa_cons (pe_ix ix_list (pe_fld (pv 1) rfl) pe_int (fun _ _ => rfl)) pa_nil))))) pss_nil)
    (pss_one
    (ps_ret (pe_call (ok_give_state_answer T) (hr.mono (by decide)) rfl T.F.g_give_state_answer T.F.give_state_answer.F.kp T.F.give_state_answer.b .nil pass0 (pa_cons (pv 0) (pa_cons (pe_ix ix_list (pe_fld (pv 1) rfl) pe_int (fun _ _ => rfl)) (pa_cons (pe_call (ok_state_given T) (hr.mono (by decide)) rfl T.F.g_state_given T.F.state_given.F.kp T.F.state_given.b .nil pass0 (pa_cons (pe_fld (pv 1) rfl) pa_nil)) pa_nil))))))))))))), ?_⟩)
  · obtain ⟨S, I, N, pa, la, sm, stp, p, sim, ca, code, nums, rows, c, rfl, _⟩ := h
    rfl
  · obtain ⟨S, I, N, pa, la, sm, stp, p, sim, ca, code, nums, rows, c, rfl, ⟨dx, mr, st, ms, h⟩, lim, ⟨dc, na, li, bs, O⟩, hf, a⟩ := h
    cases hf with
    | places =>
      refine ⟨_, rfl, ca, T.Ca.C, dc, _, _, rfl, O.obj, T.Ca.cl, T.Ca.n_code, cF_code, rfl, _, rfl, if_t (by decide) ?_⟩
      refine ⟨_, rfl, pa, dx, _, rfl, h.obj, pF_no, ?_⟩
      exact ⟨S, I, N, pa, la, sm, stp, p, sim, rfl, ⟨dx, mr, st, ms, h⟩, (by show 1 ≤ sizeLine; decide), a.one ⟨dx, mr, st, ms, h⟩ rfl (told_only _ _)⟩
    | read k s =>
      refine ⟨_, rfl, ca, T.Ca.C, dc, _, _, rfl, O.obj, T.Ca.cl, T.Ca.n_code, cF_code, rfl, _, rfl, if_f (by decide) ?_⟩
      refine ⟨_, rfl, ca, T.Ca.C, dc, _, _, rfl, O.obj, T.Ca.cl, T.Ca.n_code, cF_code, rfl, _, rfl, if_t (by decide) ?_⟩
      refine ⟨_, rfl, _, rfl, ca, T.Ca.C, dc, _, _, rfl, O.obj, T.Ca.cl, T.Ca.n_numbers, cF_numbers, na, _, _, _, rfl, rfl, SqL.of O.nums, atI_nat (j := 0) rfl, _, rfl, ca, T.Ca.C, dc, _, _, rfl, O.obj, T.Ca.cl, T.Ca.n_numbers, cF_numbers, na, _, _, _, rfl, rfl, SqL.of O.nums, atI_nat (j := 1) rfl, ?_⟩
      exact ⟨S, I, N, pa, la, sm, stp, p, sim, _, _, rfl, ⟨dx, mr, st, ms, h⟩, lim, a⟩
    | write k ns h256 =>
      obtain ⟨b, rfl, hb⟩ : ∃ b, bs = [b] ∧ H b = some (.lst (nvs ns)) := by
        cases O.rows with
        | cons h1 h2 => cases h2; exact ⟨_, rfl, h1⟩
      refine ⟨_, rfl, ca, T.Ca.C, dc, _, _, rfl, O.obj, T.Ca.cl, T.Ca.n_code, cF_code, rfl, _, rfl, if_f (by decide) ?_⟩
      refine ⟨_, rfl, ca, T.Ca.C, dc, _, _, rfl, O.obj, T.Ca.cl, T.Ca.n_code, cF_code, rfl, _, rfl, if_f (by decide) ?_⟩
      refine ⟨_, rfl, ca, T.Ca.C, dc, _, _, rfl, O.obj, T.Ca.cl, T.Ca.n_code, cF_code, rfl, _, rfl, if_t (by decide) ?_⟩
      refine ⟨_, rfl, _, rfl, ca, T.Ca.C, dc, _, _, rfl, O.obj, T.Ca.cl, T.Ca.n_numbers, cF_numbers, na, _, _, _, rfl, rfl, SqL.of O.nums, atI_nat (j := 0) rfl, _, rfl, ca, T.Ca.C, dc, _, _, rfl, O.obj, T.Ca.cl, T.Ca.n_lists, cF_lists, li, _, _, .ref b, rfl, rfl, SqL.of O.lists, atI_nat (j := 0) rfl, ?_⟩
      exact ⟨S, I, N, pa, la, sm, stp, p, sim, _, b, _, rfl, ⟨dx, mr, st, ms, h⟩, lim, hb, h256, a⟩
    | flush =>
      refine ⟨_, rfl, ca, T.Ca.C, dc, _, _, rfl, O.obj, T.Ca.cl, T.Ca.n_code, cF_code, rfl, _, rfl, if_f (by decide) ?_⟩
      refine ⟨_, rfl, ca, T.Ca.C, dc, _, _, rfl, O.obj, T.Ca.cl, T.Ca.n_code, cF_code, rfl, _, rfl, if_f (by decide) ?_⟩
      refine ⟨_, rfl, ca, T.Ca.C, dc, _, _, rfl, O.obj, T.Ca.cl, T.Ca.n_code, cF_code, rfl, _, rfl, if_f (by decide) ?_⟩
      refine ⟨_, rfl, ca, T.Ca.C, dc, _, _, rfl, O.obj, T.Ca.cl, T.Ca.n_code, cF_code, rfl, _, rfl, if_t (by decide) ?_⟩
      refine ⟨_, rfl, pa, dx, _, rfl, h.obj, pF_no, ?_⟩
      have e : ∀ x, Gv.play (Gv01.flush p) sim = x → Gv.play (Gv01.does (some p) .flush) sim = match x with | (some x, t) => (some (some x.1, Gv01.yes x.2), t) | (none, t) => (none, t) := fun x ex => by
        show Gv.play (Prog.bind _ _) sim = _
        rw [play_bind, ex]
        rcases x with ⟨_ | x, t⟩ <;> rfl
      refine ⟨S, I, N, pa, la, sm, stp, p, sim, rfl, ⟨dx, mr, st, ms, h⟩, by omega, fun t ht H' L f => a.1 t (e _ ht) H' L f, fun x t ht H' L f => ⟨(by show 1 ≤ sizeLine; decide), fun r hr => ?_⟩⟩
      refine a.2 x.1 _ t (e _ ht) _ r (L.same (same_upd hr)) (f.trans (Fr.of_same (same_upd hr))) ?_ (dom_none f.dom hr)
      rw [upd_same, yes_if, told_only]
      rfl
    | slots k =>
      refine ⟨_, rfl, ca, T.Ca.C, dc, _, _, rfl, O.obj, T.Ca.cl, T.Ca.n_code, cF_code, rfl, _, rfl, if_f (by decide) ?_⟩
      refine ⟨_, rfl, ca, T.Ca.C, dc, _, _, rfl, O.obj, T.Ca.cl, T.Ca.n_code, cF_code, rfl, _, rfl, if_f (by decide) ?_⟩
      refine ⟨_, rfl, ca, T.Ca.C, dc, _, _, rfl, O.obj, T.Ca.cl, T.Ca.n_code, cF_code, rfl, _, rfl, if_f (by decide) ?_⟩
      refine ⟨_, rfl, ca, T.Ca.C, dc, _, _, rfl, O.obj, T.Ca.cl, T.Ca.n_code, cF_code, rfl, _, rfl, if_f (by decide) ?_⟩
      refine ⟨_, rfl, ca, T.Ca.C, dc, _, _, rfl, O.obj, T.Ca.cl, T.Ca.n_code, cF_code, rfl, _, rfl, if_t (by decide) ?_⟩
      refine ⟨_, rfl, _, rfl, ca, T.Ca.C, dc, _, _, rfl, O.obj, T.Ca.cl, T.Ca.n_numbers, cF_numbers, na, _, _, _, rfl, rfl, SqL.of O.nums, atI_nat (j := 0) rfl, ?_⟩
      exact ⟨S, I, N, pa, la, sm, stp, p, sim, _, rfl, ⟨dx, mr, st, ms, h⟩, lim, a⟩
    | putSlot k ns h256 =>
      obtain ⟨b, rfl, hb⟩ : ∃ b, bs = [b] ∧ H b = some (.lst (nvs ns)) := by
        cases O.rows with
        | cons h1 h2 => cases h2; exact ⟨_, rfl, h1⟩
      refine ⟨_, rfl, ca, T.Ca.C, dc, _, _, rfl, O.obj, T.Ca.cl, T.Ca.n_code, cF_code, rfl, _, rfl, if_f (by decide) ?_⟩
      refine ⟨_, rfl, ca, T.Ca.C, dc, _, _, rfl, O.obj, T.Ca.cl, T.Ca.n_code, cF_code, rfl, _, rfl, if_f (by decide) ?_⟩
      refine ⟨_, rfl, ca, T.Ca.C, dc, _, _, rfl, O.obj, T.Ca.cl, T.Ca.n_code, cF_code, rfl, _, rfl, if_f (by decide) ?_⟩
      refine ⟨_, rfl, ca, T.Ca.C, dc, _, _, rfl, O.obj, T.Ca.cl, T.Ca.n_code, cF_code, rfl, _, rfl, if_f (by decide) ?_⟩
      refine ⟨_, rfl, ca, T.Ca.C, dc, _, _, rfl, O.obj, T.Ca.cl, T.Ca.n_code, cF_code, rfl, _, rfl, if_f (by decide) ?_⟩
      refine ⟨_, rfl, ca, T.Ca.C, dc, _, _, rfl, O.obj, T.Ca.cl, T.Ca.n_code, cF_code, rfl, _, rfl, if_t (by decide) ?_⟩
      refine ⟨_, rfl, _, rfl, ca, T.Ca.C, dc, _, _, rfl, O.obj, T.Ca.cl, T.Ca.n_numbers, cF_numbers, na, _, _, _, rfl, rfl, SqL.of O.nums, atI_nat (j := 0) rfl, _, rfl, ca, T.Ca.C, dc, _, _, rfl, O.obj, T.Ca.cl, T.Ca.n_lists, cF_lists, li, _, _, .ref b, rfl, rfl, SqL.of O.lists, atI_nat (j := 0) rfl, ?_⟩
      exact ⟨S, I, N, pa, la, sm, stp, p, sim, _, b, _, rfl, ⟨dx, mr, st, ms, h⟩, lim, hb, h256, a⟩
    | out d =>
      refine ⟨_, rfl, ca, T.Ca.C, dc, _, _, rfl, O.obj, T.Ca.cl, T.Ca.n_code, cF_code, rfl, _, rfl, if_f (by decide) ?_⟩
      refine ⟨_, rfl, ca, T.Ca.C, dc, _, _, rfl, O.obj, T.Ca.cl, T.Ca.n_code, cF_code, rfl, _, rfl, if_f (by decide) ?_⟩
      refine ⟨_, rfl, ca, T.Ca.C, dc, _, _, rfl, O.obj, T.Ca.cl, T.Ca.n_code, cF_code, rfl, _, rfl, if_f (by decide) ?_⟩
      refine ⟨_, rfl, ca, T.Ca.C, dc, _, _, rfl, O.obj, T.Ca.cl, T.Ca.n_code, cF_code, rfl, _, rfl, if_f (by decide) ?_⟩
      refine ⟨_, rfl, ca, T.Ca.C, dc, _, _, rfl, O.obj, T.Ca.cl, T.Ca.n_code, cF_code, rfl, _, rfl, if_f (by decide) ?_⟩
      refine ⟨_, rfl, ca, T.Ca.C, dc, _, _, rfl, O.obj, T.Ca.cl, T.Ca.n_code, cF_code, rfl, _, rfl, if_f (by decide) ?_⟩
      refine ⟨_, rfl, ca, T.Ca.C, dc, _, _, rfl, O.obj, T.Ca.cl, T.Ca.n_code, cF_code, rfl, _, rfl, if_f (by decide) ?_⟩
      refine ⟨_, rfl, _, rfl, ca, T.Ca.C, dc, _, _, rfl, O.obj, T.Ca.cl, T.Ca.n_numbers, cF_numbers, na, _, _, _, rfl, rfl, SqL.of O.nums, atI_nat (j := 0) rfl, _, rfl, ca, T.Ca.C, dc, _, _, rfl, O.obj, T.Ca.cl, T.Ca.n_code, cF_code, ?_⟩
      refine ⟨7, 2, rfl, .inl ⟨rfl, rfl⟩, fun H1 sm1 => ?_⟩
      exact ⟨S, I, N, pa, la, sm, stp, p, sim, _, 2, _, rfl, PoolAt.same ⟨dx, mr, st, ms, h⟩ sm1, .inl ⟨rfl, rfl⟩, fun t e => (noRaise e).elim, (a.same sm1).2⟩
    | fill d =>
      refine ⟨_, rfl, ca, T.Ca.C, dc, _, _, rfl, O.obj, T.Ca.cl, T.Ca.n_code, cF_code, rfl, _, rfl, if_f (by decide) ?_⟩
      refine ⟨_, rfl, ca, T.Ca.C, dc, _, _, rfl, O.obj, T.Ca.cl, T.Ca.n_code, cF_code, rfl, _, rfl, if_f (by decide) ?_⟩
      refine ⟨_, rfl, ca, T.Ca.C, dc, _, _, rfl, O.obj, T.Ca.cl, T.Ca.n_code, cF_code, rfl, _, rfl, if_f (by decide) ?_⟩
      refine ⟨_, rfl, ca, T.Ca.C, dc, _, _, rfl, O.obj, T.Ca.cl, T.Ca.n_code, cF_code, rfl, _, rfl, if_f (by decide) ?_⟩
      refine ⟨_, rfl, ca, T.Ca.C, dc, _, _, rfl, O.obj, T.Ca.cl, T.Ca.n_code, cF_code, rfl, _, rfl, if_f (by decide) ?_⟩
      refine ⟨_, rfl, ca, T.Ca.C, dc, _, _, rfl, O.obj, T.Ca.cl, T.Ca.n_code, cF_code, rfl, _, rfl, if_f (by decide) ?_⟩
      refine ⟨_, rfl, ca, T.Ca.C, dc, _, _, rfl, O.obj, T.Ca.cl, T.Ca.n_code, cF_code, rfl, _, rfl, if_f (by decide) ?_⟩
      refine ⟨_, rfl, _, rfl, ca, T.Ca.C, dc, _, _, rfl, O.obj, T.Ca.cl, T.Ca.n_numbers, cF_numbers, na, _, _, _, rfl, rfl, SqL.of O.nums, atI_nat (j := 0) rfl, _, rfl, ca, T.Ca.C, dc, _, _, rfl, O.obj, T.Ca.cl, T.Ca.n_code, cF_code, ?_⟩
      refine ⟨8, 1, rfl, .inr (.inl ⟨rfl, rfl⟩), fun H1 sm1 => ?_⟩
      exact ⟨S, I, N, pa, la, sm, stp, p, sim, _, 1, _, rfl, PoolAt.same ⟨dx, mr, st, ms, h⟩ sm1, .inr (.inl ⟨rfl, rfl⟩), fun t e => (noRaise e).elim, (a.same sm1).2⟩
    | good d =>
      refine ⟨_, rfl, ca, T.Ca.C, dc, _, _, rfl, O.obj, T.Ca.cl, T.Ca.n_code, cF_code, rfl, _, rfl, if_f (by decide) ?_⟩
      refine ⟨_, rfl, ca, T.Ca.C, dc, _, _, rfl, O.obj, T.Ca.cl, T.Ca.n_code, cF_code, rfl, _, rfl, if_f (by decide) ?_⟩
      refine ⟨_, rfl, ca, T.Ca.C, dc, _, _, rfl, O.obj, T.Ca.cl, T.Ca.n_code, cF_code, rfl, _, rfl, if_f (by decide) ?_⟩
      refine ⟨_, rfl, ca, T.Ca.C, dc, _, _, rfl, O.obj, T.Ca.cl, T.Ca.n_code, cF_code, rfl, _, rfl, if_f (by decide) ?_⟩
      refine ⟨_, rfl, ca, T.Ca.C, dc, _, _, rfl, O.obj, T.Ca.cl, T.Ca.n_code, cF_code, rfl, _, rfl, if_f (by decide) ?_⟩
      refine ⟨_, rfl, ca, T.Ca.C, dc, _, _, rfl, O.obj, T.Ca.cl, T.Ca.n_code, cF_code, rfl, _, rfl, if_f (by decide) ?_⟩
      refine ⟨_, rfl, ca, T.Ca.C, dc, _, _, rfl, O.obj, T.Ca.cl, T.Ca.n_code, cF_code, rfl, _, rfl, if_f (by decide) ?_⟩
      refine ⟨_, rfl, _, rfl, ca, T.Ca.C, dc, _, _, rfl, O.obj, T.Ca.cl, T.Ca.n_numbers, cF_numbers, na, _, _, _, rfl, rfl, SqL.of O.nums, atI_nat (j := 0) rfl, _, rfl, ca, T.Ca.C, dc, _, _, rfl, O.obj, T.Ca.cl, T.Ca.n_code, cF_code, ?_⟩
      refine ⟨9, 0, rfl, .inr (.inr ⟨rfl, rfl⟩), fun H1 sm1 => ?_⟩
      exact ⟨S, I, N, pa, la, sm, stp, p, sim, _, 0, _, rfl, PoolAt.same ⟨dx, mr, st, ms, h⟩ sm1, .inr (.inr ⟨rfl, rfl⟩), fun t e => (noRaise e).elim, (a.same sm1).2⟩
    | state d =>
      refine ⟨_, rfl, ca, T.Ca.C, dc, _, _, rfl, O.obj, T.Ca.cl, T.Ca.n_code, cF_code, rfl, _, rfl, if_f (by decide) ?_⟩
      refine ⟨_, rfl, ca, T.Ca.C, dc, _, _, rfl, O.obj, T.Ca.cl, T.Ca.n_code, cF_code, rfl, _, rfl, if_f (by decide) ?_⟩
      refine ⟨_, rfl, ca, T.Ca.C, dc, _, _, rfl, O.obj, T.Ca.cl, T.Ca.n_code, cF_code, rfl, _, rfl, if_f (by decide) ?_⟩
      refine ⟨_, rfl, ca, T.Ca.C, dc, _, _, rfl, O.obj, T.Ca.cl, T.Ca.n_code, cF_code, rfl, _, rfl, if_f (by decide) ?_⟩
      refine ⟨_, rfl, ca, T.Ca.C, dc, _, _, rfl, O.obj, T.Ca.cl, T.Ca.n_code, cF_code, rfl, _, rfl, if_f (by decide) ?_⟩
      refine ⟨_, rfl, ca, T.Ca.C, dc, _, _, rfl, O.obj, T.Ca.cl, T.Ca.n_code, cF_code, rfl, _, rfl, if_f (by decide) ?_⟩
      refine ⟨_, rfl, ca, T.Ca.C, dc, _, _, rfl, O.obj, T.Ca.cl, T.Ca.n_code, cF_code, rfl, _, rfl, if_t (by decide) ?_⟩
      refine ⟨_, rfl, _, rfl, ca, T.Ca.C, dc, _, _, rfl, O.obj, T.Ca.cl, T.Ca.n_numbers, cF_numbers, na, _, _, _, rfl, rfl, SqL.of O.nums, atI_nat (j := 0) rfl, ?_⟩
      exact ⟨S, I, N, pa, la, sm, stp, p, sim, _, rfl, ⟨dx, mr, st, ms, h⟩, fun t e => (noRaise e).elim, a.2⟩
end
end Mp
namespace Mp
open PySem PySem.Spec PyProof.Rows L2
open Gv (Bytes Dev zeroBlock isBlock Sim Happens Prog Ask Reply Ptr)
open Gv01 (Pool)
/-! ### the session on the heap -/
def sF (la sm : Addr) (pv : V) : List (Str × V) := [("line", .ref la), ("sums", .ref sm), ("pool", pv)]
section
variable {la sm : Addr} {pv pw : V}
theorem sF_no {m : Str} (h : (["line", "sums", "pool"] : List Str).contains m = false := by decide +kernel) : (sF la sm pv).lookup m = none := look_no h
theorem sF_line : List.lookup ("line" : Str) (sF la sm pv) = some (.ref la) := lk_here
theorem sF_sums : List.lookup ("sums" : Str) (sF la sm pv) = some (.ref sm) := (lk_past (by decide +kernel)).trans lk_here
theorem sF_pool : List.lookup ("pool" : Str) (sF la sm pv) = some pv := (lk_past (by decide +kernel)).trans ((lk_past (by decide +kernel)).trans lk_here)
theorem sF_put : putF "pool" pw (sF la sm pv) = sF la sm pw := (put_past (by decide +kernel)).trans (congrArg _ ((put_past (by decide +kernel)).trans (congrArg _ put_here)))
end
abbrev NS := Gv01Neutral.S
def And1 (S : Addr → Prop) (a : Addr) : Addr → Prop := fun q => S q ∨ q = a
def Body {K : PySem.W.Frag} {mg : Str → Option Value} (T : Txt K mg) (H : Hp) (S I : Addr → Prop) (N : Nat) (a la sm stp : Addr) (pv : V) (sim : Sim) : Option Pool → Prop
  | none => pv = .non ∧ SumsAt T.Su.C H sm stp ∧ I sm ∧ I stp ∧ (∀ q, I q → H q ≠ none ∧ ¬ And1 S a q) ∧ LineAt T.Li.C T.De.C H (Sh (And1 S a) I) N la sim
  | some p => ∃ pa, pv = .ref pa ∧ PoolAt T H (And1 S a) I N pa la sm stp p sim
structure SessIn {K : PySem.W.Frag} {mg : Str → Option Value} (T : Txt K mg) (H : Hp) (S I : Addr → Prop) (N : Nat) (a la sm stp : Addr) (s : NS) (dx : Addr) (pv : V) : Prop where
  obj : H a = some (.ins T.Se.C dx (sF la sm pv))
  na : ¬ S a
  pr : Priv H S
  body : Body T H S I N a la sm stp pv s.sim s.pool
def SessAt {K : PySem.W.Frag} {mg : Str → Option Value} (T : Txt K mg) (H : Hp) (S : Addr → Prop) (N : Nat) (a : Addr) (s : NS) : Prop := ∃ I la sm stp dx pv, SessIn T H S I N a la sm stp s dx pv
section
variable {K : PySem.W.Frag} {mg : Str → Option Value} {T : Txt K mg} {H H' : Hp} {S S' I : Addr → Prop} {N M : Nat} {a la sm stp : Addr} {s : NS} {dx : Addr} {pv : V}
theorem SessIn.facts (h : SessIn T H S I N a la sm stp s dx pv) : SumsAt T.Su.C H sm stp ∧ I sm ∧ I stp ∧ (∀ q, I q → H q ≠ none ∧ ¬ And1 S a q) ∧ LineAt T.Li.C T.De.C H (Sh (And1 S a) I) N la s.sim := by
  have b := h.body
  revert b
  cases s.pool with
  | none => exact fun ⟨_, r⟩ => r
  | some p => exact fun ⟨pa, _, _, _, _, _, hp⟩ => ⟨hp.sums, hp.ism, hp.istp, hp.hI, hp.line.imp sh_own⟩
theorem Body.same (b : Body T H S I N a la sm stp pv s.sim s.pool) (k : Same H H') : Body T H' S I N a la sm stp pv s.sim s.pool := by
  revert b
  cases s.pool with
  | none => exact fun ⟨e, h1, h2, h3, h4, h5⟩ => ⟨e, h1.mono fun q o _ z => k q o z, h2, h3, fun q i => ⟨dom_same k q (h4 q i).1, (h4 q i).2⟩, h5.same k⟩
  | some p => exact fun ⟨pa, e, hp⟩ => ⟨pa, e, hp.same k⟩
theorem SessIn.same (h : SessIn T H S I N a la sm stp s dx pv) (k : Same H H') : SessIn T H' S I N a la sm stp s dx pv := ⟨k _ _ h.obj, h.na, h.pr.same k, h.body.same k⟩
theorem SessAt.same (h : SessAt T H S N a s) (k : Same H H') : SessAt T H' S N a s := let ⟨I, la, sm, stp, dx, pv, h⟩ := h; ⟨I, la, sm, stp, dx, pv, h.same k⟩
theorem SessAt.more (h : SessAt T H S N a s) (l : N ≤ M) : SessAt T H S M a s := by
  obtain ⟨I, la, sm, stp, dx, pv, h⟩ := h
  refine ⟨I, la, sm, stp, dx, pv, h.obj, h.na, h.pr, ?_⟩
  have b := h.body
  revert b
  cases s.pool with
  | none => exact fun ⟨e, h1, h2, h3, h4, h5⟩ => ⟨e, h1, h2, h3, h4, h5.more l⟩
  | some p => exact fun ⟨pa, e, hp⟩ => ⟨pa, e, hp.more l⟩
theorem SessIn.subS (h : SessIn T H S I N a la sm stp s dx pv) (k : ∀ q, S' q → S q) : SessIn T H S' I N a la sm stp s dx pv := by
  have k2 : ∀ q, And1 S' a q → And1 S a q := fun q z => z.imp (k q) id
  refine ⟨h.obj, fun z => h.na (k a z), fun q z => h.pr q (k q z), ?_⟩
  have b := h.body
  revert b
  cases s.pool with
  | none => exact fun ⟨e, h1, h2, h3, h4, h5⟩ => ⟨e, h1, h2, h3, fun q i => ⟨(h4 q i).1, fun z => (h4 q i).2 (k2 q z)⟩, h5.imp fun q z => z.imp (k2 q) id⟩
  | some p => exact fun ⟨pa, e, _, _, _, _, hp⟩ => ⟨pa, e, _, _, _, _, hp.subS k2⟩
theorem SessAt.subS (h : SessAt T H S N a s) (k : ∀ q, S' q → S q) : SessAt T H S' N a s := let ⟨I, la, sm, stp, dx, pv, h⟩ := h; ⟨I, la, sm, stp, dx, pv, h.subS k⟩
/-- the caller makes a new object, its own from now on -/
theorem SessIn.addS (h : SessIn T H S I N a la sm stp s dx pv) {D : Addr} {o : HO} (hD : H D = none) : SessIn T (upd H D o) (fun q => S q ∨ q = D) I N a la sm stp s dx pv := by
  have ne : ∀ q, H q ≠ none → q ≠ D := fun q z e => z (by rw [e]; exact hD)
  have naD : a ≠ D := ne a (by rw [h.obj]; simp)
  refine ⟨by rw [upd_ne naD]; exact h.obj, fun z => z.elim h.na naD, ?_, ?_⟩
  · rintro q (z | z)
    · exact dom_upd q (h.pr q z)
    · rw [z, upd_same]; simp
  · have b := h.body
    revert b
    cases s.pool with
    | none =>
      rintro ⟨e, h1, h2, h3, h4, h5⟩
      refine ⟨e, h1.mono fun q o _ z => same_upd hD q o z, h2, h3, fun q i => ⟨dom_upd q (h4 q i).1, ?_⟩, h5.priv (fun q u _ z => same_upd hD q u z) ?_⟩
      · rintro ((z | z) | z)
        · exact (h4 q i).2 (.inl z)
        · exact ne q (h4 q i).1 z
        · exact (h4 q i).2 (.inr z)
      · rintro q n tr (((z | z) | z) | z)
        · exact n (.inl (.inl z))
        · exact ne q tr z
        · exact n (.inl (.inr z))
        · exact n (.inr z)
    | some p =>
      rintro ⟨pa, e, _, _, _, _, hp⟩
      exact ⟨pa, e, _, _, _, _, (hp.addS hD).subS fun q z => by
        rcases z with (z | z) | z
        · exact .inl (.inl z)
        · exact .inr z
        · exact .inl (.inr z)⟩
/-- the caller stores to what is its own -/
theorem SessIn.updS (h : SessIn T H S I N a la sm stp s dx pv) {D : Addr} {o : HO} (hD : S D) : SessIn T (upd H D o) S I N a la sm stp s dx pv := by
  have naD : a ≠ D := fun e => h.na (e ▸ hD)
  refine ⟨by rw [upd_ne naD]; exact h.obj, h.na, fun q z => dom_upd q (h.pr q z), ?_⟩
  have b := h.body
  revert b
  cases s.pool with
  | none =>
    rintro ⟨e, h1, h2, h3, h4, h5⟩
    have ni : ∀ q, I q → q ≠ D := fun q i w => (h4 q i).2 (.inl (w ▸ hD))
    refine ⟨e, h1.mono fun q o z e => ?_, h2, h3, fun q i => ⟨dom_upd q (h4 q i).1, (h4 q i).2⟩, h5.priv (fun q u n z => ?_) fun q n _ => n⟩
    · rw [upd_ne (by
        rcases z with rfl | rfl
        · exact ni _ h2
        · exact ni _ h3)]
      exact e
    · rw [upd_ne (fun w => n (.inl (.inl (by rw [w]; exact hD))))]
      exact z
  | some p => exact fun ⟨pa, e, _, _, _, _, hp⟩ => ⟨pa, e, _, _, _, _, hp.updS (.inl hD)⟩
theorem SessAt.addS (h : SessAt T H S N a s) {D : Addr} {o : HO} (hD : H D = none) : SessAt T (upd H D o) (fun q => S q ∨ q = D) N a s := let ⟨I, la, sm, stp, dx, pv, h⟩ := h; ⟨I, la, sm, stp, dx, pv, h.addS hD⟩
theorem SessAt.updS (h : SessAt T H S N a s) {D : Addr} {o : HO} (hD : S D) : SessAt T (upd H D o) S N a s := let ⟨I, la, sm, stp, dx, pv, h⟩ := h; ⟨I, la, sm, stp, dx, pv, h.updS hD⟩
end
section
variable {P : Program} {w : World} {K : PySem.W.Frag} {mg : Str → Option Value} {base : Heap}
/-! ### __init__ -/
def spSessInit (T : Txt K mg) : Sp := fun vs H Q _ => ∃ (S : Addr → Prop) (a dx za zb : Addr) (sizes : List Nat) (es : List Addr) (rows : List (List Nat)), vs = [.ref a, .ref za, .ref zb] ∧ H a = some (.ins T.Se.C dx []) ∧ Priv H S ∧ ¬ S a ∧ H za = some (.lst (nvs sizes)) ∧ H zb = some (.lst (es.map V.ref)) ∧
  Paired (fun e l => H e = some (.lst (nvs l)) ∧ ¬ S e) es rows ∧ (∀ l ∈ rows, ∃ x, Gv01Neutral.happens l = some x) ∧ rows.length ≤ 1000 ∧ sizes.length ≤ 8 ∧
  ∀ H', SessAt T H' S 0 a ⟨Gv.simOf sizes (rows.filterMap Gv01Neutral.happens), none⟩ → (∀ q o, H q = some o → q ≠ a → H' q = some o) → Q .non H'
theorem ok_Session_init (T : Txt K mg) : FnOk P w K mg base CX0 5 T.Se.init.f T.Se.init.fd ["self", "sizes", "script"] (spSessInit T) := by
  refine T.Se.init.F.ok sc_Session_init (fun vs H Q E h => ?_) (fun cdv A outer s H vs Q E hr h => ⟨_, (pss_cons
    (ps_fld (pv 0) (pe_make T.Li.mak (ok_Line_init T) (hr.mono (by decide)) rfl T.Li.g T.Li.init.b .nil pass0 (pa_cons (pv 1) (pa_cons (pv 2) pa_nil))) rfl)
    (pss_cons
    (ps_fld (pv 0) (pe_make0 T.Su.mak (ok_Sums_init T) (hr.mono (by decide)) rfl T.Su.g T.Su.init.b .nil pass0) rfl)
    (pss_one
    (ps_fld (pv 0) pe_non rfl)))), ?_⟩)
  · obtain ⟨S, a, dx, za, zb, sizes, es, rows, rfl, _⟩ := h
    rfl
  · obtain ⟨S, a, dx, za, zb, sizes, es, rows, rfl, ha, pr, na, hza, hzb, pw, hr1, hl, hl8, q⟩ := h
    refine ⟨_, rfl, _, rfl, fun la d1 nla nd1 ne1 => ?_⟩
    have nal : a ≠ la := ne_of_none ha nla
    have nad : a ≠ d1 := ne_of_none ha nd1
    have sm0 : Same H (upd (upd H d1 (.own la)) la (.ins T.Li.C d1 [])) := fun z o e => by rw [upd_ne (ne_of_none e nla), upd_ne (ne_of_none e nd1)]; exact e
    refine ⟨And1 S a, la, d1, za, zb, sizes, es, rows, rfl, upd_same, ?_, ?_, SqL.of (sm0 _ _ hza), sm0 _ _ hzb, paired_imp (fun e l z => ⟨sm0 _ _ z.1, fun v => v.elim z.2 (ne_of z.1 ha (by intro z; cases z))⟩) pw, hr1, hl, hl8, fun H1 L1 kp1 => ⟨rfl, ?_⟩⟩
    · rintro z (e | e)
      · exact dom_same sm0 z (pr z e)
      · rw [e, sm0 _ _ ha]; simp
    · rintro (e | e)
      · exact pr la e nla
      · exact nal e.symm
    · have k1 : ∀ z o, H z = some o → H1 z = some o := fun z o e => kp1 z o (sm0 z o e) (ne_of_none e nla)
      have ha1 := k1 _ _ ha
      refine ⟨_, rfl, a, T.Se.C, dx, _, rfl, ha1, T.Se.cl, T.Se.n_line, (by show 0 < 1000; decide), ?_⟩
      intro sm d2 nsm nd2 ne2
      obtain ⟨nsm1, nsm2⟩ := none_upd nsm
      obtain ⟨nd21, nd22⟩ := none_upd nd2
      refine ⟨sm, d2, rfl, upd_same, fun H2 stp nstp hs kp2 => ⟨rfl, ?_⟩⟩
      have nst0 : H1 stp = none := (none_upd (none_upd (none_upd nstp).1).1).1
      have k2 : ∀ z o, H1 z = some o → z ≠ a → H2 z = some o := fun z o e n => kp2 z o (by rw [upd_ne (ne_of_none e nsm1), upd_ne (ne_of_none e nd21), upd_ne n]; exact e) (ne_of_none e nsm1)
      have ha2 : H2 a = some (.ins T.Se.C dx (putF "line" (.ref la) [])) := kp2 _ _ (by rw [upd_ne (fun e => nsm2 e.symm), upd_ne (fun e => nd22 e.symm)]; exact upd_same) (fun e => nsm2 e.symm)
      refine ⟨_, rfl, a, T.Se.C, dx, _, rfl, ha2, T.Se.cl, T.Se.n_sums, (by show 1 < 1000; decide), ?_⟩
      refine ⟨_, rfl, a, T.Se.C, dx, _, rfl, upd_same, T.Se.cl, T.Se.n_pool, (by show 2 < 1000; decide), ?_⟩
      rw [upd_upd]
      have k3 : ∀ z o, H1 z = some o → z ≠ a → ∀ u, upd H2 a u z = some o := fun z o e n u => by rw [upd_ne n]; exact k2 z o e n
      have nse : stp ≠ a := fun e => by rw [e, ha1] at nst0; cases nst0
      refine q _ ⟨fun z => z = sm ∨ z = stp, la, sm, stp, dx, .non, by rw [upd_same]; rfl, na, fun z e => dom_upd z ?_, rfl, hs.mono fun z o e e2 => ?_, .inl rfl, .inr rfl, ?_, ?_⟩ ?_
      · have n : z ≠ a := fun w => na (w ▸ e)
        cases eo : H z with
        | none => exact absurd eo (pr z e)
        | some o => rw [k2 z o (k1 z o eo) n]; simp
      · rw [upd_ne (by
          rcases e with rfl | rfl
          · exact nsm2
          · exact nse)]
        exact e2
      · rintro z (e | e)
        · refine ⟨dom_upd z (by
            obtain ⟨⟨x, hx⟩, _⟩ := hs
            rw [e, hx]; simp), ?_⟩
          rintro (w | w)
          · cases eo : H z with
            | none => exact pr z w eo
            | some o => rw [e] at eo; rw [k1 _ _ eo] at nsm1; cases nsm1
          · exact nsm2 (e.symm.trans w)
        · refine ⟨dom_upd z (by rw [e, hs.2]; simp), ?_⟩
          rintro (w | w)
          · cases eo : H z with
            | none => exact pr z w eo
            | some o => rw [e] at eo; rw [k1 _ _ eo] at nst0; cases nst0
          · exact nse (e.symm.trans w)
      · refine L1.priv (fun z o n e => k3 z o e (fun w => n (.inr w)) _) ?_
        rintro z n tr (w | w | w)
        · exact n w
        · exact tr (by rw [w]; exact nsm1)
        · exact tr (by rw [w]; exact nst0)
      · exact fun z o e n => k3 z o (k1 z o e) n _
/-! ### sum_of -/
def spSumOf (T : Txt K mg) : Sp := fun vs H Q _ => ∃ S N a s, ∃ k : Nat, ∃ b ns, vs = [.ref a, nv k, .ref b] ∧ SessAt T H S N a s ∧ H b = some (.lst (nvs ns)) ∧ (∀ x ∈ ns, x < 256) ∧
  ∀ H' r, Same H H' → H' r = some (.lst [V.int (if ns.length ≤ 1024 then ((Gv.sum k (blk ns) : Nat) : Int) else -2)]) → H r = none → Q (.ref r) H'
theorem ok_Session_sum_of (T : Txt K mg) : FnOk P w K mg base CX0 3 T.Se.sum_of.f T.Se.sum_of.fd ["self", "place", "told"] (spSumOf T) := by
  refine T.Se.sum_of.F.ok sc_Session_sum_of (fun vs H Q E h => ?_) (fun cdv A outer s H vs Q E hr h => ⟨_, (pss_cons
    (ps_if (pt_not (pt_val (pe_call (ok_is_block T) (hr.mono (by decide)) rfl T.F.g_is_block T.F.is_block.F.kp T.F.is_block.b .nil pass0 (pa_cons (pv 2) pa_nil)))) (pss_one
    (ps_ret (pe_lst (pa_cons (pe_gint T.G.c_WRONG) pa_nil)))) pss_nil)
    (pss_one
    (ps_ret (pe_lst (pa_cons (pe_meth (pe_fld (pv 0) rfl) T.Su.cl T.Su.m_of_block (ok_Sums_of_block T) (hr.mono (by decide)) T.Su.of_block.b .nil pass0 (pa_cons (pv 1) (pa_cons (pe_call (ok_whole_block T) (hr.mono (by decide)) rfl T.F.g_whole_block T.F.whole_block.F.kp T.F.whole_block.b .nil pass0 (pa_cons (pv 2) pa_nil)) pa_nil))) pa_nil))))), ?_⟩)
  · obtain ⟨S, N, a, s, k, b, ns, rfl, _⟩ := h
    rfl
  · obtain ⟨S, N, a, s, k, b, ns, rfl, ⟨I, la, sm, stp, dx, pv, h⟩, hb, h256, q⟩ := h
    refine ⟨_, rfl, b, _, rfl, SqL.of hb, _, rfl, ?_⟩
    rw [nvs_len]
    by_cases c : ns.length ≤ 1024
    · refine if_f (by rw [decide_eq_true c]; rfl) ?_
      obtain ⟨hs, _⟩ := h.facts
      obtain ⟨dxs, hsm⟩ := hs.1
      refine ⟨_, rfl, a, T.Se.C, dx, _, _, rfl, h.obj, T.Se.cl, T.Se.n_sums, sF_sums, sm, dxs, _, rfl, hsm, (lk_past (by decide +kernel)).trans rfl, _, rfl, _, rfl, ?_⟩
      refine ⟨b, ns, rfl, hb, c, fun H1 p hp sm1 hp1 => ?_⟩
      have eb : blk ns = Gv.blockOf ns := by unfold blk; rw [if_pos c]
      refine ⟨sm, stp, k, p, blk ns, rfl, hs.mono fun q o _ e => sm1 q o e, ⟨by rw [eb]; exact hp1, by rw [blk_ok h256, decide_eq_true c]⟩, fun H2 sm2 => ⟨(by show 1 ≤ sizeLine; decide), fun r hr => ?_⟩⟩
      refine q _ r ((sm1.trans sm2).trans (same_upd hr)) ?_ (dom_none (dom_same (sm1.trans sm2)) hr)
      rw [upd_same, if_pos c]
    · refine if_t (by rw [decide_eq_false c]; rfl) ?_
      refine ⟨(by show 1 ≤ sizeLine; decide), fun r hr => q _ r (same_upd hr) ?_ hr⟩
      rw [upd_same, if_neg c]
/-! ### begin -/
def spBegin (T : Txt K mg) : Sp := fun vs H Q _ => ∃ (S L : Addr → Prop), ∃ N a s, ∃ n : Nat, ∃ (mr : Addr) (ms : List Addr) (rows : List (List Nat)), vs = [.ref a, nv n, .ref mr] ∧ SessAt T H (fun q => S q ∨ L q) N a s ∧ (∀ q, L q → ¬ S q) ∧ H mr = some (.lst (ms.map V.ref)) ∧ L mr ∧ Paired (fun m row => H m = some (.lst (nvs row)) ∧ L m) ms rows ∧ rows.length ≤ 100 ∧
  ∀ H' r, SessAt T H' S N a (if Gv01.configOk rows n = true then ⟨s.sim, some (fresh0 rows n)⟩ else s) → Fr S H H' → H' r = some (.lst [V.int (if Gv01.configOk rows n = true then 0 else -2)]) → H r = none → Q (.ref r) H'
theorem ok_Session_begin (T : Txt K mg) : FnOk P w K mg base CX0 3 T.Se.begin.f T.Se.begin.fd ["self", "n", "mirrors"] (spBegin T) := by
  refine T.Se.begin.F.ok sc_Session_begin (fun vs H Q E h => ?_) (fun cdv A outer s H vs Q E hr h => ⟨_, (pss_cons
    (ps_if (pt_not (pt_val (pe_call (ok_can_be_pool T) (hr.mono (by decide)) rfl T.F.g_can_be_pool T.F.can_be_pool.F.kp T.F.can_be_pool.b .nil pass0 (pa_cons (pv 1) (pa_cons (pv 2) pa_nil))))) (pss_one
    (ps_ret (pe_lst (pa_cons (pe_gint T.G.c_WRONG) pa_nil)))) pss_nil)
    (pss_cons
    (ps_fld (pv 0) (pe_make T.Po.mak (ok_Pool_init T) (hr.mono (by decide)) rfl T.Po.g T.Po.init.b .nil pass0 (pa_cons (pe_fld (pv 0) rfl) (pa_cons (pe_fld (pv 0) rfl) (pa_cons (pv 1) (pa_cons (pv 2) pa_nil))))) rfl)
    (pss_one
    (ps_ret (pe_lst (pa_cons (pe_gint T.G.c_DONE) pa_nil)))))), ?_⟩)
  · obtain ⟨S, L, N, a, s, n, mr, ms, rows, rfl, _⟩ := h
    rfl
  · obtain ⟨S, L, N, a, s, n, mr, ms, rows, rfl, ⟨I, la, sm, stp, dx, pv, h⟩, hL, hm, lm, pw, hl, q⟩ := h
    refine ⟨_, rfl, _, rfl, ?_⟩
    refine ⟨n, mr, ms, rows, rfl, hm, paired_imp (fun m row z => z.1) pw, fun H1 sm1 => ⟨_, rfl, ?_⟩⟩
    have h1 := h.same sm1
    by_cases c : Gv01.configOk rows n = true
    · rw [if_pos c, if_pos c] at q
      refine if_f (by rw [c]; rfl) ?_
      obtain ⟨hs, i1, i2, hI, hline⟩ := h1.facts
      have nLa : ∀ z, L z → z ≠ a := fun z e w => h.na (.inr (w ▸ e))
      have nSa : ∀ z, S z → z ≠ a := fun z e w => h.na (.inl (w ▸ e))
      refine ⟨_, rfl, a, T.Se.C, dx, _, _, rfl, h1.obj, T.Se.cl, T.Se.n_line, sF_line, _, rfl, a, T.Se.C, dx, _, _, rfl, h1.obj, T.Se.cl, T.Se.n_sums, sF_sums, _, rfl, _, rfl, fun x d1 nx nd1 ne1 => ?_⟩
      have sm2 : Same H1 (upd (upd H1 d1 (.own x)) x (.ins T.Po.C d1 [])) := fun z o e => by rw [upd_ne (ne_of_none e nx), upd_ne (ne_of_none e nd1)]; exact e
      refine ⟨x, la, sm, mr, d1, n, ms, rows, rfl, upd_same, sm2 _ _ (sm1 _ _ hm), paired_imp (fun m row z => sm2 _ _ (sm1 _ _ z.1)) pw, config_good c, fun H2 st nst o1 o2 kp => ⟨rfl, ?_⟩⟩
      have nst1 : H1 st = none := dom_none (dom_same sm2) nst
      have k2 : ∀ z o, H1 z = some o → H2 z = some o := fun z o e => kp z o (sm2 z o e) (ne_of_none e nx)
      have ha2 := k2 _ _ h1.obj
      refine ⟨_, rfl, a, T.Se.C, dx, _, rfl, ha2, T.Se.cl, T.Se.n_pool, (by show 3 < 1000; decide), ?_⟩
      rw [sF_put]
      have nax : a ≠ x := ne_of_none h1.obj nx
      have nast : a ≠ st := ne_of_none h1.obj nst1
      have k3 : ∀ z o, H1 z = some o → z ≠ a → upd H2 a (.ins T.Se.C dx (sF la sm (.ref x))) z = some o := fun z o e n => by rw [upd_ne n]; exact k2 z o e
      have Pin : PoolIn T (upd H2 a (.ins T.Se.C dx (sF la sm (.ref x)))) (And1 S a) (fun z => I z ∨ L z ∨ z = x) N x la sm stp (fresh0 rows n) s.sim d1 mr st ms := by
        refine ⟨by rw [upd_ne nax.symm]; exact o1, k3 _ _ (sm1 _ _ hm) (nLa _ lm), paired_imp (fun m row z => ⟨k3 _ _ (sm1 _ _ z.1) (nLa _ z.2), .inr (.inl z.2)⟩) pw, by rw [upd_ne nast.symm]; exact o2, hs.mono fun z o w e => ?_, .inr (.inr rfl), .inr (.inl lm), .inl i1, .inl i2, ?_, ?_, ?_, ?_, ?_, config_good c, hl⟩
        · refine k3 z o e ?_
          rcases w with rfl | rfl
          · exact fun e => (hI _ i1).2 (.inr e)
          · exact fun e => (hI _ i2).2 (.inr e)
        · rintro z (e | e | e)
          · refine ⟨?_, fun w => (hI z e).2 ?_⟩
            · cases eo : H1 z with
              | none => exact absurd eo (hI z e).1
              | some o => rw [k3 z o eo (fun w => (hI z e).2 (.inr w))]; simp
            · rcases w with w | w
              · exact .inl (.inl w)
              · exact .inr w
          · refine ⟨?_, ?_⟩
            · cases eo : H1 z with
              | none => exact absurd eo (h1.pr z (.inr e))
              | some o => rw [k3 z o eo (nLa z e)]; simp
            · rintro (w | w)
              · exact hL z e w
              · exact nLa z e w
          · rw [e]
            refine ⟨by rw [upd_ne nax.symm, o1]; simp, ?_⟩
            rintro (w | w)
            · exact h1.pr x (.inl w) nx
            · exact nax w.symm
        · rintro z (e | e)
          · cases eo : H1 z with
            | none => exact absurd eo (h1.pr z (.inl e))
            | some o => rw [k3 z o eo (nSa z e)]; simp
          · rw [e, upd_same]; simp
        · rintro (w | w)
          · exact h1.pr st (.inl w) nst1
          · exact nast w.symm
        · rintro (w | w | w)
          · exact (hI st w).1 nst1
          · exact h1.pr st (.inr w) nst1
          · rw [w] at nst
            rw [upd_same] at nst
            cases nst
        · refine hline.priv (fun z o n e => k3 z o e (fun w => n (.inl (.inr w)))) ?_
          rintro z n tr ((w | w) | (w | w | w) | w)
          · exact n (.inl (.inl (.inl w)))
          · exact n (.inl (.inr w))
          · exact n (.inr w)
          · exact n (.inl (.inl (.inr w)))
          · exact tr (by rw [w]; exact nx)
          · exact tr (by rw [w]; exact nst1)
      refine ⟨(by show 1 ≤ sizeLine; decide), fun r hr => ?_⟩
      have smr := same_upd (o := .lst [V.int 0]) hr
      refine q _ r ⟨fun z => I z ∨ L z ∨ z = x, la, sm, stp, dx, .ref x, smr _ _ upd_same, fun z => h.na (.inl z), fun z e => dom_same smr z ?_, x, rfl, PoolAt.same ⟨d1, mr, st, ms, Pin⟩ smr⟩ ⟨fun z o e e2 => smr z o (k3 z o (sm1 z o e2) (nSa z e)), fun z ns _ e2 => smr z _ (k3 z _ (sm1 z _ e2) (ne_of e2 h.obj (by intro z; cases z))), fun z e => ?_⟩ upd_same ?_
      · exact Pin.pr z (.inl e)
      · refine dom_same smr z ?_
        cases eo : H z with
        | none => exact absurd eo e
        | some o =>
          by_cases w : z = a
          · rw [w, upd_same]; simp
          · rw [k3 z o (sm1 z o eo) w]; simp
      · refine dom_none (H' := upd H2 a (.ins T.Se.C dx (sF la sm (.ref x)))) (fun z e => ?_) hr
        cases eo : H z with
        | none => exact absurd eo e
        | some o =>
          by_cases w : z = a
          · rw [w, upd_same]; simp
          · rw [k3 z o (sm1 z o eo) w]; simp
    · have c' : Gv01.configOk rows n = false := by simpa using c
      rw [if_neg c, if_neg c] at q
      refine if_t (by rw [c']; rfl) ?_
      refine ⟨(by show 1 ≤ sizeLine; decide), fun r hr => ?_⟩
      have smr := same_upd (o := .lst [V.int (-2)]) hr
      exact q _ r ⟨I, la, sm, stp, dx, pv, (h1.same smr).subS fun q z => .inl z⟩ ((Fr.of_same sm1).trans (Fr.of_same smr)) upd_same (dom_none (dom_same sm1) hr)
end
end Mp
namespace Mp
open PySem PySem.Spec PyProof.Rows L2
open Gv (Bytes Dev zeroBlock isBlock Sim Happens Prog Ask Reply Ptr)
open Gv01 (Pool)
/-! ### a call, by the specification -/
def stepC (s : NS) (c : Gv01.Call) : NS × List Int := match Gv.play (Gv01.does s.pool c) s.sim with
  | (some y, t) => (⟨t, y.1⟩, Gv01Neutral.told c y.2)
  | (none, t) => (⟨t, none⟩, [-100])
theorem stepC_some {s : NS} {c : Gv01.Call} {y : Option Pool × Gv01.Ans} {t : Sim} (h : Gv.play (Gv01.does s.pool c) s.sim = (some y, t)) : stepC s c = (⟨t, y.1⟩, Gv01Neutral.told c y.2) := by
  unfold stepC
  rw [h]
theorem stepC_none {s : NS} {c : Gv01.Call} {t : Sim} (h : Gv.play (Gv01.does s.pool c) s.sim = (none, t)) : stepC s c = (⟨t, none⟩, [-100]) := by
  unfold stepC
  rw [h]
theorem does_none {code : Nat} {nums : List Nat} {rows : List (List Nat)} {c : Gv01.Call} (h : PForm code nums rows c) : Gv01.does none c = .ret (none, Gv01.only (-9)) := by
  cases h <;> rfl
inductive Form : Nat → List Nat → List (List Nat) → Prop
  | begin_ (n : Nat) (rows : List (List Nat)) (h : rows.length ≤ 100) : Form 0 [n] rows
  | sum (k : Nat) (ns : List Nat) (h : ∀ x ∈ ns, x < 256) (hk : k < 2 ^ 64) : Form 11 [k] [ns]
  | peek (d k : Nat) : Form 12 [d, k] []
  | asks : Form 13 [] []
  | pool {code : Nat} {nums : List Nat} {rows : List (List Nat)} {c : Gv01.Call} (h : PForm code nums rows c) : Form code nums rows
def zs (l : List Nat) : List Int := l.map fun (n : Nat) => (n : Int)
def cOf (code : Nat) (nums : List Nat) (rows : List (List Nat)) : List (List Int) := zs (code :: nums) :: rows.map zs
theorem nats_ints (l : List Nat) : Gv01Neutral.nats (zs l) = l := by
  unfold Gv01Neutral.nats zs
  rw [List.map_map]
  exact List.map_id l
theorem nats_rows (l : List (List Nat)) : (l.map zs).map Gv01Neutral.nats = l := by
  rw [List.map_map]
  have : Gv01Neutral.nats ∘ zs = id := by
    funext x
    exact nats_ints x
  rw [this, List.map_id]
theorem block_ints (l : List Nat) : Gv01Neutral.block (zs l) = blk l := by
  unfold Gv01Neutral.block blk
  rw [nats_ints]
  rfl
def stepN (s : NS) (code : Nat) (nums : List Nat) (rows : List (List Nat)) : NS × List Int := Gv01Neutral.step s (cOf code nums rows)
theorem step_of {s : NS} {c : List (List Int)} {x : Gv01.Call} (h : Gv01Neutral.step s c = (match Gv01Neutral.callOf c with
    | none => (s, [])
    | some x => match Gv.play (Gv01.does s.pool x) s.sim with
      | (some y, t) => (⟨t, y.1⟩, Gv01Neutral.told x y.2)
      | (none, t) => (⟨t, none⟩, [Gv01Neutral.OFF]))) (hc : Gv01Neutral.callOf c = some x) : Gv01Neutral.step s c = stepC s x := by
  rw [h, hc]
  unfold stepC
  dsimp only
  rcases hx : Gv.play (Gv01.does s.pool x) s.sim with ⟨_ | y, t⟩ <;> rfl
theorem stepN_pool {s : NS} {code : Nat} {nums : List Nat} {rows : List (List Nat)} {c : Gv01.Call} (h : PForm code nums rows c) : stepN s code nums rows = stepC s c := by
  unfold stepN
  cases h with
  | places => exact step_of rfl rfl
  | read k s' => exact step_of rfl rfl
  | write k ns h =>
    refine step_of rfl ?_
    show some (Gv01.Call.write k (Gv01Neutral.block (zs ns))) = _
    rw [block_ints]
  | flush => exact step_of rfl rfl
  | slots k => exact step_of rfl rfl
  | putSlot k ns h =>
    refine step_of rfl ?_
    show some (Gv01.Call.putSlot k (Gv01Neutral.block (zs ns))) = _
    rw [block_ints]
  | out d => exact step_of rfl rfl
  | fill d => exact step_of rfl rfl
  | good d => exact step_of rfl rfl
  | state d => exact step_of rfl rfl
theorem stepN_begin (s : NS) (n : Nat) (rows : List (List Nat)) : stepN s 0 [n] rows = (if Gv01.configOk rows n = true then (⟨s.sim, some (fresh0 rows n)⟩, [0]) else (s, [-2])) := by
  have e : stepN s 0 [n] rows = stepC s (.begin_ rows n) := by
    refine step_of rfl ?_
    show some (Gv01.Call.begin_ ((rows.map zs).map Gv01Neutral.nats) n) = _
    rw [nats_rows]
  rw [e]
  by_cases c : Gv01.configOk rows n = true
  · have h : Gv.play (Gv01.does s.pool (.begin_ rows n)) s.sim = (some (some (fresh0 rows n), Gv01.only 0), s.sim) := by
      have b : Gv01.begin_ rows n = some (fresh0 rows n) := by
        unfold Gv01.begin_
        rw [if_pos c]
        rfl
      show (some (match Gv01.begin_ rows n with | some p => (some p, Gv01.only 0) | none => (s.pool, Gv01.only (-2))), s.sim) = _
      rw [b]
    rw [stepC_some h, if_pos c, told_only]
  · have h : Gv.play (Gv01.does s.pool (.begin_ rows n)) s.sim = (some (s.pool, Gv01.only (-2)), s.sim) := by
      have b : Gv01.begin_ rows n = none := by
        unfold Gv01.begin_
        rw [if_neg c]
      show (some (match Gv01.begin_ rows n with | some p => (some p, Gv01.only 0) | none => (s.pool, Gv01.only (-2))), s.sim) = _
      rw [b]
    rw [stepC_some h, if_neg c, told_only]
theorem stepN_sum (s : NS) (k : Nat) (ns : List Nat) (h : ∀ x ∈ ns, x < 256) (hk : k < 2 ^ 64) : stepN s 11 [k] [ns] = (s, [if ns.length ≤ 1024 then ((Gv.sum k (blk ns) : Nat) : Int) else -2]) := by
  have e : stepN s 11 [k] [ns] = stepC s (.sum k (blk ns)) := by
    refine step_of rfl ?_
    show some (Gv01.Call.sum k (Gv01Neutral.block (zs ns))) = _
    rw [block_ints]
  have h : Gv.play (Gv01.does s.pool (.sum k (blk ns))) s.sim = (some (s.pool, if isBlock (blk ns) = false ∨ 2 ^ 64 ≤ k then Gv01.only (-2) else Gv01.only ((Gv.sum k (blk ns) : Nat) : Int)), s.sim) := rfl
  rw [e, stepC_some h, blk_ok ‹_›]
  by_cases c : ns.length ≤ 1024
  · rw [decide_eq_true c, if_neg (by rintro (z | z); cases z; omega), told_only, if_pos c]
  · rw [decide_eq_false c, if_pos (.inl rfl), told_only, if_neg c]
theorem stepN_peek (s : NS) (d k : Nat) : stepN s 12 [d, k] [] = (s, peekS s.sim d k) := rfl
theorem stepN_asks (s : NS) : stepN s 13 [] [] = (s, [(s.sim.asks : Int)]) := rfl
section
variable {P : Program} {w : World} {K : PySem.W.Frag} {mg : Str → Option Value} {base : Heap}
/-! ### answer_by_pool -/
def spByPool (T : Txt K mg) : Sp := fun vs H Q _ => ∃ S N a s ca code nums rows c, vs = [.ref a, .ref ca] ∧ SessAt T H S N a s ∧ N < 2700000 ∧ (∃ dc na li bs, CallIn T.Ca.C H ca code nums rows dc na li bs) ∧ PForm code nums rows c ∧
  ∀ H' r, SessAt T H' S (N + 48) a (stepC s c).1 → Fr S H H' → H' r = some (.lst ((stepC s c).2.map V.int)) → H r = none → Q (.ref r) H'
theorem ok_Session_answer_by_pool (T : Txt K mg) : FnOk P w K mg base CX0 13 T.Se.answer_by_pool.f T.Se.answer_by_pool.fd ["self", "call"] (spByPool T) := by
  refine T.Se.answer_by_pool.F.ok sc_Session_answer_by_pool (fun vs H Q E h => ?_) (fun cdv A outer s H vs Q E hr h => ⟨_, (pss_cons
    (ps_if (pt_cmp (pc_isN (pe_fld (pv 0) rfl))) (pss_one
    (ps_ret (pe_lst (pa_cons (pe_gint T.G.c_NO_POOL) pa_nil)))) pss_nil)
    (pss_one
    (ps_try_only (tb := fun W => tRet (tCallS (spPoolAnswer T) (WE W) (tCons (tFld K (tVar 0) "pool") (tCons (tVar 1) tNil)))) (ts := fun _ _ _ => tSeq (sFld K (tVar 0) (tC .non) "pool") (tRet (tLst (tCons (tC (.int (-100))) tNil)))) (Wout := fun _ _ _ _ => False) rfl rfl ⟨rfl, by decide, Or.inl T.Pg.g⟩ takes0 (fun W pn xe tk _ => (pss_one (ps_ret (pe_callS (ok_pool_answer T) (hr.mono (by decide)) rfl T.F.g_pool_answer T.F.pool_answer.F.kp T.F.pool_answer.b (fun σ => passAt tk σ) (by exact (pa_cons (pe_fld (pv 0) rfl) (pa_cons (pv 1) pa_nil))))))) (fun _ _ _ _ _ _ _ => (pss_cons (ps_fld (pv 0) pe_non rfl) (pss_one (ps_ret (pe_lst (pa_cons (pe_gint T.G.c_POWER_WENT) pa_nil))))))))), ?_⟩)
  · obtain ⟨S, N, a, s, ca, code, nums, rows, c, rfl, _⟩ := h
    rfl
  · obtain ⟨S, N, a, s, ca, code, nums, rows, c, rfl, ⟨I, la, sm, stp, dx, pv, h⟩, lim, hca, hf, q⟩ := h
    refine ⟨_, rfl, a, T.Se.C, dx, _, _, rfl, h.obj, T.Se.cl, T.Se.n_pool, sF_pool, _, rfl, ?_⟩
    have b := h.body
    obtain ⟨sim, po⟩ := s
    cases po with
    | none =>
      obtain ⟨e, _⟩ := b
      subst e
      refine if_t rfl ?_
      refine ⟨(by show 1 ≤ sizeLine; decide), fun r hr => ?_⟩
      have sm1 := same_upd (o := .lst [V.int (-9)]) hr
      have st : stepC ⟨sim, none⟩ c = (⟨sim, none⟩, [-9]) := by
        have h0 : Gv.play (Gv01.does none c) sim = (some (none, Gv01.only (-9)), sim) := by rw [does_none hf]; rfl
        rw [stepC_some h0, told_only]
      rw [st] at q
      exact q _ r ((SessAt.same ⟨I, la, sm, stp, dx, .non, h⟩ sm1).more (by omega)) (Fr.of_same sm1) upd_same hr
    | some p =>
      obtain ⟨pa, e, hp⟩ := b
      subst e
      refine if_f rfl ?_
      have sh1 : ∀ z, S z → Sh (And1 S a) I z := fun z e => .inl (.inl e)
      refine ⟨_, rfl, a, T.Se.C, dx, _, _, rfl, h.obj, T.Se.cl, T.Se.n_pool, sF_pool, _, rfl, ?_⟩
      refine ⟨And1 S a, I, N, pa, la, sm, stp, p, sim, ca, code, nums, rows, c, rfl, hp, lim, hca, hf, fun t e H1 L1 f1 => ?_, fun p' an t e H1 r P1 f1 hr hn => ?_⟩
      · -- the power went
        obtain ⟨hs, i1, i2, hI, _⟩ := h.facts
        have ha1 := f1.keep a _ (.inl (.inr rfl)) h.obj
        refine ⟨true, T.Pg.ex, fun _ a0 _ => ?_, fun z => Bool.noConfusion z⟩
        refine ⟨_, rfl, a, T.Se.C, dx, _, rfl, ha1, T.Se.cl, T.Se.n_pool, (by show 3 < 1000; decide), ?_⟩
        rw [sF_put]
        refine ⟨(by show 1 ≤ sizeLine; decide), fun r hr => ?_⟩
        have smr := same_upd (o := .lst [V.int (-100)]) hr
        have nia : ∀ z, I z → z ≠ a := fun z i w => (hI z i).2 (.inr w)
        have nsa : ∀ z, S z → z ≠ a := fun z i w => h.na (w ▸ i)
        have k1 : ∀ z o, (S z ∨ I z) → H z = some o → upd H1 a (.ins T.Se.C dx (sF la sm .non)) z = some o := fun z o w e => by
          rcases w with w | w
          · rw [upd_ne (nsa z w)]
            exact f1.keep z o (sh1 z w) e
          · rw [upd_ne (nia z w)]
            exact f1.keep z o (.inr w) e
        have d1 : ∀ z, H z ≠ none → upd H1 a (.ins T.Se.C dx (sF la sm .non)) z ≠ none := fun z e => dom_upd z (f1.dom z e)
        rw [stepC_none e] at q
        refine q _ r ⟨I, la, sm, stp, dx, .non, ?_⟩ ?_ upd_same (dom_none d1 hr)
        · refine SessIn.same (H := upd H1 a (.ins T.Se.C dx (sF la sm .non))) ⟨upd_same, h.na, fun z i => d1 z (h.pr z i), rfl, hs.mono fun z o w e => k1 z o (.inr (by rcases w with rfl | rfl; exact i1; exact i2)) e, i1, i2, fun z i => ⟨d1 z (hI z i).1, (hI z i).2⟩, ?_⟩ smr
          exact L1.priv (fun z o n e => by rw [upd_ne (fun w => n (.inl (.inr w)))]; exact e) fun z n _ => n
        · refine Fr.trans ⟨fun z o i e => k1 z o (.inl i) e, fun z ns n e => ?_, d1⟩ (Fr.of_same smr)
          rw [upd_ne (ne_of e h.obj (by intro z; cases z))]
          exact f1.intl z ns n e
      · rw [stepC_some e] at q
        exact q H1 r ⟨I, la, sm, stp, dx, .ref pa, f1.keep a _ (.inl (.inr rfl)) h.obj, h.na, fun z i => f1.dom z (h.pr z i), pa, rfl, P1⟩ (f1.imp sh1) hr hn
/-! ### answer -/
def spAnswer (T : Txt K mg) : Sp := fun vs H Q _ => ∃ (S L : Addr → Prop), ∃ N a s ca code nums rows, vs = [.ref a, .ref ca] ∧ SessAt T H (fun q => S q ∨ L q) N a s ∧ (∀ q, L q → ¬ S q) ∧ N < 2700000 ∧ (∃ dc na li bs, CallIn T.Ca.C H ca code nums rows dc na li bs ∧ L li ∧ ∀ b ∈ bs, L b) ∧ Form code nums rows ∧
  ∀ H' r, SessAt T H' S (N + 48) a (stepN s code nums rows).1 → Fr S H H' → H' r = some (.lst ((stepN s code nums rows).2.map V.int)) → H r = none → Q (.ref r) H'
theorem paired_mem {R : Addr → List Nat → Prop} {L : Addr → Prop} : ∀ {bs : List Addr} {rows : List (List Nat)}, Paired R bs rows → (∀ b ∈ bs, L b) → Paired (fun b r => R b r ∧ L b) bs rows
  | _, _, .nil, _ => .nil
  | _, _, .cons h t, k => .cons ⟨h, k _ List.mem_cons_self⟩ (paired_mem t fun b hb => k b (List.mem_cons_of_mem _ hb))
theorem pcode {code : Nat} {nums : List Nat} {rows : List (List Nat)} {c : Gv01.Call} (h : PForm code nums rows c) : code ≠ 0 ∧ code ≠ 11 ∧ code ≠ 12 ∧ code ≠ 13 := by
  cases h <;> decide
theorem ne_code {code n : Nat} (h : code ≠ n) : decide (V.int (code : Int) = V.int (n : Int)) = false := decide_eq_false fun z => h (by have := V.int.inj z; omega)
theorem ok_Session_answer (T : Txt K mg) : FnOk P w K mg base CX0 14 T.Se.answer.f T.Se.answer.fd ["self", "call"] (spAnswer T) := by
  refine T.Se.answer.F.ok sc_Session_answer (fun vs H Q E h => ?_) (fun cdv A outer s H vs Q E hr h => ⟨_, (pss_cons
    (ps_if (pt_cmpR op_eq (pe_fld (pv 1) rfl) (pe_gint T.G.c_BEGIN) (nomark _)) (pss_one
    (ps_ret (pe_meth (pv 0) T.Se.cl T.Se.m_begin (ok_Session_begin T) (hr.mono (by decide)) T.Se.begin.b .nil pass0 (pa_cons (pe_ix ix_list (pe_fld (pv 1) rfl) pe_int (fun _ _ => rfl)) (pa_cons (pe_fld (pv 1) rfl) pa_nil))))) pss_nil)
    (pss_cons
    (ps_if (pt_cmpR op_eq (pe_fld (pv 1) rfl) (pe_gint T.G.c_SUM_OF) (nomark _)) (pss_one
    (ps_ret (pe_meth (pv 0) T.Se.cl T.Se.m_sum_of (ok_Session_sum_of T) (hr.mono (by decide)) T.Se.sum_of.b .nil pass0 (pa_cons (pe_ix ix_list (pe_fld (pv 1) rfl) pe_int (fun _ _ => rfl)) (pa_cons (pe_ix ix_list (pe_fld (pv 1) rfl) pe_int (fun _ _ => rfl)) pa_nil))))) pss_nil)
    (pss_cons
    (ps_if (pt_cmpR op_eq (pe_fld (pv 1) rfl) (pe_gint T.G.c_PEEK) (nomark _)) (pss_one
    (ps_ret (pe_meth (pe_fld (pv 0) rfl) T.Li.cl T.Li.m_peek (ok_Line_peek T) (hr.mono (by decide)) T.Li.peek.b .nil pass0 (pa_cons (pe_ix ix_list (pe_fld (pv 1) rfl) pe_int (fun _ _ => rfl)) (pa_cons (pe_ix ix_list (pe_fld (pv 1) rfl) pe_int (fun _ _ => rfl)) pa_nil))))) pss_nil)
    (pss_cons
    (ps_if (pt_cmpR op_eq (pe_fld (pv 1) rfl) (pe_gint T.G.c_ASKS) (nomark _)) (pss_one
    (ps_ret (pe_lst (pa_cons (pe_fld (pe_fld (pv 0) rfl) rfl) pa_nil)))) pss_nil)
    (pss_one
    (ps_ret (pe_meth (pv 0) T.Se.cl T.Se.m_answer_by_pool (ok_Session_answer_by_pool T) (hr.mono (by decide)) T.Se.answer_by_pool.b .nil pass0 (pa_cons (pv 1) pa_nil)))))))), ?_⟩)
  · obtain ⟨S, L, N, a, s, ca, code, nums, rows, rfl, _⟩ := h
    rfl
  · obtain ⟨S, L, N, a, s, ca, code, nums, rows, rfl, hs, hL, lim, ⟨dc, na, li, bs, O, lli, lbs⟩, hf, q⟩ := h
    have hs2 : SessAt T H S N a s := hs.subS fun z e => .inl e
    have dxa : ∃ dx pv la sm, H a = some (.ins T.Se.C dx (sF la sm pv)) := let ⟨_, la, sm, _, dx, pv, h⟩ := hs; ⟨dx, pv, la, sm, h.obj⟩
    obtain ⟨dx, pv, la, sm, ha⟩ := dxa
    cases hf with
    | begin_ n rows hl =>
      rw [stepN_begin] at q
      refine ⟨_, rfl, ca, T.Ca.C, dc, _, _, rfl, O.obj, T.Ca.cl, T.Ca.n_code, cF_code, rfl, _, rfl, if_t (by decide) ?_⟩
      refine ⟨_, rfl, a, dx, _, rfl, ha, sF_no, _, rfl, ca, T.Ca.C, dc, _, _, rfl, O.obj, T.Ca.cl, T.Ca.n_numbers, cF_numbers, na, _, _, _, rfl, rfl, SqL.of O.nums, atI_nat (j := 0) rfl, _, rfl, ca, T.Ca.C, dc, _, _, rfl, O.obj, T.Ca.cl, T.Ca.n_lists, cF_lists, ?_⟩
      refine ⟨S, L, N, a, s, n, li, bs, rows, rfl, hs, hL, O.lists, lli, paired_mem O.rows lbs, hl, fun H' r hS f hr hn => ?_⟩
      by_cases c : Gv01.configOk rows n = true
      · rw [if_pos c] at q hS hr
        exact q H' r (hS.more (by omega)) f hr hn
      · rw [if_neg c] at q hS hr
        exact q H' r (hS.more (by omega)) f hr hn
    | sum k ns h256 hk =>
      rw [stepN_sum s k ns h256 hk] at q
      obtain ⟨b, rfl, hb⟩ : ∃ b, bs = [b] ∧ H b = some (.lst (nvs ns)) := by
        cases O.rows with
        | cons h1 h2 => cases h2; exact ⟨_, rfl, h1⟩
      refine ⟨_, rfl, ca, T.Ca.C, dc, _, _, rfl, O.obj, T.Ca.cl, T.Ca.n_code, cF_code, rfl, _, rfl, if_f (by decide) ?_⟩
      refine ⟨_, rfl, ca, T.Ca.C, dc, _, _, rfl, O.obj, T.Ca.cl, T.Ca.n_code, cF_code, rfl, _, rfl, if_t (by decide) ?_⟩
      refine ⟨_, rfl, a, dx, _, rfl, ha, sF_no, _, rfl, ca, T.Ca.C, dc, _, _, rfl, O.obj, T.Ca.cl, T.Ca.n_numbers, cF_numbers, na, _, _, _, rfl, rfl, SqL.of O.nums, atI_nat (j := 0) rfl, _, rfl, ca, T.Ca.C, dc, _, _, rfl, O.obj, T.Ca.cl, T.Ca.n_lists, cF_lists, li, _, _, .ref b, rfl, rfl, SqL.of O.lists, atI_nat (j := 0) rfl, ?_⟩
      exact ⟨S, N, a, s, k, b, ns, rfl, hs2, hb, h256, fun H' r sm hr hn => q H' r ((hs2.same sm).more (by omega)) (Fr.of_same sm) hr hn⟩
    | peek d k =>
      rw [stepN_peek] at q
      refine ⟨_, rfl, ca, T.Ca.C, dc, _, _, rfl, O.obj, T.Ca.cl, T.Ca.n_code, cF_code, rfl, _, rfl, if_f (by decide) ?_⟩
      refine ⟨_, rfl, ca, T.Ca.C, dc, _, _, rfl, O.obj, T.Ca.cl, T.Ca.n_code, cF_code, rfl, _, rfl, if_f (by decide) ?_⟩
      refine ⟨_, rfl, ca, T.Ca.C, dc, _, _, rfl, O.obj, T.Ca.cl, T.Ca.n_code, cF_code, rfl, _, rfl, if_t (by decide) ?_⟩
      obtain ⟨I, la, sm, stp, dx, pv, h⟩ := hs2
      obtain ⟨_, _, _, hI, hline⟩ := h.facts
      obtain ⟨dl, dv, en, gs, ek, hli⟩ := hline
      refine ⟨_, rfl, a, T.Se.C, dx, _, _, rfl, h.obj, T.Se.cl, T.Se.n_line, sF_line, la, dl, _, rfl, hli.obj, lF_no, _, rfl, ca, T.Ca.C, dc, _, _, rfl, O.obj, T.Ca.cl, T.Ca.n_numbers, cF_numbers, na, _, _, _, rfl, rfl, SqL.of O.nums, atI_nat (j := 0) rfl, _, rfl, ca, T.Ca.C, dc, _, _, rfl, O.obj, T.Ca.cl, T.Ca.n_numbers, cF_numbers, na, _, _, _, rfl, rfl, SqL.of O.nums, atI_nat (j := 1) rfl, ?_⟩
      refine ⟨Sh (And1 S a) I, N, la, s.sim, d, k, rfl, ⟨dl, dv, en, gs, ek, hli⟩, ?_, fun H' r hn sm1 hr => q H' r ((SessAt.same ⟨I, la, sm, stp, dx, pv, h⟩ sm1).more (by omega)) (Fr.of_same sm1) hr hn⟩
      rintro z ((e | e) | e)
      · exact h.pr z e
      · rw [e, h.obj]; simp
      · exact (hI z e).1
    | asks =>
      rw [stepN_asks] at q
      refine ⟨_, rfl, ca, T.Ca.C, dc, _, _, rfl, O.obj, T.Ca.cl, T.Ca.n_code, cF_code, rfl, _, rfl, if_f (by decide) ?_⟩
      refine ⟨_, rfl, ca, T.Ca.C, dc, _, _, rfl, O.obj, T.Ca.cl, T.Ca.n_code, cF_code, rfl, _, rfl, if_f (by decide) ?_⟩
      refine ⟨_, rfl, ca, T.Ca.C, dc, _, _, rfl, O.obj, T.Ca.cl, T.Ca.n_code, cF_code, rfl, _, rfl, if_f (by decide) ?_⟩
      refine ⟨_, rfl, ca, T.Ca.C, dc, _, _, rfl, O.obj, T.Ca.cl, T.Ca.n_code, cF_code, rfl, _, rfl, if_t (by decide) ?_⟩
      obtain ⟨I, la, sm, stp, dx, pv, h⟩ := hs2
      obtain ⟨_, _, _, hI, hline⟩ := h.facts
      obtain ⟨dl, dv, en, gs, ek, hli⟩ := hline
      refine ⟨_, rfl, a, T.Se.C, dx, _, _, rfl, h.obj, T.Se.cl, T.Se.n_line, sF_line, la, T.Li.C, dl, _, _, rfl, hli.obj, T.Li.cl, T.Li.n_ask_count, lF_asks, (by show 1 ≤ sizeLine; decide), fun r hr => ?_⟩
      exact q _ r ((SessAt.same ⟨I, la, sm, stp, dx, pv, h⟩ (same_upd hr)).more (by omega)) (Fr.of_same (same_upd hr)) upd_same hr
    | pool hpf =>
      obtain ⟨n0, n11, n12, n13⟩ := pcode hpf
      rw [stepN_pool hpf] at q
      refine ⟨_, rfl, ca, T.Ca.C, dc, _, _, rfl, O.obj, T.Ca.cl, T.Ca.n_code, cF_code, rfl, _, rfl, if_f (ne_code n0) ?_⟩
      refine ⟨_, rfl, ca, T.Ca.C, dc, _, _, rfl, O.obj, T.Ca.cl, T.Ca.n_code, cF_code, rfl, _, rfl, if_f (ne_code n11) ?_⟩
      refine ⟨_, rfl, ca, T.Ca.C, dc, _, _, rfl, O.obj, T.Ca.cl, T.Ca.n_code, cF_code, rfl, _, rfl, if_f (ne_code n12) ?_⟩
      refine ⟨_, rfl, ca, T.Ca.C, dc, _, _, rfl, O.obj, T.Ca.cl, T.Ca.n_code, cF_code, rfl, _, rfl, if_f (ne_code n13) ?_⟩
      refine ⟨_, rfl, a, dx, _, rfl, ha, sF_no, _, rfl, ?_⟩
      exact ⟨S, N, a, s, ca, _, _, _, _, rfl, hs2, lim, ⟨dc, na, li, bs, O⟩, hpf, q⟩
end
end Mp
namespace Mp
open PySem PySem.Spec PyProof.Rows L2
/-! ### the layout, by natural numbers -/
def rowN : List Nat → Option (List Nat × List Nat)
  | [] => none
  | n :: r => if n ≤ r.length then some (r.take n, r.drop n) else none
def rowsN : Nat → List Nat → Option (List (List Nat) × List Nat)
  | 0, r => some ([], r)
  | k + 1, r => match rowN r with
    | none => none
    | some (x, s) => match rowsN k s with
      | none => none
      | some (xs, t) => some (x :: xs, t)
structure CN where
  code : Nat
  nums : List Nat
  rows : List (List Nat)
def callN : List Nat → Option (CN × List Nat)
  | [] => none
  | p :: r => match rowN r with
    | none => none
    | some (_, []) => none
    | some (nums, k :: t) => match rowsN k t with
      | none => none
      | some (xs, u) => some (⟨p, nums, xs⟩, u)
theorem rowN_inv {l x s : List Nat} (h : rowN l = some (x, s)) : ∃ n r, l = n :: r ∧ n ≤ r.length ∧ x = r.take n ∧ s = r.drop n := by
  cases l with
  | nil => cases h
  | cons n r =>
    unfold rowN at h
    dsimp only at h
    by_cases c : n ≤ r.length
    · rw [if_pos c] at h
      cases h
      exact ⟨n, r, rfl, c, rfl, rfl⟩
    · rw [if_neg c] at h
      cases h
theorem rowsN_succ {k : Nat} {r : List Nat} {xs : List (List Nat)} {u : List Nat} (h : rowsN (k + 1) r = some (xs, u)) : ∃ x s ys, rowN r = some (x, s) ∧ rowsN k s = some (ys, u) ∧ xs = x :: ys := by
  unfold rowsN at h
  cases h1 : rowN r with
  | none => rw [h1] at h; cases h
  | some q =>
    obtain ⟨x, s⟩ := q
    rw [h1] at h
    dsimp only at h
    cases h2 : rowsN k s with
    | none => rw [h2] at h; cases h
    | some q2 =>
      obtain ⟨ys, t⟩ := q2
      rw [h2] at h
      dsimp only at h
      cases h
      exact ⟨x, s, ys, rfl, h2, rfl⟩
theorem rowsN_len : ∀ {k : Nat} {r : List Nat} {xs : List (List Nat)} {u : List Nat}, rowsN k r = some (xs, u) → xs.length = k ∧ k ≤ r.length
  | 0, r, xs, u, h => by
    cases h
    exact ⟨rfl, Nat.zero_le _⟩
  | k + 1, r, xs, u, h => by
    obtain ⟨x, s, ys, h1, h2, rfl⟩ := rowsN_succ h
    obtain ⟨n, r', rfl, hn, rfl, rfl⟩ := rowN_inv h1
    obtain ⟨e1, e2⟩ := rowsN_len h2
    rw [List.length_drop] at e2
    exact ⟨by rw [List.length_cons, e1], by rw [List.length_cons]; omega⟩
theorem drop_next {ns : List Nat} {i n : Nat} {r : List Nat} (h : ns.drop i = n :: r) : ns.drop (i + 1) = r ∧ ns[i]? = some n ∧ i < ns.length := by
  have hl : i < ns.length := by
    have : (ns.drop i).length = (n :: r).length := by rw [h]
    rw [List.length_drop, List.length_cons] at this
    omega
  rw [List.drop_eq_getElem_cons hl] at h
  injection h with h1 h2
  exact ⟨h2, by rw [List.getElem?_eq_getElem hl, h1], hl⟩
theorem sql_keep {K : PySem.W.Frag} {H H' : Hp} {row ra C dx : Addr} {fs : List (Str × V)} {xs : List V} (h : SqL K H row xs) (hr : H ra = some (.ins C dx fs)) (k : ∀ q o, H q = some o → q ≠ ra → H' q = some o) : SqL K H' row xs := by
  rcases h with (h | ⟨o, h⟩) | h
  · exact .inl (.inl (k _ _ h (ne_of h hr (by intro z; cases z))))
  · exact .inl (.inr ⟨o, k _ _ h (ne_of h hr (by intro z; cases z))⟩)
  · exact .inr h
def rF (row : Addr) (i : Nat) : List (Str × V) := [("row", .ref row), ("at", nv i)]
section
variable {row : Addr} {i : Nat}
theorem rF_no {m : Str} (h : (["row", "at"] : List Str).contains m = false := by decide +kernel) : (rF row i).lookup m = none := look_no h
theorem rF_row : List.lookup ("row" : Str) (rF row i) = some (.ref row) := lk_here
theorem rF_at : List.lookup ("at" : Str) (rF row i) = some (nv i) := (lk_past (by decide +kernel)).trans lk_here
theorem rF_put {j : Nat} : putF "at" (nv j) (rF row i) = rF row j := (put_past (by decide +kernel)).trans (congrArg _ put_here)
end
def RdIn {K : PySem.W.Frag} {mg : Str → Option Value} (T : Txt K mg) (H : Hp) (ra row dx : Addr) (i : Nat) : Prop := H ra = some (.ins T.Re.C dx (rF row i))
def RFr (ra : Addr) (H H' : Hp) : Prop := ∀ q o, H q = some o → q ≠ ra → H' q = some o
theorem RFr.trans {ra : Addr} {H H1 H2 : Hp} (a : RFr ra H H1) (b : RFr ra H1 H2) : RFr ra H H2 := fun q o e n => b q o (a q o e n) n
theorem RFr.same {ra : Addr} {H H' : Hp} (k : Same H H') : RFr ra H H' := fun q o e _ => k q o e
theorem RFr.none {ra : Addr} {H H' : Hp} {o : HO} (a : RFr ra H H') (hr : H' ra = some o) {q : Addr} (e : H' q = none) : H q = none := by
  cases z : H q with
  | none => rfl
  | some u =>
    have n : q ≠ ra := fun w => by rw [w, hr] at e; cases e
    rw [a q u z n] at e
    cases e
section
variable {P : Program} {w : World} {K : PySem.W.Frag} {mg : Str → Option Value} {base : Heap}
/-! ### Call and Reader made -/
def spCallInit (CC : Addr) : Sp := fun vs H Q _ => ∃ p dx x y z, vs = [.ref p, x, y, z] ∧ H p = some (.ins CC dx []) ∧ ∀ H', H' p = some (.ins CC dx [("code", x), ("numbers", y), ("lists", z)]) → (∀ q o, H q = some o → q ≠ p → H' q = some o) → Q .non H'
theorem ok_Call_init (T : Txt K mg) : FnOk P w K mg base CX0 1 T.Ca.init.f T.Ca.init.fd ["self", "code", "numbers", "lists"] (spCallInit T.Ca.C) := by
  refine T.Ca.init.F.ok sc_Call_init (fun vs H Q E h => ?_) (fun cdv A outer s H vs Q E hr h => ⟨_, (pss_cons
    (ps_fld (pv 0) (pv 1) rfl)
    (pss_cons
    (ps_fld (pv 0) (pv 2) rfl)
    (pss_one
    (ps_fld (pv 0) (pv 3) rfl)))), ?_⟩)
  · obtain ⟨p, dx, x, y, z, rfl, _⟩ := h
    rfl
  · obtain ⟨p, dx, x, y, z, rfl, hp, q⟩ := h
    refine ⟨_, rfl, _, rfl, p, T.Ca.C, dx, [], rfl, hp, T.Ca.cl, T.Ca.n_code, (by show 0 < 1000; decide), ?_⟩
    refine ⟨_, rfl, _, rfl, p, T.Ca.C, dx, _, rfl, upd_same, T.Ca.cl, T.Ca.n_numbers, (by show 1 < 1000; decide), ?_⟩
    refine ⟨_, rfl, _, rfl, p, T.Ca.C, dx, _, rfl, upd_same, T.Ca.cl, T.Ca.n_lists, (by show 2 < 1000; decide), ?_⟩
    exact q _ (by rw [upd_same]; rfl) fun b o e n => by rw [upd_ne n, upd_ne n, upd_ne n]; exact e
def spReaderInit (CR : Addr) : Sp := fun vs H Q _ => ∃ p dx row, vs = [.ref p, .ref row] ∧ H p = some (.ins CR dx []) ∧ ∀ H', H' p = some (.ins CR dx (rF row 0)) → (∀ q o, H q = some o → q ≠ p → H' q = some o) → Q .non H'
theorem ok_Reader_init (T : Txt K mg) : FnOk P w K mg base CX0 1 T.Re.init.f T.Re.init.fd ["self", "row"] (spReaderInit T.Re.C) := by
  refine T.Re.init.F.ok sc_Reader_init (fun vs H Q E h => ?_) (fun cdv A outer s H vs Q E hr h => ⟨_, (pss_cons
    (ps_fld (pv 0) (pv 1) rfl)
    (pss_one
    (ps_fld (pv 0) pe_int rfl))), ?_⟩)
  · obtain ⟨p, dx, row, rfl, _⟩ := h
    rfl
  · obtain ⟨p, dx, row, rfl, hp, q⟩ := h
    refine ⟨_, rfl, _, rfl, p, T.Re.C, dx, [], rfl, hp, T.Re.cl, T.Re.n_row, (by show 0 < 1000; decide), ?_⟩
    refine ⟨_, rfl, p, T.Re.C, dx, _, rfl, upd_same, T.Re.cl, T.Re.n_at, (by show 1 < 1000; decide), ?_⟩
    exact q _ (by rw [upd_same]; rfl) fun b o e n => by rw [upd_ne n, upd_ne n]; exact e
/-! ### the reader's methods -/
def spHasMore (T : Txt K mg) : Sp := fun vs H Q _ => ∃ ra row dx ns, ∃ i : Nat, vs = [.ref ra] ∧ RdIn T H ra row dx i ∧ SqL K H row (nvs ns) ∧ Q (.bl (decide (i < ns.length))) H
theorem ok_Reader_has_more (T : Txt K mg) : FnOk P w K mg base CX0 1 T.Re.has_more.f T.Re.has_more.fd ["self"] (spHasMore T) := by
  refine T.Re.has_more.F.ok sc_Reader_has_more (fun vs H Q E h => ?_) (fun cdv A outer s H vs Q E hr h => ⟨_, (pss_one
    (ps_ret (pe_cmpR op_lt (pe_fld (pv 0) rfl) (pe_callB call_len_seq (by rfl) T.G.n_len PySem.boot_len (pa_cons (pe_fld (pv 0) rfl) pa_nil)) (nomark _)))), ?_⟩)
  · obtain ⟨ra, row, dx, ns, i, rfl, _⟩ := h
    rfl
  · obtain ⟨ra, row, dx, ns, i, rfl, hr, hq, q⟩ := h
    refine ⟨_, rfl, ra, T.Re.C, dx, _, _, rfl, hr, T.Re.cl, T.Re.n_at, rF_at, _, rfl, ra, T.Re.C, dx, _, _, rfl, hr, T.Re.cl, T.Re.n_row, rF_row, row, _, rfl, .inl hq, _, _, rfl, rfl, ?_⟩
    have e : decide ((i : Int) < ((nvs ns).length : Int)) = decide (i < ns.length) := by
      rw [nvs_len]
      exact decide_eq_decide.mpr (by omega)
    show Q (.bl (decide ((i : Int) < ((nvs ns).length : Int)))) H
    rw [e]
    exact q
def spTakeNumber (T : Txt K mg) : Sp := fun vs H Q _ => ∃ ra row dx ns, ∃ i n : Nat, ∃ r, vs = [.ref ra] ∧ RdIn T H ra row dx i ∧ SqL K H row (nvs ns) ∧ ns.drop i = n :: r ∧ ∀ H', RdIn T H' ra row dx (i + 1) → RFr ra H H' → Q (nv n) H'
theorem ok_Reader_take_number (T : Txt K mg) : FnOk P w K mg base CX0 1 T.Re.take_number.f T.Re.take_number.fd ["self"] (spTakeNumber T) := by
  refine T.Re.take_number.F.ok sc_Reader_take_number (fun vs H Q E h => ?_) (fun cdv A outer s H vs Q E hr h => ⟨_, (pss_cons
    (ps_fldaug (pv 0) pe_int in_add)
    (pss_one
    (ps_ret (pe_ix ix_list (pe_fld (pv 0) rfl) (pe_op op_sub (pe_fld (pv 0) rfl) pe_int) (fun _ _ => rfl))))), ?_⟩)
  · obtain ⟨ra, row, dx, ns, i, n, r, rfl, _⟩ := h
    rfl
  · obtain ⟨ra, row, dx, ns, i, n, r, rfl, hr, hq, hd, q⟩ := h
    obtain ⟨_, hn, _⟩ := drop_next hd
    refine ⟨_, rfl, ra, T.Re.C, dx, _, _, rfl, hr, T.Re.cl, T.Re.n_at, rF_at, _, _, rfl, rfl, dx, _, hr, (by show 2 < 1000; decide), ?_⟩
    have ei : ((i : Int) + 1) = ((i + 1 : Nat) : Int) := by omega
    rw [ei, show putF "at" (V.int ((i + 1 : Nat) : Int)) (rF row i) = rF row (i + 1) from rF_put]
    have fr : RFr ra H (upd H ra (.ins T.Re.C dx (rF row (i + 1)))) := fun z o e n => by rw [upd_ne n]; exact e
    refine ⟨_, rfl, ra, T.Re.C, dx, _, _, rfl, upd_same, T.Re.cl, T.Re.n_row, rF_row, _, rfl, ra, T.Re.C, dx, _, _, rfl, upd_same, T.Re.cl, T.Re.n_at, rF_at, _, _, rfl, rfl, row, _, _, nv n, rfl, rfl, sql_keep hq hr fr, ?_, q _ upd_same fr⟩
    have e2 : (((i + 1 : Nat) : Int) - 1) = ((i : Nat) : Int) := by omega
    rw [e2]
    refine atI_nat ?_
    show (List.map nv ns)[i]? = _
    rw [List.getElem?_map, hn]
    rfl
def spTakeNumbers (T : Txt K mg) : Sp := fun vs H Q _ => ∃ ra row dx ns, ∃ i n : Nat, ∃ r, vs = [.ref ra] ∧ RdIn T H ra row dx i ∧ SqL K H row (nvs ns) ∧ ns.drop i = n :: r ∧ n ≤ r.length ∧ ∀ H' p, H p = none → RdIn T H' ra row dx (i + 1 + n) → RFr ra H H' → H' p = some (.lst (nvs (r.take n))) → Q (.ref p) H'
theorem ok_Reader_take_numbers (T : Txt K mg) : FnOk P w K mg base CX0 2 T.Re.take_numbers.f T.Re.take_numbers.fd ["self"] (spTakeNumbers T) := by
  refine T.Re.take_numbers.F.ok sc_Reader_take_numbers (fun vs H Q E h => ?_) (fun cdv A outer s H vs Q E hr h => ⟨_, (pss_cons
    (ps_set (i := 1) sc_Reader_take_numbers.nd rfl (Or.inl rfl) (pe_meth0 (pv 0) T.Re.cl T.Re.m_take_number (ok_Reader_take_number T) (hr.mono (by decide)) T.Re.take_number.b .nil pass0))
    (pss_cons
    (ps_set (i := 2) sc_Reader_take_numbers.nd rfl (Or.inl rfl) (pe_fld (pv 0) rfl))
    (pss_cons
    (ps_fldaug (pv 0) (pv 1) in_add)
    (pss_one
    (ps_ret (pe_slice sl_list (pe_fld (pv 0) rfl) (po_some (pv 2)) (po_some (pe_fld (pv 0) rfl)))))))), ?_⟩)
  · obtain ⟨ra, row, dx, ns, i, n, r, rfl, _⟩ := h
    rfl
  · obtain ⟨ra, row, dx, ns, i, n, r, rfl, hr, hq, hd, hn, q⟩ := h
    obtain ⟨hd1, _, hlt⟩ := drop_next hd
    refine ⟨_, rfl, ra, dx, _, rfl, hr, rF_no, ?_⟩
    refine ⟨ra, row, dx, ns, i, n, r, rfl, hr, hq, hd, fun H1 hr1 fr1 => ?_⟩
    have hq1 := sql_keep hq hr fr1
    refine ⟨_, rfl, ra, T.Re.C, dx, _, _, rfl, hr1, T.Re.cl, T.Re.n_at, rF_at, ?_⟩
    refine ⟨_, rfl, ra, T.Re.C, dx, _, _, rfl, hr1, T.Re.cl, T.Re.n_at, rF_at, _, rfl, _, _, rfl, rfl, dx, _, hr1, (by show 2 < 1000; decide), ?_⟩
    have ei : (((i + 1 : Nat) : Int) + (n : Int)) = ((i + 1 + n : Nat) : Int) := by omega
    rw [ei, show putF "at" (V.int ((i + 1 + n : Nat) : Int)) (rF row (i + 1)) = rF row (i + 1 + n) from rF_put]
    have fr2 : RFr ra H1 (upd H1 ra (.ins T.Re.C dx (rF row (i + 1 + n)))) := fun z o e n => by rw [upd_ne n]; exact e
    have fr := fr1.trans fr2
    refine ⟨_, rfl, ra, T.Re.C, dx, _, _, rfl, upd_same, T.Re.cl, T.Re.n_row, rF_row, _, rfl, _, rfl, _, rfl, ra, T.Re.C, dx, _, _, rfl, upd_same, T.Re.cl, T.Re.n_at, rF_at, _, rfl, row, _, rfl, sql_keep hq hr fr, fun p hp => ?_⟩
    have rl : r.length = ns.length - (i + 1) := by rw [← hd1, List.length_drop]
    have ec : cutV (nvs ns) (some ((i + 1 : Nat) : Int)) (some ((i + 1 + n : Nat) : Int)) = nvs (r.take n) := by
      rw [cut_mid _ _ _ (by omega) (by rw [nvs_len]; omega), show i + 1 + n - (i + 1) = n by omega]
      show ((List.map nv ns).drop (i + 1)).take n = List.map nv (r.take n)
      rw [← List.map_drop, hd1, List.map_take]
    rw [ec]
    have np : ra ≠ p := ne_of_none upd_same hp
    exact q _ p (fr.none (o := .ins T.Re.C dx (rF row (i + 1 + n))) upd_same hp) (by show upd _ _ _ ra = _; rw [upd_ne np]; exact upd_same) (fr.trans (RFr.same (same_upd hp))) upd_same
def spTakeLists (T : Txt K mg) : Sp := fun vs H Q _ => ∃ ra row dx ns, ∃ i k : Nat, ∃ r xs u, vs = [.ref ra] ∧ RdIn T H ra row dx i ∧ SqL K H row (nvs ns) ∧ ns.drop i = k :: r ∧ rowsN k r = some (xs, u) ∧ ns.length ≤ 16000 ∧
  ∀ H' p bs j, H p = none → RdIn T H' ra row dx j → ns.drop j = u → j ≤ ns.length → RFr ra H H' → H' p = some (.lst (bs.map V.ref)) → Paired (fun b x => H' b = some (.lst (nvs x)) ∧ H b = none) bs xs → Q (.ref p) H'
theorem ok_Reader_take_lists (T : Txt K mg) : FnOk P w K mg base CX0 3 T.Re.take_lists.f T.Re.take_lists.fd ["self"] (spTakeLists T) := by
  refine T.Re.take_lists.F.ok sc_Reader_take_lists (fun vs H Q E h => ?_) (fun cdv A outer s H vs Q E hr h => ⟨_, (pss_cons
    (ps_set (i := 1) sc_Reader_take_lists.nd rfl (Or.inl rfl) (pe_meth0 (pv 0) T.Re.cl T.Re.m_take_number (ok_Reader_take_number T) (hr.mono (by decide)) T.Re.take_number.b .nil pass0))
    (pss_one
    (ps_ret (pe_lc (own := [("i", 2)]) (g := gName 2) (tt := tYes) (by rfl) sc_Reader_take_lists.nd (pi_range1 rfl T.G.n_range (pa_cons (pv 1) pa_nil)) (blkOk_by (own := [("i", 2)]) (N := ["self", "count", "i"]) (sc := defScope st_Reader_take_lists) (by decide +kernel)) (fun _ _ _ _ _ => pg_name (i := 2) sc_Reader_take_lists.nd rfl (Or.inl rfl)) (fun _ _ _ _ _ => pts_nil) (fun _ _ _ _ _ => (pe_meth0 (pv 0) T.Re.cl T.Re.m_take_numbers (ok_Reader_take_numbers T) (hr.mono (by decide)) T.Re.take_numbers.b .nil pass0)))))), ?_⟩)
  · obtain ⟨ra, row, dx, ns, i, k, r, xs, u, rfl, _⟩ := h
    rfl
  · obtain ⟨ra, row, dx, ns, i, k, r, xs, u, rfl, hr, hq, hd, hx, hl, q⟩ := h
    obtain ⟨hd1, _, hlt⟩ := drop_next hd
    obtain ⟨xl, kl⟩ := rowsN_len hx
    have rl : r.length = ns.length - (i + 1) := by rw [← hd1, List.length_drop]
    refine ⟨_, rfl, ra, dx, _, rfl, hr, rF_no, ?_⟩
    refine ⟨ra, row, dx, ns, i, k, r, rfl, hr, hq, hd, fun H1 hr1 fr1 => ?_⟩
    refine ⟨_, rfl, k, rfl, by omega, by omega, fun D hD => ?_⟩
    have hq1 := sql_keep hq hr fr1
    have hD0 := fr1.none hr1 hD
    have nD : ra ≠ D := ne_of_none hr1 hD
    rw [Int.toNat_natCast]
    refine lc_range (lo := 0) (n := k) (fun m H' => ∃ j bs, RdIn T H' ra row dx j ∧ j ≤ ns.length ∧ RFr ra H1 H' ∧ H' D = some (.lst (bs.map V.ref)) ∧ Paired (fun b x => H' b = some (.lst (nvs x)) ∧ H1 b = none ∧ b ≠ D) bs (xs.take m) ∧ rowsN (k - m) (ns.drop j) = some (xs.drop m, u))
      ⟨i + 1, [], by show upd _ _ _ ra = _; rw [upd_ne nD]; exact hr1, by omega, RFr.same (same_upd hD), upd_same, .nil, by rw [hd1]; exact hx⟩ ?_ ?_
    · rintro m H2 hm ⟨j, bs, hr2, hj, fr2, hD2, pw, hrest⟩
      have ek : k - m = (k - (m + 1)) + 1 := by omega
      rw [ek] at hrest
      obtain ⟨x, s', ys, h1, h2, h3⟩ := rowsN_succ hrest
      obtain ⟨n, r', e1, e2, rfl, rfl⟩ := rowN_inv h1
      have hxm : xs[m]? = some (r'.take n) := by
        have := congrArg (fun l => l[0]?) h3
        simp only [List.getElem?_drop, Nat.add_zero, List.getElem?_cons_zero] at this
        exact this
      have hxd : xs.drop (m + 1) = ys := by
        have := congrArg List.tail h3
        rw [List.tail_drop] at this
        exact this
      obtain ⟨f1, _, f3⟩ := drop_next e1
      have bl : bs.length ≤ k := by
        rw [pw.length, List.length_take]
        omega
      refine ⟨rfl, _, rfl, ra, dx, _, rfl, hr2, rF_no, ?_⟩
      refine ⟨ra, row, dx, ns, j, n, r', rfl, hr2, sql_keep hq1 hr1 fr2, e1, e2, fun H3 p hp hr3 fr3 hp3 => ?_⟩
      have hD3 := fr3 D _ hD2 nD.symm
      have npD : p ≠ D := (ne_of_none hD2 hp).symm
      have lr' : r'.length = ns.length - (j + 1) := by rw [← f1, List.length_drop]
      refine ⟨_, hD3, line_lt (by rw [List.length_map]; omega), j + 1 + n, bs ++ [p], ?_, by omega, ?_, ?_, ?_, ?_⟩
      · show upd _ _ _ ra = _
        rw [upd_ne nD]
        exact hr3
      · exact fun z o e nz => by
          rw [upd_ne (ne_of_none e hD)]
          exact fr3 z o (fr2 z o e nz) nz
      · rw [upd_same, List.map_append]
        rfl
      · rw [take_snoc hxm]
        refine Paired.snoc (paired_imp (fun b x z => ⟨?_, z.2.1, z.2.2⟩) pw) ⟨by rw [upd_ne npD]; exact hp3, fr2.none hr2 hp, npD⟩
        rw [upd_ne z.2.2]
        refine fr3 b _ z.1 fun w => ?_
        have h4 := z.1
        rw [w] at h4
        have h5 : H2 ra = some (.ins T.Re.C dx (rF row j)) := hr2
        rw [h5] at h4
        cases h4
      · rw [hxd, ← List.drop_drop, f1]
        exact h2
    · rintro H2 ⟨j, bs, hr2, hj, fr2, hD2, pw, hrest⟩
      rw [Nat.sub_self] at hrest
      have eu : ns.drop j = u := by
        have h6 : some (([] : List (List Nat)), ns.drop j) = some (xs.drop k, u) := hrest
        injection h6 with h6
        injection h6
      rw [List.take_of_length_le (by omega)] at pw
      exact q H2 D bs j hD0 hr2 eu hj (fr1.trans fr2) hD2 (paired_imp (fun b x z => ⟨z.1, fr1.none hr1 z.2.1⟩) pw)
def spTakeCall (T : Txt K mg) : Sp := fun vs H Q _ => ∃ ra row dx ns, ∃ i : Nat, ∃ c u, vs = [.ref ra] ∧ RdIn T H ra row dx i ∧ SqL K H row (nvs ns) ∧ callN (ns.drop i) = some (c, u) ∧ ns.length ≤ 16000 ∧
  ∀ H' ca dc na li bs j, CallIn T.Ca.C H' ca c.code c.nums c.rows dc na li bs → H li = none → (∀ b ∈ bs, H b = none) → RdIn T H' ra row dx j → ns.drop j = u → j ≤ ns.length → RFr ra H H' → Q (.ref ca) H'
theorem ok_Reader_take_call (T : Txt K mg) : FnOk P w K mg base CX0 4 T.Re.take_call.f T.Re.take_call.fd ["self"] (spTakeCall T) := by
  refine T.Re.take_call.F.ok sc_Reader_take_call (fun vs H Q E h => ?_) (fun cdv A outer s H vs Q E hr h => ⟨_, (pss_cons
    (ps_set (i := 1) sc_Reader_take_call.nd rfl (Or.inl rfl) (pe_meth0 (pv 0) T.Re.cl T.Re.m_take_number (ok_Reader_take_number T) (hr.mono (by decide)) T.Re.take_number.b .nil pass0))
    (pss_cons
    (ps_set (i := 2) sc_Reader_take_call.nd rfl (Or.inl rfl) (pe_meth0 (pv 0) T.Re.cl T.Re.m_take_numbers (ok_Reader_take_numbers T) (hr.mono (by decide)) T.Re.take_numbers.b .nil pass0))
    (pss_one
    (ps_ret (pe_make T.Ca.mak (ok_Call_init T) (hr.mono (by decide)) rfl T.Ca.g T.Ca.init.b .nil pass0 (pa_cons (pv 1) (pa_cons (pv 2) (pa_cons (pe_meth0 (pv 0) T.Re.cl T.Re.m_take_lists (ok_Reader_take_lists T) (hr.mono (by decide)) T.Re.take_lists.b .nil pass0) pa_nil)))))))), ?_⟩)
  · obtain ⟨ra, row, dx, ns, i, c, u, rfl, _⟩ := h
    rfl
  · obtain ⟨ra, row, dx, ns, i, c, u, rfl, hr, hq, hc, hl, q⟩ := h
    obtain ⟨p, r, e1⟩ : ∃ p r, ns.drop i = p :: r := by
      cases e : ns.drop i with
      | nil => rw [e] at hc; cases hc
      | cons p r => exact ⟨p, r, rfl⟩
    rw [e1] at hc
    unfold callN at hc
    dsimp only at hc
    cases h1 : rowN r with
    | none => rw [h1] at hc; cases hc
    | some x =>
      obtain ⟨nums, s'⟩ := x
      rw [h1] at hc
      cases s' with
      | nil => cases hc
      | cons k t =>
        dsimp only at hc
        cases h2 : rowsN k t with
        | none => rw [h2] at hc; cases hc
        | some y =>
          obtain ⟨xs, u'⟩ := y
          rw [h2] at hc
          dsimp only at hc
          cases hc
          obtain ⟨n, r', rfl, hn, rfl, es⟩ := rowN_inv h1
          obtain ⟨f1, _, f3⟩ := drop_next e1
          obtain ⟨g1, _, g3⟩ := drop_next f1
          refine ⟨_, rfl, ra, dx, _, rfl, hr, rF_no, ?_⟩
          refine ⟨ra, row, dx, ns, i, p, _, rfl, hr, hq, e1, fun H1 hr1 fr1 => ?_⟩
          have hq1 := sql_keep hq hr fr1
          refine ⟨_, rfl, ra, dx, _, rfl, hr1, rF_no, ?_⟩
          refine ⟨ra, row, dx, ns, i + 1, n, r', rfl, hr1, hq1, f1, hn, fun H2 na hna hr2 fr2 hna2 => ?_⟩
          have hq2 := sql_keep hq1 hr1 fr2
          have e3 : ns.drop (i + 1 + 1 + n) = k :: t := by
            rw [← List.drop_drop, g1]
            exact es.symm
          refine ⟨_, rfl, _, rfl, _, rfl, ra, dx, _, rfl, hr2, rF_no, ?_⟩
          refine ⟨ra, row, dx, ns, i + 1 + 1 + n, k, t, xs, _, rfl, hr2, hq2, e3, h2, hl, fun H3 li bs j hli hr3 hj1 hj2 fr3 hli3 pw => ?_⟩
          intro ca dc nca ndc ne
          refine ⟨ca, dc, _, _, _, rfl, upd_same, fun H4 hca4 kp => ⟨rfl, ?_⟩⟩
          have k4 : ∀ z o, H3 z = some o → H4 z = some o := fun z o e => kp z o (by rw [upd_ne (ne_of_none e nca), upd_ne (ne_of_none e ndc)]; exact e) (ne_of_none e nca)
          have naR : na ≠ ra := (ne_of_none hr1 hna).symm
          have fr12 := fr1.trans fr2
          exact q H4 ca dc na li bs j ⟨hca4, k4 _ _ (fr3 na _ hna2 naR), k4 _ _ hli3, paired_imp (fun b x z => k4 _ _ z.1) pw⟩ (fr12.none hr2 hli) (fun b hb => by
              obtain ⟨m, hm⟩ := List.getElem?_of_mem hb
              obtain ⟨x, _, z⟩ := paired_get pw hm
              exact fr12.none hr2 z.2) (k4 _ _ hr3) hj1 hj2 (fr12.trans (fr3.trans (RFr.same k4)))
end
end Mp
namespace Mp
open PySem PySem.Spec PyProof.Rows L2
open Gv01 (Pool)
/-! ### the line of calls, by the specification -/
theorem zs_cons (n : Nat) (l : List Nat) : zs (n :: l) = (n : Int) :: zs l := rfl
theorem zs_len (l : List Nat) : (zs l).length = l.length := List.length_map ..
theorem zs_take (l : List Nat) (n : Nat) : (zs l).take n = zs (l.take n) := List.map_take.symm
theorem zs_drop (l : List Nat) (n : Nat) : (zs l).drop n = zs (l.drop n) := List.map_drop.symm
def cZ (c : CN) : List (List Int) := cOf c.code c.nums c.rows
theorem pyrow (l : List Nat) : PyFlat.row (zs l) = (rowN l).map fun x => (zs x.1, zs x.2) := by
  cases l with
  | nil => rfl
  | cons n r =>
    show (if (0 : Int) ≤ (n : Int) ∧ (n : Int).toNat ≤ (zs r).length then some ((zs r).take (n : Int).toNat, (zs r).drop (n : Int).toNat) else none) = Option.map _ (if n ≤ r.length then some (r.take n, r.drop n) else none)
    rw [Int.toNat_natCast, zs_len, zs_take, zs_drop]
    by_cases c : n ≤ r.length
    · rw [if_pos ⟨by omega, c⟩, if_pos c]
      rfl
    · rw [if_neg (fun z => c z.2), if_neg c]
      rfl
theorem pyrows : ∀ (k : Nat) (l : List Nat), PyFlat.rows k (zs l) = (rowsN k l).map fun x => (x.1.map zs, zs x.2)
  | 0, l => rfl
  | k + 1, l => by
    unfold PyFlat.rows rowsN
    rw [pyrow]
    cases h : rowN l with
    | none => rfl
    | some x =>
      obtain ⟨x, s⟩ := x
      show (match PyFlat.rows k (zs s) with | none => none | some (xs, t) => some (zs x :: xs, t)) = _
      rw [pyrows k s]
      dsimp only
      cases h2 : rowsN k s with
      | none => rfl
      | some y => rfl
theorem pycall (l : List Nat) : PyWide.call (zs l) = (callN l).map fun x => (cZ x.1, zs x.2) := by
  cases l with
  | nil => rfl
  | cons p r =>
    unfold callN
    show (match PyFlat.row (zs r) with
      | none => none
      | some (_, []) => none
      | some (ns, k :: t) => if 0 ≤ k then (match PyFlat.rows k.toNat t with
        | none => none
        | some (xs, u) => some (((p : Int) :: ns) :: xs, u)) else none) = _
    rw [pyrow]
    dsimp only
    cases h : rowN r with
    | none => rfl
    | some x =>
      obtain ⟨nums, s⟩ := x
      cases s with
      | nil => rfl
      | cons k t =>
        show (if (0 : Int) ≤ (k : Int) then (match PyFlat.rows (k : Int).toNat (zs t) with
          | none => none
          | some (xs, u) => some (((p : Int) :: zs nums) :: xs, u)) else none) = _
        rw [if_pos (by omega), Int.toNat_natCast, pyrows]
        dsimp only
        cases h2 : rowsN k t with
        | none => rfl
        | some y => rfl
inductive Parses : List Nat → List CN → Prop
  | nil : Parses [] []
  | cons {l t : List Nat} {c : CN} {cs : List CN} (h : callN l = some (c, t)) (r : Parses t cs) : Parses l (c :: cs)
theorem pycalls : ∀ (f : Nat) (l : List Nat) (cz : List (List (List Int))), PyWide.calls f (zs l) = some cz → ∃ cs, cz = cs.map cZ ∧ Parses l cs
  | f, [], cz, h => by
    have h2 : PyWide.calls f [] = some cz := h
    unfold PyWide.calls at h2
    cases h2
    exact ⟨[], rfl, .nil⟩
  | 0, p :: r, cz, h => by cases h
  | f + 1, p :: r, cz, h => by
    have h2 : (match PyWide.call (zs (p :: r)) with
      | none => none
      | some (c, t) => match PyWide.calls f t with
        | none => none
        | some cs => some (c :: cs)) = some cz := h
    rw [pycall] at h2
    cases hc : callN (p :: r) with
    | none => rw [hc] at h2; cases h2
    | some x =>
      obtain ⟨c, t⟩ := x
      rw [hc] at h2
      have h3 : (match PyWide.calls f (zs t) with
        | none => none
        | some cs => some (cZ c :: cs)) = some cz := h2
      cases hr : PyWide.calls f (zs t) with
      | none => rw [hr] at h3; cases h3
      | some cs =>
        rw [hr] at h3
        obtain ⟨cs', rfl, hp⟩ := pycalls f t cs hr
        cases h3
        exact ⟨c :: cs', rfl, .cons hc hp⟩
/-! ### what may be asked -/
theorem cZ_inv {c : CN} {p : Int} {xs : List Int} {m : List (List Int)} (h : cZ c = (p :: xs) :: m) : (c.code : Int) = p ∧ zs c.nums = xs ∧ c.rows.map zs = m := by
  have h2 : ((c.code : Int) :: zs c.nums) :: c.rows.map zs = (p :: xs) :: m := h
  injection h2 with h3 h4
  injection h3 with h5 h6
  exact ⟨h5, h6, h4⟩
theorem zs_nil {l : List Nat} (h : zs l = []) : l = [] := List.map_eq_nil_iff.mp h
theorem zs_one {l : List Nat} {p : Int} (h : zs l = [p]) : ∃ n, l = [n] ∧ p = (n : Int) := by
  match l, h with
  | [n], h => injection h with h1 _; exact ⟨n, rfl, h1.symm⟩
theorem zs_two {l : List Nat} {p q : Int} (h : zs l = [p, q]) : ∃ n m, l = [n, m] := by
  match l, h with
  | [n, m], h => exact ⟨n, m, rfl⟩
theorem rows_nil {l : List (List Nat)} (h : l.map zs = []) : l = [] := List.map_eq_nil_iff.mp h
theorem rows_one {l : List (List Nat)} {b : List Int} (h : l.map zs = [b]) : ∃ ns, l = [ns] ∧ b = zs ns := by
  match l, h with
  | [n], h => injection h with h1 _; exact ⟨n, rfl, h1.symm⟩
theorem bytes_of {ns : List Nat} (h : Gv01Neutral.bytes (zs ns) = true) : ∀ x ∈ ns, x < 256 := fun x hx => by
  unfold Gv01Neutral.bytes NeutralIO.bytes at h
  rw [Bool.and_eq_true, List.all_eq_true] at h
  have := h.2 (x : Int) (List.mem_map_of_mem hx)
  rw [Bool.and_eq_true, decide_eq_true_eq, decide_eq_true_eq] at this
  omega
theorem natural_of {n : Nat} (h : Gv01Neutral.natural (n : Int) = true) : n < 2 ^ 64 := by
  unfold Gv01Neutral.natural NeutralIO.within at h
  rw [Bool.and_eq_true, decide_eq_true_eq, decide_eq_true_eq] at h
  omega
theorem form_of {c : CN} (h : Gv01Neutral.asked1 (cZ c) = true) : Form c.code c.nums c.rows := by
  obtain ⟨code, nums, rows⟩ := c
  generalize hz : cZ ⟨code, nums, rows⟩ = z at h
  unfold Gv01Neutral.asked1 at h
  split at h
  · obtain ⟨e1, e2, e3⟩ := cZ_inv hz
    obtain ⟨n, rfl, _⟩ := zs_one e2
    have e1 : (code : Int) = 0 := e1
    obtain rfl : code = 0 := by omega
    refine .begin_ n rows ?_
    rw [Bool.and_eq_true, Bool.and_eq_true, decide_eq_true_eq] at h
    have := h.2.1
    rw [← e3, List.length_map] at this
    exact this
  · obtain ⟨e1, e2, e3⟩ := cZ_inv hz
    have e1 : (code : Int) = 1 := e1
    obtain rfl : code = 1 := by omega
    obtain rfl := zs_nil e2
    obtain rfl := rows_nil e3
    exact .pool .places
  · obtain ⟨e1, e2, e3⟩ := cZ_inv hz
    have e1 : (code : Int) = 2 := e1
    obtain rfl : code = 2 := by omega
    obtain ⟨n, m, rfl⟩ := zs_two e2
    obtain rfl := rows_nil e3
    exact .pool (.read n m)
  · obtain ⟨e1, e2, e3⟩ := cZ_inv hz
    have e1 : (code : Int) = 3 := e1
    obtain rfl : code = 3 := by omega
    obtain ⟨n, rfl, _⟩ := zs_one e2
    obtain ⟨ns, rfl, rfl⟩ := rows_one e3
    rw [Bool.and_eq_true] at h
    exact .pool (.write n ns (bytes_of h.2))
  · obtain ⟨e1, e2, e3⟩ := cZ_inv hz
    have e1 : (code : Int) = 4 := e1
    obtain rfl : code = 4 := by omega
    obtain rfl := zs_nil e2
    obtain rfl := rows_nil e3
    exact .pool .flush
  · obtain ⟨e1, e2, e3⟩ := cZ_inv hz
    have e1 : (code : Int) = 5 := e1
    obtain rfl : code = 5 := by omega
    obtain ⟨n, rfl, _⟩ := zs_one e2
    obtain rfl := rows_nil e3
    exact .pool (.slots n)
  · obtain ⟨e1, e2, e3⟩ := cZ_inv hz
    have e1 : (code : Int) = 6 := e1
    obtain rfl : code = 6 := by omega
    obtain ⟨n, rfl, _⟩ := zs_one e2
    obtain ⟨ns, rfl, rfl⟩ := rows_one e3
    rw [Bool.and_eq_true] at h
    exact .pool (.putSlot n ns (bytes_of h.2))
  · obtain ⟨e1, e2, e3⟩ := cZ_inv hz
    have e1 : (code : Int) = 7 := e1
    obtain rfl : code = 7 := by omega
    obtain ⟨n, rfl, _⟩ := zs_one e2
    obtain rfl := rows_nil e3
    exact .pool (.out n)
  · obtain ⟨e1, e2, e3⟩ := cZ_inv hz
    have e1 : (code : Int) = 8 := e1
    obtain rfl : code = 8 := by omega
    obtain ⟨n, rfl, _⟩ := zs_one e2
    obtain rfl := rows_nil e3
    exact .pool (.fill n)
  · obtain ⟨e1, e2, e3⟩ := cZ_inv hz
    have e1 : (code : Int) = 9 := e1
    obtain rfl : code = 9 := by omega
    obtain ⟨n, rfl, _⟩ := zs_one e2
    obtain rfl := rows_nil e3
    exact .pool (.good n)
  · obtain ⟨e1, e2, e3⟩ := cZ_inv hz
    have e1 : (code : Int) = 10 := e1
    obtain rfl : code = 10 := by omega
    obtain ⟨n, rfl, _⟩ := zs_one e2
    obtain rfl := rows_nil e3
    exact .pool (.state n)
  · obtain ⟨e1, e2, e3⟩ := cZ_inv hz
    have e1 : (code : Int) = 11 := e1
    obtain rfl : code = 11 := by omega
    obtain ⟨n, rfl, rfl⟩ := zs_one e2
    obtain ⟨ns, rfl, rfl⟩ := rows_one e3
    rw [Bool.and_eq_true] at h
    exact .sum n ns (bytes_of h.2) (natural_of h.1)
  · obtain ⟨e1, e2, e3⟩ := cZ_inv hz
    have e1 : (code : Int) = 12 := e1
    obtain rfl : code = 12 := by omega
    obtain ⟨n, m, rfl⟩ := zs_two e2
    obtain rfl := rows_nil e3
    exact .peek n m
  · obtain ⟨e1, e2, e3⟩ := cZ_inv hz
    have e1 : (code : Int) = 13 := e1
    obtain rfl : code = 13 := by omega
    obtain rfl := zs_nil e2
    obtain rfl := rows_nil e3
    exact .asks
  · cases h
theorem entry_of {l : List Nat} (h : Gv01Neutral.entry (zs l) = true) : ∃ x, Gv01Neutral.happens l = some x := by
  unfold Gv01Neutral.entry at h
  rw [Bool.and_eq_true] at h
  replace h := h.2
  match l, h with
  | [], h => cases h
  | [a], h => cases h
  | [a, b], h =>
    have h2 : ((b : Int) == 0 || ((b : Int) == 1 || (b : Int) == 2)) = true := h
    rw [Bool.or_eq_true, Bool.or_eq_true, beq_iff_eq, beq_iff_eq, beq_iff_eq] at h2
    have : b = 0 ∨ b = 1 ∨ b = 2 := by omega
    rcases this with rfl | rfl | rfl <;> exact ⟨_, rfl⟩
  | [a, b, c], h =>
    have h2 : ((b : Int) == 3) = true := h
    rw [beq_iff_eq] at h2
    obtain rfl : b = 3 := by omega
    exact ⟨_, rfl⟩
  | [a, b, c, d], h =>
    have h2 : ((b : Int) == 5) = true := h
    rw [beq_iff_eq] at h2
    obtain rfl : b = 5 := by omega
    exact ⟨_, rfl⟩
  | [a, b, c, d, e], h =>
    have h2 : ((b : Int) == 4) = true := h
    rw [beq_iff_eq] at h2
    obtain rfl : b = 4 := by omega
    exact ⟨_, rfl⟩
  | _ :: _ :: _ :: _ :: _ :: _ :: _, h => cases h
theorem given_of {c : CN} (h : Gv01Neutral.given (cZ c) = true) : ∃ sizes script, c.code = 14 ∧ c.nums = [] ∧ c.rows = sizes :: script ∧ sizes.length ≤ 8 ∧ script.length ≤ 1000 ∧ ∀ l ∈ script, ∃ x, Gv01Neutral.happens l = some x := by
  obtain ⟨code, nums, rows⟩ := c
  generalize hz : cZ ⟨code, nums, rows⟩ = z at h
  unfold Gv01Neutral.given at h
  split at h
  · obtain ⟨e1, e2, e3⟩ := cZ_inv hz
    have e1 : (code : Int) = 14 := e1
    obtain rfl : code = 14 := by omega
    obtain rfl := zs_nil e2
    have e3 : rows.map zs = _ := e3
    cases rows with
    | nil => cases e3
    | cons sizes script =>
      injection e3 with e4 e5
      subst e4 e5
      rw [Bool.and_eq_true, Bool.and_eq_true, Bool.and_eq_true, decide_eq_true_eq, decide_eq_true_eq, zs_len, List.length_map, List.all_eq_true, List.all_eq_true] at h
      exact ⟨sizes, script, rfl, rfl, rfl, h.1, h.2.2.1, fun l hl => entry_of (h.2.2.2 _ (List.mem_map_of_mem hl))⟩
  · cases h
/-! ### what is told -/
def tellP (s : NS) (cs : List CN) : List Int := PyFlat.told (PyFlat.played Gv01Neutral.step s (cs.map cZ))
theorem tellP_nil (s : NS) : tellP s [] = [] := rfl
theorem tellP_cons (s : NS) (c : CN) (cs : List CN) : tellP s (c :: cs) = ((stepN s c.code c.nums c.rows).2.length : Int) :: (stepN s c.code c.nums c.rows).2 ++ tellP (stepN s c.code c.nums c.rows).1 cs := by
  unfold tellP PyFlat.told
  rw [List.map_cons]
  show List.flatMap _ (_ :: _) = _
  rw [List.flatMap_cons]
  rfl
theorem total_len : ∀ (cs : List CN) (s : NS) (n : Nat), Gv01Neutral.total s (cs.map cZ) n = true → (tellP s cs).length + n < 1000000 + cs.length
  | [], s, n, h => by
    have h2 : decide (n < 1000000) = true := h
    rw [decide_eq_true_eq] at h2
    show 0 + n < 1000000 + 0
    omega
  | c :: cs, s, n, h => by
    have h2 : (if 1000000 ≤ n + (stepN s c.code c.nums c.rows).2.length then false else Gv01Neutral.total (stepN s c.code c.nums c.rows).1 (cs.map cZ) (n + (stepN s c.code c.nums c.rows).2.length)) = true := h
    split at h2
    · cases h2
    · have ih := total_len cs _ _ h2
      rw [tellP_cons, List.length_append, List.length_cons, List.length_cons]
      omega
theorem step_devices (sizes : List Nat) (script : List (List Nat)) : stepN Gv01Neutral.start 14 [] (sizes :: script) = (⟨Gv.simOf sizes (script.filterMap Gv01Neutral.happens), none⟩, []) := by
  have e : stepN Gv01Neutral.start 14 [] (sizes :: script) = (⟨Gv.simOf (Gv01Neutral.nats (zs sizes)) ((script.map zs).filterMap fun (l : List Int) => Gv01Neutral.happens (Gv01Neutral.nats l)), none⟩, []) := rfl
  rw [e, nats_ints, List.filterMap_map]
  have e2 : ((fun (l : List Int) => Gv01Neutral.happens (Gv01Neutral.nats l)) ∘ zs) = Gv01Neutral.happens := by
    funext l
    show Gv01Neutral.happens (Gv01Neutral.nats (zs l)) = _
    rw [nats_ints]
  rw [e2]
/-- all that is asked, at a request -/
theorem asked_of {ns : List Nat} (h : PyGv01.answers_asked (zs ns) = true) : ∃ c cs sizes script, Parses ns (c :: cs) ∧ c.code = 14 ∧ c.nums = [] ∧ c.rows = sizes :: script ∧ sizes.length ≤ 8 ∧ script.length ≤ 1000 ∧ (∀ l ∈ script, ∃ x, Gv01Neutral.happens l = some x) ∧
    cs.length ≤ 400 ∧ (∀ c ∈ cs, Form c.code c.nums c.rows) ∧ PyGv01.answers (zs ns) = 0 :: tellP ⟨Gv.simOf sizes (script.filterMap Gv01Neutral.happens), none⟩ cs ∧ (PyGv01.answers (zs ns)).length ≤ 1000401 := by
  unfold PyGv01.answers_asked at h
  unfold PyGv01.answers
  cases hc : PyGv01.calls (zs ns) with
  | none => rw [hc] at h; cases h
  | some cz =>
    rw [hc] at h
    dsimp only at h ⊢
    obtain ⟨cs, rfl, hp⟩ := pycalls _ ns cz hc
    rw [Bool.and_eq_true] at h
    replace h := h.2
    cases cs with
    | nil => cases h
    | cons c cs =>
      have h2 : (Gv01Neutral.given (cZ c) && (!(cs.map cZ).isEmpty && (decide ((cs.map cZ).length ≤ 400) && ((cs.map cZ).all Gv01Neutral.asked1 && Gv01Neutral.total Gv01Neutral.start ((c :: cs).map cZ) 0)))) = true := h
      rw [Bool.and_eq_true, Bool.and_eq_true, Bool.and_eq_true, Bool.and_eq_true, decide_eq_true_eq, List.length_map, List.all_eq_true] at h2
      obtain ⟨g, _, l400, ha, ht⟩ := h2
      obtain ⟨sizes, script, e1, e2, e3, e4, e5, e6⟩ := given_of g
      have et : tellP Gv01Neutral.start (c :: cs) = 0 :: tellP ⟨Gv.simOf sizes (script.filterMap Gv01Neutral.happens), none⟩ cs := by
        rw [tellP_cons, e1, e2, e3, step_devices]
        rfl
      refine ⟨c, cs, sizes, script, hp, e1, e2, e3, e4, e5, e6, l400, fun x hx => form_of (ha _ (List.mem_map_of_mem hx)), et, ?_⟩
      have := total_len (c :: cs) _ _ ht
      rw [List.length_cons] at this
      show (tellP Gv01Neutral.start (c :: cs)).length ≤ _
      omega
end Mp
namespace Mp
open PySem PySem.Spec PyProof.Rows L2
open Gv01 (Pool)
section
variable {K : PySem.W.Frag} {mg : Str → Option Value} {T : Txt K mg} {H H' : Hp} {S S' I : Addr → Prop} {N : Nat} {a la sm stp : Addr} {s : NS} {dx : Addr} {pv : V}
/-- what isn't the caller's stands; the caller's own may change, and grow by what is new -/
theorem SessIn.ext (h : SessIn T H S I N a la sm stp s dx pv) (k : ∀ q o, ¬ S q → H q = some o → H' q = some o) (pr : Priv H' S') (hs : ∀ q, S' q → S q ∨ H q = none) : SessIn T H' S' I N a la sm stp s dx pv := by
  have ha := k _ _ h.na h.obj
  have na' : ¬ S' a := fun z => by
    rcases hs a z with w | w
    · exact h.na w
    · rw [h.obj] at w; cases w
  refine ⟨ha, na', pr, ?_⟩
  have b := h.body
  revert b
  cases s.pool with
  | none =>
    rintro ⟨e, h1, h2, h3, h4, h5⟩
    have nI : ∀ q, I q → ¬ S q := fun q i z => (h4 q i).2 (.inl z)
    have tI : ∀ q, I q → H' q ≠ none := fun q i => by
      cases eo : H q with
      | none => exact absurd eo (h4 q i).1
      | some o => rw [k q o (nI q i) eo]; simp
    refine ⟨e, h1.mono fun q o w e2 => k q o (by rcases w with rfl | rfl; exact nI _ h2; exact nI _ h3) e2, h2, h3, fun q i => ⟨tI q i, ?_⟩, h5.priv (fun q o n e2 => k q o (fun z => n (.inl (.inl z))) e2) ?_⟩
    · rintro (z | z)
      · rcases hs q z with w | w
        · exact nI q i w
        · exact (h4 q i).1 w
      · exact (h4 q i).2 (.inr z)
    · rintro q n tr ((z | z) | z)
      · rcases hs q z with w | w
        · exact n (.inl (.inl w))
        · exact tr w
      · exact n (.inl (.inr z))
      · exact n (.inr z)
  | some p =>
    rintro ⟨pa, e, d1, mr, st, ms, hp⟩
    refine ⟨pa, e, d1, mr, st, ms, hp.base (fun q o w e2 => k q o ?_ e2) ?_ ?_ (hp.line.priv (fun q o n e2 => k q o (fun z => n (.inl (.inl z))) e2) ?_)⟩
    · intro z
      rcases w with w | w
      · exact (hp.hI q w).2 (.inl z)
      · exact hp.sst (w ▸ .inl z)
    · rintro q (z | z)
      · exact pr q z
      · rw [z, ha]; simp
    · rintro q (z | z)
      · rcases hs q z with w | w
        · exact hp.apartS q (.inl w)
        · exact ⟨fun i => (hp.hI q i).1 w, fun e3 => by rw [e3, hp.sta] at w; cases w⟩
      · exact hp.apartS q (.inr z)
    · rintro q n tr ((z | z) | z | z)
      · rcases hs q z with w | w
        · exact n (.inl (.inl w))
        · exact tr w
      · exact n (.inl (.inr z))
      · exact n (.inr (.inl z))
      · exact n (.inr (.inr z))
theorem SessAt.ext (h : SessAt T H S N a s) (k : ∀ q o, ¬ S q → H q = some o → H' q = some o) (pr : Priv H' S') (hs : ∀ q, S' q → S q ∨ H q = none) : SessAt T H' S' N a s :=
  let ⟨I, la, sm, stp, dx, pv, h⟩ := h; ⟨I, la, sm, stp, dx, pv, h.ext k pr hs⟩
end
theorem sql_same {K : PySem.W.Frag} {H H' : Hp} {row : Addr} {xs : List V} (h : SqL K H row xs) (k : ∀ o, H row = some o → H' row = some o) : SqL K H' row xs := by
  rcases h with (h | ⟨o, h⟩) | h
  · exact .inl (.inl (k _ h))
  · exact .inl (.inr ⟨o, k _ h⟩)
  · exact .inr h
theorem paired_tail {R R' : Addr → List Nat → Prop} {bs : List Addr} {x : List Nat} {xs : List (List Nat)} (h : Paired R bs (x :: xs)) : ∃ b es, bs = b :: es ∧ R b x ∧ Paired R es xs := by
  cases h with
  | cons h1 h2 => exact ⟨_, _, rfl, h1, h2⟩
theorem paired_and {R Q : Addr → List Nat → Prop} (k : ∀ b, (∃ x, R b x) → ∀ x, R b x → Q b x) : ∀ {bs : List Addr} {xs : List (List Nat)}, Paired R bs xs → Paired Q bs xs
  | _, _, .nil => .nil
  | _, _, .cons h t => .cons (k _ ⟨_, h⟩ _ h) (paired_and k t)
theorem paired_all {R : Addr → List Nat → Prop} {Q : Addr → Prop} : ∀ {bs : List Addr} {xs : List (List Nat)}, Paired R bs xs → (∀ b ∈ bs, Q b) → Paired (fun b x => R b x ∧ Q b) bs xs
  | _, _, .nil, _ => .nil
  | _, _, .cons h t, k => .cons ⟨h, k _ List.mem_cons_self⟩ (paired_all t fun b hb => k b (List.mem_cons_of_mem _ hb))
section
variable {P : Program} {w : World} {K : PySem.W.Frag} {mg : Str → Option Value} {base : Heap}
def spAnswers (K : PySem.W.Frag) : Sp := fun vs H Q _ => ∃ (a : Addr) (ns : List Int), vs = [.ref a] ∧ SqL K H a (ns.map V.int) ∧ ns.length ≤ 16000 ∧ PyGv01.answers_asked ns = true ∧ (∀ x ∈ ns, 0 ≤ x ∧ x ≤ 18446744073709551615) ∧
  ∀ (H' : Hp) (p : Addr), H' p = some (.lst ((PyGv01.answers ns).map V.int)) → Q (.ref p) H'
theorem nat_list {l : List Int} (h : ∀ x ∈ l, 0 ≤ x) : ∃ ns : List Nat, l = zs ns := by
  refine ⟨l.map Int.toNat, ?_⟩
  unfold zs
  rw [List.map_map]
  have : l.map ((fun (n : Nat) => (n : Int)) ∘ Int.toNat) = l.map id := List.map_congr_left fun x hx => Int.toNat_of_nonneg (h x hx)
  rw [this, List.map_id]
theorem zs_V (ns : List Nat) : (zs ns).map V.int = nvs ns := by
  unfold zs
  rw [List.map_map]
  rfl
theorem ok_answers (T : Txt K mg) : FnOk P w K mg base CX0 15 T.F.answers.f T.F.answers.fd ["calls"] (spAnswers K) := by
  refine T.F.answers.F.ok sc_answers (fun vs H Q E h => ?_) (fun cdv A outer s H vs Q E hr h => ⟨_, (pss_cons
    (ps_set (i := 1) sc_answers.nd rfl (Or.inl rfl) (pe_make T.Re.mak (ok_Reader_init T) (hr.mono (by decide)) rfl T.Re.g T.Re.init.b .nil pass0 (pa_cons (pv 0) pa_nil)))
    (pss_cons
    (ps_set (i := 2) sc_answers.nd rfl (Or.inl rfl) (pe_meth0 (pv 1) T.Re.cl T.Re.m_take_call (ok_Reader_take_call T) (hr.mono (by decide)) T.Re.take_call.b .nil pass0))
    (pss_cons
    (ps_set (i := 3) sc_answers.nd rfl (Or.inl rfl) (pe_make T.Se.mak (ok_Session_init T) (hr.mono (by decide)) rfl T.Se.g T.Se.init.b .nil pass0 (pa_cons (pe_ix ix_list (pe_fld (pv 2) rfl) pe_int (fun _ _ => rfl)) (pa_cons (pe_slice sl_list (pe_fld (pv 2) rfl) (po_some pe_int) po_none) pa_nil))))
    (pss_cons
    (ps_set (i := 4) sc_answers.nd rfl (Or.inl rfl) (pe_lst (pa_cons pe_int pa_nil)))
    (pss_cons
    (ps_while PassesOwn.never (pt_val (pe_meth0 (pv 1) T.Re.cl T.Re.m_has_more (ok_Reader_has_more T) (hr.mono (by decide)) T.Re.has_more.b .nil pass0)) (pss_cons
    (ps_set (i := 5) sc_answers.nd rfl (Or.inl rfl) (pe_meth (pv 3) T.Se.cl T.Se.m_answer (ok_Session_answer T) (hr.mono (by decide)) T.Se.answer.b .nil pass0 (pa_cons (pe_meth0 (pv 1) T.Re.cl T.Re.m_take_call (ok_Reader_take_call T) (hr.mono (by decide)) T.Re.take_call.b .nil pass0) pa_nil)))
    (pss_cons
    (ps_expr (pe_bm PySem.F.plainAttrs_list PySem.F.slot_list_append PySem.F.type_list_append mt_append (pv 4) (pa_cons (pe_callB call_len_seq (by rfl) T.G.n_len PySem.boot_len (pa_cons (pv 5) pa_nil)) pa_nil)))
    (pss_one
    (ps_expr (pe_bm PySem.F.plainAttrs_list PySem.F.slot_list_extend PySem.F.type_list_extend mt_extend (pv 4) (pa_cons (pv 5) pa_nil)))))))
    (pss_one
    (ps_ret (pv 4)))))))), ?_⟩)
  · obtain ⟨a, ns, rfl, _⟩ := h
    rfl
  · obtain ⟨row, nsz, rfl, hq, hlen, hask, hnn, q⟩ := h
    obtain ⟨ns, rfl⟩ := nat_list fun x hx => (hnn x hx).1
    rw [zs_V] at hq
    rw [zs_len] at hlen
    obtain ⟨c, cs, sizes, script, hp, ec1, ec2, ec3, l8, l1000, hhap, l400, hforms, eans, alen⟩ := asked_of hask
    -- reader = Reader(calls)
    refine ⟨_, rfl, fun ra dxr nra ndr ner => ?_⟩
    have sm0 : Same H (upd (upd H dxr (.own ra)) ra (.ins T.Re.C dxr [])) := fun z o e => by rw [upd_ne (ne_of_none e nra), upd_ne (ne_of_none e ndr)]; exact e
    refine ⟨ra, dxr, row, rfl, upd_same, fun H1 hra1 kp1 => ⟨rfl, ?_⟩⟩
    have k1 : ∀ z o, H z = some o → H1 z = some o := fun z o e => kp1 z o (sm0 z o e) (ne_of_none e nra)
    have hr1 : RdIn T H1 ra row dxr 0 := hra1
    have hq1 : SqL K H1 row (nvs ns) := sql_same hq fun o e => k1 _ _ e
    -- first = reader.take_call()
    cases hp with
    | cons hc hp =>
      rename_i u
      refine ⟨_, rfl, ra, dxr, _, rfl, hra1, rF_no, ?_⟩
      refine ⟨ra, row, dxr, ns, 0, c, u, rfl, hr1, hq1, hc, hlen, fun H2 ca dc na li bs j O hli hbs hr2 hj1 hj2 fr2 => ?_⟩
      have hq2 := sql_keep hq1 hra1 fr2
      have hra2 : H2 ra = some (.ins T.Re.C dxr (rF row j)) := hr2
      obtain ⟨code, nums, rows⟩ := c
      have ec3 : rows = sizes :: script := ec3
      subst ec3
      obtain ⟨za, es, rfl, hza, hes⟩ := paired_tail (R' := fun _ _ => True) O.rows
      -- session = Session(first.lists[0], first.lists[1:])
      refine ⟨_, rfl, ca, T.Ca.C, dc, _, _, rfl, O.obj, T.Ca.cl, T.Ca.n_lists, cF_lists, li, _, _, .ref za, rfl, rfl, SqL.of O.lists, atI_nat (j := 0) rfl, ?_⟩
      refine ⟨_, rfl, ca, T.Ca.C, dc, _, _, rfl, O.obj, T.Ca.cl, T.Ca.n_lists, cF_lists, _, rfl, li, _, rfl, SqL.of O.lists, fun zb hzb => ?_⟩
      have ecut : cutV ((za :: es).map V.ref) (some (1 : Int)) none = es.map V.ref := by
        have := cut_from ((za :: es).map V.ref) 1
        exact this
      rw [ecut]
      have sm3 := same_upd (o := .lst (es.map V.ref)) hzb
      intro sa dxs nsa nds nes
      have sm4 : Same (upd H2 zb (.lst (es.map V.ref))) (upd (upd (upd H2 zb (.lst (es.map V.ref))) dxs (.own sa)) sa (.ins T.Se.C dxs [])) := fun z o e => by rw [upd_ne (ne_of_none e nsa), upd_ne (ne_of_none e nds)]; exact e
      have k4 : ∀ z o, H2 z = some o → upd (upd (upd H2 zb (.lst (es.map V.ref))) dxs (.own sa)) sa (.ins T.Se.C dxs []) z = some o := fun z o e => sm4 z o (sm3 z o e)
      obtain ⟨S, hS⟩ : ∃ S : Addr → Prop, S = fun q => q = ra ∨ (q = row ∧ H row ≠ none) := ⟨_, rfl⟩
      have S2 : ∀ z, S z → H2 z ≠ none := fun z e => by
        rw [hS] at e
        rcases e with e | ⟨e, e2⟩
        · rw [e, hra2]; simp
        · rw [e]
          cases eo : H row with
          | none => exact absurd eo e2
          | some o => rw [fr2 row o (k1 _ _ eo) (ne_of_none eo nra)]; simp
      have Sfresh : ∀ z, H1 z = none → ¬ S z := fun z e w => by
        rw [hS] at w
        rcases w with w | ⟨w, w2⟩
        · rw [w, hra1] at e; cases e
        · cases eo : H row with
          | none => exact absurd eo w2
          | some o => rw [w, k1 _ _ eo] at e; cases e
      refine ⟨S, sa, dxs, za, zb, sizes, es, script, rfl, upd_same, fun z e => ?_, fun e => ?_, k4 _ _ hza, ?_, ?_, hhap, l1000, l8, fun H5 hse kp5 => ⟨rfl, ?_⟩⟩
      · cases eo : H2 z with
        | none => exact absurd eo (S2 z e)
        | some o => rw [k4 z o eo]; simp
      · cases eo : H2 sa with
        | none => exact S2 sa e eo
        | some o => rw [sm3 _ _ eo] at nsa; cases nsa
      · exact sm4 _ _ upd_same
      · have hbs2 : ∀ b ∈ es, ¬ S b := fun b hb => Sfresh b (hbs b (List.mem_cons_of_mem _ hb))
        exact paired_imp (fun e l z => ⟨k4 _ _ z.1, z.2⟩) (paired_all hes hbs2)
      · have k5 : ∀ z o, H2 z = some o → H5 z = some o := fun z o e => kp5 z o (k4 z o e) (fun w => by rw [w] at e; rw [sm3 _ _ e] at nsa; cases nsa)
        -- given = [0]
        refine ⟨(by show 1 ≤ sizeLine; decide), fun gv hgv => ?_⟩
        have sm6 := same_upd (o := .lst [V.int 0]) hgv
        have hse6 := hse.addS (o := .lst [V.int 0]) hgv
        have hra6 := sm6 _ _ (k5 _ _ hra2)
        obtain ⟨S6, hS6⟩ : ∃ S6 : Addr → Prop, S6 = fun q => S q ∨ q = gv := ⟨_, rfl⟩
        rw [← hS6] at hse6
        have S6ra : S6 ra := by rw [hS6, hS]; exact .inl (.inl rfl)
        have S6gv : S6 gv := by rw [hS6]; exact .inr rfl
        have hrow : (∀ Hx, SqL K Hx row (nvs ns)) ∨ (S6 row ∧ row ≠ gv) := by
          have tr : ∀ o, H row = some o → S6 row ∧ row ≠ gv := fun o h => ⟨by rw [hS6, hS]; exact .inl (.inr ⟨rfl, by rw [h]; simp⟩), ne_of_none (k5 _ _ (fr2 _ _ (k1 _ _ h) (ne_of_none h nra))) hgv⟩
          rcases hq with (h | ⟨o, h⟩) | h
          · exact .inr (tr _ h)
          · exact .inr (tr _ h)
          · exact .inl fun _ => .inr h
        have hq6 : SqL K (upd H5 gv (.lst [V.int 0])) row (nvs ns) := sql_same hq2 fun o e => sm6 _ _ (k5 _ _ e)
        have gra : gv ≠ ra := (ne_of_none (k5 _ _ hra2) hgv).symm
        obtain ⟨Inv, hInv⟩ : ∃ Inv : Nat → L2.St → Hp → Prop, Inv = fun m σ H' => ∃ i cs s out v5, σ = [some (.ref row), some (.ref ra), some (.ref ca), some (.ref sa), some (.ref gv), v5] ∧ RdIn T H' ra row dxr i ∧ i ≤ ns.length ∧ SqL K H' row (nvs ns) ∧ Parses (ns.drop i) cs ∧ cs.length = m ∧ m ≤ 400 ∧ SessAt T H' S6 (48 * (400 - m)) sa s ∧
            H' gv = some (.lst (out.map V.int)) ∧ PyGv01.answers (zs ns) = out ++ tellP s cs ∧ ∀ c ∈ cs, Form c.code c.nums c.rows := ⟨_, rfl⟩
        refine ⟨Inv, ⟨cs.length, by
          rw [hInv]
          exact ⟨j, cs, _, [0], none, rfl, hra6, hj2, hq6, by rw [hj1]; exact hp, rfl, l400, hse6.more (Nat.zero_le _), upd_same, eans, hforms⟩⟩, ?_⟩
        intro m σ H' hinv
        rw [hInv] at hinv
        obtain ⟨i, cs', s1, out, v5, rfl, hr', hi, hqq, hpp, hm, m400, hss, hg, eo, hf⟩ := hinv
        refine ⟨_, rfl, ra, dxr, _, rfl, hr', rF_no, ra, row, dxr, ns, i, rfl, hr', hqq, _, rfl, ?_⟩
        by_cases hlt : i < ns.length
        · obtain ⟨x, l, hd⟩ : ∃ x l, ns.drop i = x :: l := ⟨_, _, List.drop_eq_getElem_cons hlt⟩
          rw [hd] at hpp
          cases hpp with
          | cons hcall hrest =>
            rename_i u' c' cs''
            obtain ⟨code', nums', rows'⟩ := c'
            have hform := hf _ List.mem_cons_self
            refine if_t (decide_eq_true hlt) ⟨Inv cs''.length, fun σ' H'' z => ⟨cs''.length, by rw [← hm]; exact Nat.lt_succ_self _, z⟩, ?_⟩
            obtain ⟨I, la, sm, stp, dx, pv, hsin⟩ := hss
            have hgne : gv ≠ ra := gra
            refine ⟨_, rfl, sa, dx, _, rfl, hsin.obj, sF_no, _, rfl, ra, dxr, _, rfl, hr', rF_no, ?_⟩
            refine ⟨ra, row, dxr, ns, i, _, u', rfl, hr', hqq, by rw [hd]; exact hcall, hlen, fun H7 ca' dc' na' li' bs' j' O' hli' hbs' hr7 hj1' hj2' fr7 => ?_⟩
            have hra7 : H7 ra = some (.ins T.Re.C dxr (rF row j')) := hr7
            have k7 : ∀ z o, ¬ S6 z → H' z = some o → H7 z = some o := fun z o n e => fr7 z o e fun w => n (by rw [w]; exact S6ra)
            have t7 : ∀ z, H' z ≠ none → H7 z ≠ none := fun z e => by
              by_cases w : z = ra
              · rw [w, hra7]; simp
              · cases e2 : H' z with
                | none => exact absurd e2 e
                | some o => rw [fr7 z o e2 w]; simp
            have hs7 : SessAt T H7 (fun q => S6 q ∨ (q = li' ∨ q ∈ bs')) (48 * (400 - m)) sa s1 := by
              refine SessAt.ext ⟨I, la, sm, stp, dx, pv, hsin⟩ k7 ?_ ?_
              · rintro z (e | e | e)
                · exact t7 z (hsin.pr z e)
                · rw [e, O'.lists]; simp
                · obtain ⟨n, hn⟩ := List.getElem?_of_mem e
                  obtain ⟨x', _, hx'⟩ := paired_get O'.rows hn
                  rw [hx']; simp
              · rintro z (e | e | e)
                · exact .inl e
                · exact .inr (by rw [e]; exact hli')
                · exact .inr (hbs' z e)
            refine ⟨S6, fun q => q = li' ∨ q ∈ bs', 48 * (400 - m), sa, s1, ca', code', nums', rows', rfl, hs7, ?_, by omega, ⟨dc', na', li', bs', O', .inl rfl, fun b hb => .inr hb⟩, hform, fun H8 r hs8 f8 hr8 hn8 => ?_⟩
            · rintro z (e | e) w
              · exact hsin.pr z w (by rw [e]; exact hli')
              · exact hsin.pr z w (hbs' z e)
            · have hg7 : H7 gv = some (.lst (out.map V.int)) := fr7 gv _ hg hgne
              have hg8 := f8.keep gv _ S6gv hg7
              have hra8 := f8.keep ra _ S6ra hra7
              have nrg : r ≠ gv := (ne_of_none hg7 hn8).symm
              rw [tellP_cons] at eo
              have elen : (PyGv01.answers (zs ns)).length ≤ 1000401 := alen
              rw [eo, List.length_append, List.length_append, List.length_cons] at elen
              obtain ⟨ans, hans⟩ : ∃ ans, ans = (stepN s1 code' nums' rows').2 := ⟨_, rfl⟩
              have hr8' : H8 r = some (.lst (ans.map V.int)) := by rw [hans]; exact hr8
              have elen' : out.length + (ans.length + 1) ≤ 1000401 := by
                rw [hans]
                have e3 : (stepN s1 (CN.mk code' nums' rows').code (CN.mk code' nums' rows').nums (CN.mk code' nums' rows').rows).2.length = (stepN s1 code' nums' rows').2.length := rfl
                omega
              refine ⟨_, rfl, .inl ⟨rfl, _, SqL.of hg8⟩, _, rfl, r, _, rfl, .inl (SqL.of hr8'), gv, _, _, rfl, rfl, hg8, line_lt (by rw [List.length_map]; omega), ?_⟩
              refine ⟨_, rfl, .inl ⟨rfl, _, SqL.of upd_same⟩, _, rfl, gv, r, _, _, rfl, rfl, upd_same, (by rw [upd_ne nrg]; exact hr8'), line_le (by rw [List.length_append, List.length_map, List.length_map]; show _ + 1 + _ ≤ _; omega), ?_⟩
              show Inv cs''.length _ _
              rw [hInv]
              have eV : (out.map V.int ++ [V.int ((ans.map V.int).length : Int)]) ++ ans.map V.int = (out ++ ((ans.length : Int) :: ans)).map V.int := by
                rw [List.map_append, List.map_cons, List.append_assoc, List.length_map]
                rfl
              refine ⟨j', cs'', (stepN s1 code' nums' rows').1, out ++ ((ans.length : Int) :: ans), some (.ref r), rfl, ?_, hj2', ?_, by rw [hj1']; exact hrest, rfl, ?_, ((hs8.updS S6gv).updS S6gv).more ?_, by rw [upd_same, eV], ?_, fun x hx => hf x (List.mem_cons_of_mem _ hx)⟩
              · show upd _ _ _ ra = _
                rw [upd_ne hgne.symm, upd_ne hgne.symm]
                exact hra8
              · rcases hrow with hw | hw
                · exact hw _
                · refine sql_same (sql_keep hqq hr' fr7) fun o e => ?_
                  rw [upd_ne hw.2, upd_ne hw.2]
                  exact f8.keep row o hw.1 e
              · rw [← hm, List.length_cons] at m400
                omega
              · rw [← hm, List.length_cons]
                rw [← hm, List.length_cons] at m400
                omega
              · rw [eo, List.append_assoc, hans]
        · have hd : ns.drop i = [] := List.drop_of_length_le (by omega)
          rw [hd] at hpp
          cases hpp with
          | nil =>
            refine if_f (decide_eq_false hlt) ?_
            refine ⟨_, rfl, q H' gv ?_⟩
            rw [eo, tellP_nil, List.append_nil]
            exact hg
          | cons hcall hrest => cases hcall
end
end Mp
namespace Mp
open PySem PySem.Spec PyProof.Rows L2
theorem mk_G {K : PySem.W.Frag} {h : Heap} {mg : Str → Option Value} (X : K.In h) (G : h.Ns mainGlobals mg) {t0 t1 t2 t3 t4 t5 t6 t7 t8 t9 t10 t11 t12 t13 t14 t15 t16 t17 t18 t19 t20 t21 t22 t23 t24 t25 t26 t27 t28 t29 t30 t31 t32 t33 t34 t35 : Tok}
    (q0 : PySem.W.nsIn K mainGlobals "BLOCK_BYTES" = some (some (.int (1024) t0)))
    (q1 : PySem.W.nsIn K mainGlobals "BEGIN" = some (some (.int (0) t1)))
    (q2 : PySem.W.nsIn K mainGlobals "PLACES" = some (some (.int (1) t2)))
    (q3 : PySem.W.nsIn K mainGlobals "READ" = some (some (.int (2) t3)))
    (q4 : PySem.W.nsIn K mainGlobals "WRITE" = some (some (.int (3) t4)))
    (q5 : PySem.W.nsIn K mainGlobals "FLUSH" = some (some (.int (4) t5)))
    (q6 : PySem.W.nsIn K mainGlobals "SLOTS_CALL" = some (some (.int (5) t6)))
    (q7 : PySem.W.nsIn K mainGlobals "PUT_SLOT" = some (some (.int (6) t7)))
    (q8 : PySem.W.nsIn K mainGlobals "OUT_CALL" = some (some (.int (7) t8)))
    (q9 : PySem.W.nsIn K mainGlobals "FILL" = some (some (.int (8) t9)))
    (q10 : PySem.W.nsIn K mainGlobals "GOOD_CALL" = some (some (.int (9) t10)))
    (q11 : PySem.W.nsIn K mainGlobals "STATE" = some (some (.int (10) t11)))
    (q12 : PySem.W.nsIn K mainGlobals "SUM_OF" = some (some (.int (11) t12)))
    (q13 : PySem.W.nsIn K mainGlobals "PEEK" = some (some (.int (12) t13)))
    (q14 : PySem.W.nsIn K mainGlobals "ASKS" = some (some (.int (13) t14)))
    (q15 : PySem.W.nsIn K mainGlobals "NOTHING" = some (some (.int (-1) t15)))
    (q16 : PySem.W.nsIn K mainGlobals "FAIL" = some (some (.int (0) t16)))
    (q17 : PySem.W.nsIn K mainGlobals "TAKEN" = some (some (.int (1) t17)))
    (q18 : PySem.W.nsIn K mainGlobals "GOES" = some (some (.int (2) t18)))
    (q19 : PySem.W.nsIn K mainGlobals "SICK" = some (some (.int (3) t19)))
    (q20 : PySem.W.nsIn K mainGlobals "ROT" = some (some (.int (4) t20)))
    (q21 : PySem.W.nsIn K mainGlobals "OFF" = some (some (.int (5) t21)))
    (q22 : PySem.W.nsIn K mainGlobals "SLOTS" = some (some (.int (8) t22)))
    (q23 : PySem.W.nsIn K mainGlobals "DEVICES" = some (some (.int (8) t23)))
    (q24 : PySem.W.nsIn K mainGlobals "FEWEST_BLOCKS" = some (some (.int (16) t24)))
    (q25 : PySem.W.nsIn K mainGlobals "MOST_BLOCKS" = some (some (.int (65536) t25)))
    (q26 : PySem.W.nsIn K mainGlobals "WIDEST_MIRROR" = some (some (.int (3) t26)))
    (q27 : PySem.W.nsIn K mainGlobals "GOOD" = some (some (.int (0) t27)))
    (q28 : PySem.W.nsIn K mainGlobals "BEING_FILLED" = some (some (.int (1) t28)))
    (q29 : PySem.W.nsIn K mainGlobals "OUT" = some (some (.int (2) t29)))
    (q30 : PySem.W.nsIn K mainGlobals "ALL_ONES" = some (some (.int (18446744073709551615) t30)))
    (q31 : PySem.W.nsIn K mainGlobals "DIVISOR" = some (some (.int (14514072000185962306) t31)))
    (q32 : PySem.W.nsIn K mainGlobals "DONE" = some (some (.int (0) t32)))
    (q33 : PySem.W.nsIn K mainGlobals "WRONG" = some (some (.int (-2) t33)))
    (q34 : PySem.W.nsIn K mainGlobals "NO_POOL" = some (some (.int (-9) t34)))
    (q35 : PySem.W.nsIn K mainGlobals "POWER_WENT" = some (some (.int (-100) t35)))
    (b0 : PySem.W.nsIn K mainGlobals "len" = some none)
    (b1 : PySem.W.nsIn K mainGlobals "range" = some none)
    (b2 : PySem.W.nsIn K mainGlobals "list" = some none)
    (b3 : PySem.W.nsIn K mainGlobals "reversed" = some none)
    (b4 : PySem.W.nsIn K mainGlobals "enumerate" = some none) : TG mg :=
  { c_BLOCK_BYTES := ⟨_, PySem.W.mg_of X G q0⟩,
    c_BEGIN := ⟨_, PySem.W.mg_of X G q1⟩,
    c_PLACES := ⟨_, PySem.W.mg_of X G q2⟩,
    c_READ := ⟨_, PySem.W.mg_of X G q3⟩,
    c_WRITE := ⟨_, PySem.W.mg_of X G q4⟩,
    c_FLUSH := ⟨_, PySem.W.mg_of X G q5⟩,
    c_SLOTS_CALL := ⟨_, PySem.W.mg_of X G q6⟩,
    c_PUT_SLOT := ⟨_, PySem.W.mg_of X G q7⟩,
    c_OUT_CALL := ⟨_, PySem.W.mg_of X G q8⟩,
    c_FILL := ⟨_, PySem.W.mg_of X G q9⟩,
    c_GOOD_CALL := ⟨_, PySem.W.mg_of X G q10⟩,
    c_STATE := ⟨_, PySem.W.mg_of X G q11⟩,
    c_SUM_OF := ⟨_, PySem.W.mg_of X G q12⟩,
    c_PEEK := ⟨_, PySem.W.mg_of X G q13⟩,
    c_ASKS := ⟨_, PySem.W.mg_of X G q14⟩,
    c_NOTHING := ⟨_, PySem.W.mg_of X G q15⟩,
    c_FAIL := ⟨_, PySem.W.mg_of X G q16⟩,
    c_TAKEN := ⟨_, PySem.W.mg_of X G q17⟩,
    c_GOES := ⟨_, PySem.W.mg_of X G q18⟩,
    c_SICK := ⟨_, PySem.W.mg_of X G q19⟩,
    c_ROT := ⟨_, PySem.W.mg_of X G q20⟩,
    c_OFF := ⟨_, PySem.W.mg_of X G q21⟩,
    c_SLOTS := ⟨_, PySem.W.mg_of X G q22⟩,
    c_DEVICES := ⟨_, PySem.W.mg_of X G q23⟩,
    c_FEWEST_BLOCKS := ⟨_, PySem.W.mg_of X G q24⟩,
    c_MOST_BLOCKS := ⟨_, PySem.W.mg_of X G q25⟩,
    c_WIDEST_MIRROR := ⟨_, PySem.W.mg_of X G q26⟩,
    c_GOOD := ⟨_, PySem.W.mg_of X G q27⟩,
    c_BEING_FILLED := ⟨_, PySem.W.mg_of X G q28⟩,
    c_OUT := ⟨_, PySem.W.mg_of X G q29⟩,
    c_ALL_ONES := ⟨_, PySem.W.mg_of X G q30⟩,
    c_DIVISOR := ⟨_, PySem.W.mg_of X G q31⟩,
    c_DONE := ⟨_, PySem.W.mg_of X G q32⟩,
    c_WRONG := ⟨_, PySem.W.mg_of X G q33⟩,
    c_NO_POOL := ⟨_, PySem.W.mg_of X G q34⟩,
    c_POWER_WENT := ⟨_, PySem.W.mg_of X G q35⟩,
    n_len := PySem.W.mg_none_of X G b0,
    n_range := PySem.W.mg_none_of X G b1,
    n_list := PySem.W.mg_none_of X G b2,
    n_reversed := PySem.W.mg_none_of X G b3,
    n_enumerate := PySem.W.mg_none_of X G b4 }
theorem mk_F {K : PySem.W.Frag} {h : Heap} {mg : Str → Option Value} (X : K.In h) (G : h.Ns mainGlobals mg) {f0 f1 f2 f3 f4 f5 f6 f7 f8 f9 f10 f11 f12 f13 f14 f15 f16 : Addr} {od0 an0 od1 an1 od2 an2 od3 an3 od4 an4 od5 an5 od6 an6 od7 an7 od8 an8 od9 an9 od10 an10 od11 an11 od12 an12 od13 an13 od14 an14 od15 an15 od16 an16 : Option Addr} {sl0 sl1 sl2 sl3 sl4 sl5 sl6 sl7 sl8 sl9 sl10 sl11 sl12 sl13 sl14 sl15 sl16 : Array (Option Value)} {oc0 kV0 dc0 pm0 cd0 ct0 oc1 kV1 dc1 pm1 cd1 ct1 oc2 kV2 dc2 pm2 cd2 ct2 oc3 kV3 dc3 pm3 cd3 ct3 oc4 kV4 dc4 pm4 cd4 ct4 oc5 kV5 dc5 pm5 cd5 ct5 oc6 kV6 dc6 pm6 cd6 ct6 oc7 kV7 dc7 pm7 cd7 ct7 oc8 kV8 dc8 pm8 cd8 ct8 oc9 kV9 dc9 pm9 cd9 ct9 oc10 kV10 dc10 pm10 cd10 ct10 oc11 kV11 dc11 pm11 cd11 ct11 oc12 kV12 dc12 pm12 cd12 ct12 oc13 kV13 dc13 pm13 cd13 ct13 oc14 kV14 dc14 pm14 cd14 ct14 oc15 kV15 dc15 pm15 cd15 ct15 oc16 kV16 dc16 pm16 cd16 ct16 : Value}
    (a0 : PySem.W.nsIn K mainGlobals "is_block" = some (some (.ref f0)))
    (l0 : K.lookup f0 = some ⟨oc0, od0, .func (PySem.W.fnOf "is_block" "is_block" (defArgs st_is_block) (defBody st_is_block) (defScope st_is_block) .none kV0 dc0 pm0 an0 cd0 ct0), sl0⟩)
    (c0 : PySem.W.codeIn K cd0 "is_block" = true)
    (k0 : PySem.W.keepIn K (.ref f0) = true)
    (a1 : PySem.W.nsIn K mainGlobals "whole_block" = some (some (.ref f1)))
    (l1 : K.lookup f1 = some ⟨oc1, od1, .func (PySem.W.fnOf "whole_block" "whole_block" (defArgs st_whole_block) (defBody st_whole_block) (defScope st_whole_block) .none kV1 dc1 pm1 an1 cd1 ct1), sl1⟩)
    (c1 : PySem.W.codeIn K cd1 "whole_block" = true)
    (k1 : PySem.W.keepIn K (.ref f1) = true)
    (a2 : PySem.W.nsIn K mainGlobals "told_bytes" = some (some (.ref f2)))
    (l2 : K.lookup f2 = some ⟨oc2, od2, .func (PySem.W.fnOf "told_bytes" "told_bytes" (defArgs st_told_bytes) (defBody st_told_bytes) (defScope st_told_bytes) .none kV2 dc2 pm2 an2 cd2 ct2), sl2⟩)
    (c2 : PySem.W.codeIn K cd2 "told_bytes" = true)
    (k2 : PySem.W.keepIn K (.ref f2) = true)
    (a3 : PySem.W.nsIn K mainGlobals "first_entries" = some (some (.ref f3)))
    (l3 : K.lookup f3 = some ⟨oc3, od3, .func (PySem.W.fnOf "first_entries" "first_entries" (defArgs st_first_entries) (defBody st_first_entries) (defScope st_first_entries) .none kV3 dc3 pm3 an3 cd3 ct3), sl3⟩)
    (c3 : PySem.W.codeIn K cd3 "first_entries" = true)
    (k3 : PySem.W.keepIn K (.ref f3) = true)
    (a4 : PySem.W.nsIn K mainGlobals "strike" = some (some (.ref f4)))
    (l4 : K.lookup f4 = some ⟨oc4, od4, .func (PySem.W.fnOf "strike" "strike" (defArgs st_strike) (defBody st_strike) (defScope st_strike) .none kV4 dc4 pm4 an4 cd4 ct4), sl4⟩)
    (c4 : PySem.W.codeIn K cd4 "strike" = true)
    (k4 : PySem.W.keepIn K (.ref f4) = true)
    (a5 : PySem.W.nsIn K mainGlobals "can_be_pool" = some (some (.ref f5)))
    (l5 : K.lookup f5 = some ⟨oc5, od5, .func (PySem.W.fnOf "can_be_pool" "can_be_pool" (defArgs st_can_be_pool) (defBody st_can_be_pool) (defScope st_can_be_pool) .none kV5 dc5 pm5 an5 cd5 ct5), sl5⟩)
    (c5 : PySem.W.codeIn K cd5 "can_be_pool" = true)
    (k5 : PySem.W.keepIn K (.ref f5) = true)
    (a6 : PySem.W.nsIn K mainGlobals "divided" = some (some (.ref f6)))
    (l6 : K.lookup f6 = some ⟨oc6, od6, .func (PySem.W.fnOf "divided" "divided" (defArgs st_divided) (defBody st_divided) (defScope st_divided) .none kV6 dc6 pm6 an6 cd6 ct6), sl6⟩)
    (c6 : PySem.W.codeIn K cd6 "divided" = true)
    (k6 : PySem.W.keepIn K (.ref f6) = true)
    (a7 : PySem.W.nsIn K mainGlobals "place_bytes" = some (some (.ref f7)))
    (l7 : K.lookup f7 = some ⟨oc7, od7, .func (PySem.W.fnOf "place_bytes" "place_bytes" (defArgs st_place_bytes) (defBody st_place_bytes) (defScope st_place_bytes) .none kV7 dc7 pm7 an7 cd7 ct7), sl7⟩)
    (c7 : PySem.W.codeIn K cd7 "place_bytes" = true)
    (k7 : PySem.W.keepIn K (.ref f7) = true)
    (a8 : PySem.W.nsIn K mainGlobals "read_answer" = some (some (.ref f8)))
    (l8 : K.lookup f8 = some ⟨oc8, od8, .func (PySem.W.fnOf "read_answer" "read_answer" (defArgs st_read_answer) (defBody st_read_answer) (defScope st_read_answer) .none kV8 dc8 pm8 an8 cd8 ct8), sl8⟩)
    (c8 : PySem.W.codeIn K cd8 "read_answer" = true)
    (k8 : PySem.W.keepIn K (.ref f8) = true)
    (a9 : PySem.W.nsIn K mainGlobals "write_answer" = some (some (.ref f9)))
    (l9 : K.lookup f9 = some ⟨oc9, od9, .func (PySem.W.fnOf "write_answer" "write_answer" (defArgs st_write_answer) (defBody st_write_answer) (defScope st_write_answer) .none kV9 dc9 pm9 an9 cd9 ct9), sl9⟩)
    (c9 : PySem.W.codeIn K cd9 "write_answer" = true)
    (k9 : PySem.W.keepIn K (.ref f9) = true)
    (a10 : PySem.W.nsIn K mainGlobals "slots_answer" = some (some (.ref f10)))
    (l10 : K.lookup f10 = some ⟨oc10, od10, .func (PySem.W.fnOf "slots_answer" "slots_answer" (defArgs st_slots_answer) (defBody st_slots_answer) (defScope st_slots_answer) .none kV10 dc10 pm10 an10 cd10 ct10), sl10⟩)
    (c10 : PySem.W.codeIn K cd10 "slots_answer" = true)
    (k10 : PySem.W.keepIn K (.ref f10) = true)
    (a11 : PySem.W.nsIn K mainGlobals "put_slot_answer" = some (some (.ref f11)))
    (l11 : K.lookup f11 = some ⟨oc11, od11, .func (PySem.W.fnOf "put_slot_answer" "put_slot_answer" (defArgs st_put_slot_answer) (defBody st_put_slot_answer) (defScope st_put_slot_answer) .none kV11 dc11 pm11 an11 cd11 ct11), sl11⟩)
    (c11 : PySem.W.codeIn K cd11 "put_slot_answer" = true)
    (k11 : PySem.W.keepIn K (.ref f11) = true)
    (a12 : PySem.W.nsIn K mainGlobals "state_answer" = some (some (.ref f12)))
    (l12 : K.lookup f12 = some ⟨oc12, od12, .func (PySem.W.fnOf "state_answer" "state_answer" (defArgs st_state_answer) (defBody st_state_answer) (defScope st_state_answer) .none kV12 dc12 pm12 an12 cd12 ct12), sl12⟩)
    (c12 : PySem.W.codeIn K cd12 "state_answer" = true)
    (k12 : PySem.W.keepIn K (.ref f12) = true)
    (a13 : PySem.W.nsIn K mainGlobals "state_given" = some (some (.ref f13)))
    (l13 : K.lookup f13 = some ⟨oc13, od13, .func (PySem.W.fnOf "state_given" "state_given" (defArgs st_state_given) (defBody st_state_given) (defScope st_state_given) .none kV13 dc13 pm13 an13 cd13 ct13), sl13⟩)
    (c13 : PySem.W.codeIn K cd13 "state_given" = true)
    (k13 : PySem.W.keepIn K (.ref f13) = true)
    (a14 : PySem.W.nsIn K mainGlobals "give_state_answer" = some (some (.ref f14)))
    (l14 : K.lookup f14 = some ⟨oc14, od14, .func (PySem.W.fnOf "give_state_answer" "give_state_answer" (defArgs st_give_state_answer) (defBody st_give_state_answer) (defScope st_give_state_answer) .none kV14 dc14 pm14 an14 cd14 ct14), sl14⟩)
    (c14 : PySem.W.codeIn K cd14 "give_state_answer" = true)
    (k14 : PySem.W.keepIn K (.ref f14) = true)
    (a15 : PySem.W.nsIn K mainGlobals "pool_answer" = some (some (.ref f15)))
    (l15 : K.lookup f15 = some ⟨oc15, od15, .func (PySem.W.fnOf "pool_answer" "pool_answer" (defArgs st_pool_answer) (defBody st_pool_answer) (defScope st_pool_answer) .none kV15 dc15 pm15 an15 cd15 ct15), sl15⟩)
    (c15 : PySem.W.codeIn K cd15 "pool_answer" = true)
    (k15 : PySem.W.keepIn K (.ref f15) = true)
    (a16 : PySem.W.nsIn K mainGlobals "answers" = some (some (.ref f16)))
    (l16 : K.lookup f16 = some ⟨oc16, od16, .func (PySem.W.fnOf "answers" "answers" (defArgs st_answers) (defBody st_answers) (defScope st_answers) .none kV16 dc16 pm16 an16 cd16 ct16), sl16⟩)
    (c16 : PySem.W.codeIn K cd16 "answers" = true)
    (k16 : PySem.W.keepIn K (.ref f16) = true) {γ : Prop} (kk : TF K mg → γ) : γ :=
  kk
   {is_block := ⟨f0, _, fun_mk (st := st_is_block) l0 c0 k0, (fun_mk (st := st_is_block) l0 c0 k0).binds (ps := ["told"]) (fun _ _ _ _ _ _ us hl => (match us, hl with | [_], _ => rfl))⟩,
    g_is_block := PySem.W.mg_of X G a0,
    whole_block := ⟨f1, _, fun_mk (st := st_whole_block) l1 c1 k1, (fun_mk (st := st_whole_block) l1 c1 k1).binds (ps := ["told"]) (fun _ _ _ _ _ _ us hl => (match us, hl with | [_], _ => rfl))⟩,
    g_whole_block := PySem.W.mg_of X G a1,
    told_bytes := ⟨f2, _, fun_mk (st := st_told_bytes) l2 c2 k2, (fun_mk (st := st_told_bytes) l2 c2 k2).binds (ps := ["block"]) (fun _ _ _ _ _ _ us hl => (match us, hl with | [_], _ => rfl))⟩,
    g_told_bytes := PySem.W.mg_of X G a2,
    first_entries := ⟨f3, _, fun_mk (st := st_first_entries) l3 c3 k3, (fun_mk (st := st_first_entries) l3 c3 k3).binds (ps := ["script"]) (fun _ _ _ _ _ _ us hl => (match us, hl with | [_], _ => rfl))⟩,
    g_first_entries := PySem.W.mg_of X G a3,
    strike := ⟨f4, _, fun_mk (st := st_strike) l4 c4 k4, (fun_mk (st := st_strike) l4 c4 k4).binds (ps := ["device", "entry"]) (fun _ _ _ _ _ _ us hl => (match us, hl with | [_, _], _ => rfl))⟩,
    g_strike := PySem.W.mg_of X G a4,
    can_be_pool := ⟨f5, _, fun_mk (st := st_can_be_pool) l5 c5 k5, (fun_mk (st := st_can_be_pool) l5 c5 k5).binds (ps := ["n", "mirrors"]) (fun _ _ _ _ _ _ us hl => (match us, hl with | [_, _], _ => rfl))⟩,
    g_can_be_pool := PySem.W.mg_of X G a5,
    divided := ⟨f6, _, fun_mk (st := st_divided) l6 c6 k6, (fun_mk (st := st_divided) l6 c6 k6).binds (ps := ["c"]) (fun _ _ _ _ _ _ us hl => (match us, hl with | [_], _ => rfl))⟩,
    g_divided := PySem.W.mg_of X G a6,
    place_bytes := ⟨f7, _, fun_mk (st := st_place_bytes) l7 c7 k7, (fun_mk (st := st_place_bytes) l7 c7 k7).binds (ps := ["place"]) (fun _ _ _ _ _ _ us hl => (match us, hl with | [_], _ => rfl))⟩,
    g_place_bytes := PySem.W.mg_of X G a7,
    read_answer := ⟨f8, _, fun_mk (st := st_read_answer) l8 c8 k8, (fun_mk (st := st_read_answer) l8 c8 k8).binds (ps := ["pool", "place", "wanted"]) (fun _ _ _ _ _ _ us hl => (match us, hl with | [_, _, _], _ => rfl))⟩,
    g_read_answer := PySem.W.mg_of X G a8,
    write_answer := ⟨f9, _, fun_mk (st := st_write_answer) l9 c9 k9, (fun_mk (st := st_write_answer) l9 c9 k9).binds (ps := ["pool", "place", "told"]) (fun _ _ _ _ _ _ us hl => (match us, hl with | [_, _, _], _ => rfl))⟩,
    g_write_answer := PySem.W.mg_of X G a9,
    slots_answer := ⟨f10, _, fun_mk (st := st_slots_answer) l10 c10 k10, (fun_mk (st := st_slots_answer) l10 c10 k10).binds (ps := ["pool", "k"]) (fun _ _ _ _ _ _ us hl => (match us, hl with | [_, _], _ => rfl))⟩,
    g_slots_answer := PySem.W.mg_of X G a10,
    put_slot_answer := ⟨f11, _, fun_mk (st := st_put_slot_answer) l11 c11 k11, (fun_mk (st := st_put_slot_answer) l11 c11 k11).binds (ps := ["pool", "k", "told"]) (fun _ _ _ _ _ _ us hl => (match us, hl with | [_, _, _], _ => rfl))⟩,
    g_put_slot_answer := PySem.W.mg_of X G a11,
    state_answer := ⟨f12, _, fun_mk (st := st_state_answer) l12 c12 k12, (fun_mk (st := st_state_answer) l12 c12 k12).binds (ps := ["pool", "d"]) (fun _ _ _ _ _ _ us hl => (match us, hl with | [_, _], _ => rfl))⟩,
    g_state_answer := PySem.W.mg_of X G a12,
    state_given := ⟨f13, _, fun_mk (st := st_state_given) l13 c13 k13, (fun_mk (st := st_state_given) l13 c13 k13).binds (ps := ["code"]) (fun _ _ _ _ _ _ us hl => (match us, hl with | [_], _ => rfl))⟩,
    g_state_given := PySem.W.mg_of X G a13,
    give_state_answer := ⟨f14, _, fun_mk (st := st_give_state_answer) l14 c14 k14, (fun_mk (st := st_give_state_answer) l14 c14 k14).binds (ps := ["pool", "d", "state"]) (fun _ _ _ _ _ _ us hl => (match us, hl with | [_, _, _], _ => rfl))⟩,
    g_give_state_answer := PySem.W.mg_of X G a14,
    pool_answer := ⟨f15, _, fun_mk (st := st_pool_answer) l15 c15 k15, (fun_mk (st := st_pool_answer) l15 c15 k15).binds (ps := ["pool", "call"]) (fun _ _ _ _ _ _ us hl => (match us, hl with | [_, _], _ => rfl))⟩,
    g_pool_answer := PySem.W.mg_of X G a15,
    answers := ⟨f16, _, fun_mk (st := st_answers) l16 c16 k16, (fun_mk (st := st_answers) l16 c16 k16).binds (ps := ["calls"]) (fun _ _ _ _ _ _ us hl => (match us, hl with | [_], _ => rfl))⟩,
    g_answers := PySem.W.mg_of X G a16}
theorem mk_Ca {K : PySem.W.Frag} {h : Heap} {mg : Str → Option Value} (X : K.In h) (G : h.Ns mainGlobals mg) {C : Addr} {f0 : Addr} {od0 an0 : Option Addr} {sl0 : Array (Option Value)} {oc0 kV0 dc0 pm0 cd0 ct0 : Value}
    (aC : PySem.W.nsIn K mainGlobals "Call" = some (some (.ref C)))
    (a0 : PySem.W.findIn K (.ref C) "__init__" = some (some (.ref f0)))
    (i0 : PySem.W.isFn K (.ref f0) = true)
    (l0 : K.lookup f0 = some ⟨oc0, od0, .func (PySem.W.fnOf "__init__" "Call.__init__" (defArgs st_Call_init) (defBody st_Call_init) (defScope st_Call_init) .none kV0 dc0 pm0 an0 cd0 ct0), sl0⟩)
    (c0 : PySem.W.codeIn K cd0 "Call.__init__" = true)
    (k0 : PySem.W.keepIn K (.ref f0) = true)
    (pg : PySem.W.plainGet K C Str.empty = true)
    (hd : PySem.W.hasDictIn K C = true)
    (po : PySem.W.plainOver K C = true)
    (sa : PySem.W.findIn K (.ref C) "__setattr__" = some (some (.builtin "object.__setattr__")))
    (mk : PySem.W.makesIn K C = true)
    (kc : PySem.W.keepIn K (.ref C) = true)
    (n0 : PySem.W.findIn K (.ref C) "code" = some none)
    (n1 : PySem.W.findIn K (.ref C) "numbers" = some none)
    (n2 : PySem.W.findIn K (.ref C) "lists" = some none) {γ : Prop} (kk : TCa K mg → γ) : γ :=
  kk
   {C := C,
    g := PySem.W.mg_of X G aC,
    cl := ⟨pg, hd, po, sa⟩,
    init := ⟨f0, _, fun_mk (st := st_Call_init) l0 c0 k0, (fun_mk (st := st_Call_init) l0 c0 k0).binds (ps := ["self", "code", "numbers", "lists"]) (fun _ _ _ _ _ _ us hl => (match us, hl with | [_, _, _, _], _ => rfl))⟩,
    mak := ⟨mk, a0, i0, kc⟩,
    n_code := n0,
    n_numbers := n1,
    n_lists := n2}
theorem mk_Re {K : PySem.W.Frag} {h : Heap} {mg : Str → Option Value} (X : K.In h) (G : h.Ns mainGlobals mg) {C : Addr} {f0 f1 f2 f3 f4 f5 : Addr} {od0 an0 od1 an1 od2 an2 od3 an3 od4 an4 od5 an5 : Option Addr} {sl0 sl1 sl2 sl3 sl4 sl5 : Array (Option Value)} {oc0 kV0 dc0 pm0 cd0 ct0 oc1 kV1 dc1 pm1 cd1 ct1 oc2 kV2 dc2 pm2 cd2 ct2 oc3 kV3 dc3 pm3 cd3 ct3 oc4 kV4 dc4 pm4 cd4 ct4 oc5 kV5 dc5 pm5 cd5 ct5 : Value}
    (aC : PySem.W.nsIn K mainGlobals "Reader" = some (some (.ref C)))
    (a0 : PySem.W.findIn K (.ref C) "__init__" = some (some (.ref f0)))
    (i0 : PySem.W.isFn K (.ref f0) = true)
    (l0 : K.lookup f0 = some ⟨oc0, od0, .func (PySem.W.fnOf "__init__" "Reader.__init__" (defArgs st_Reader_init) (defBody st_Reader_init) (defScope st_Reader_init) .none kV0 dc0 pm0 an0 cd0 ct0), sl0⟩)
    (c0 : PySem.W.codeIn K cd0 "Reader.__init__" = true)
    (k0 : PySem.W.keepIn K (.ref f0) = true)
    (a1 : PySem.W.findIn K (.ref C) "has_more" = some (some (.ref f1)))
    (i1 : PySem.W.isFn K (.ref f1) = true)
    (l1 : K.lookup f1 = some ⟨oc1, od1, .func (PySem.W.fnOf "has_more" "Reader.has_more" (defArgs st_Reader_has_more) (defBody st_Reader_has_more) (defScope st_Reader_has_more) .none kV1 dc1 pm1 an1 cd1 ct1), sl1⟩)
    (c1 : PySem.W.codeIn K cd1 "Reader.has_more" = true)
    (k1 : PySem.W.keepIn K (.ref f1) = true)
    (a2 : PySem.W.findIn K (.ref C) "take_number" = some (some (.ref f2)))
    (i2 : PySem.W.isFn K (.ref f2) = true)
    (l2 : K.lookup f2 = some ⟨oc2, od2, .func (PySem.W.fnOf "take_number" "Reader.take_number" (defArgs st_Reader_take_number) (defBody st_Reader_take_number) (defScope st_Reader_take_number) .none kV2 dc2 pm2 an2 cd2 ct2), sl2⟩)
    (c2 : PySem.W.codeIn K cd2 "Reader.take_number" = true)
    (k2 : PySem.W.keepIn K (.ref f2) = true)
    (a3 : PySem.W.findIn K (.ref C) "take_numbers" = some (some (.ref f3)))
    (i3 : PySem.W.isFn K (.ref f3) = true)
    (l3 : K.lookup f3 = some ⟨oc3, od3, .func (PySem.W.fnOf "take_numbers" "Reader.take_numbers" (defArgs st_Reader_take_numbers) (defBody st_Reader_take_numbers) (defScope st_Reader_take_numbers) .none kV3 dc3 pm3 an3 cd3 ct3), sl3⟩)
    (c3 : PySem.W.codeIn K cd3 "Reader.take_numbers" = true)
    (k3 : PySem.W.keepIn K (.ref f3) = true)
    (a4 : PySem.W.findIn K (.ref C) "take_lists" = some (some (.ref f4)))
    (i4 : PySem.W.isFn K (.ref f4) = true)
    (l4 : K.lookup f4 = some ⟨oc4, od4, .func (PySem.W.fnOf "take_lists" "Reader.take_lists" (defArgs st_Reader_take_lists) (defBody st_Reader_take_lists) (defScope st_Reader_take_lists) .none kV4 dc4 pm4 an4 cd4 ct4), sl4⟩)
    (c4 : PySem.W.codeIn K cd4 "Reader.take_lists" = true)
    (k4 : PySem.W.keepIn K (.ref f4) = true)
    (a5 : PySem.W.findIn K (.ref C) "take_call" = some (some (.ref f5)))
    (i5 : PySem.W.isFn K (.ref f5) = true)
    (l5 : K.lookup f5 = some ⟨oc5, od5, .func (PySem.W.fnOf "take_call" "Reader.take_call" (defArgs st_Reader_take_call) (defBody st_Reader_take_call) (defScope st_Reader_take_call) .none kV5 dc5 pm5 an5 cd5 ct5), sl5⟩)
    (c5 : PySem.W.codeIn K cd5 "Reader.take_call" = true)
    (k5 : PySem.W.keepIn K (.ref f5) = true)
    (pg : PySem.W.plainGet K C Str.empty = true)
    (hd : PySem.W.hasDictIn K C = true)
    (po : PySem.W.plainOver K C = true)
    (sa : PySem.W.findIn K (.ref C) "__setattr__" = some (some (.builtin "object.__setattr__")))
    (mk : PySem.W.makesIn K C = true)
    (kc : PySem.W.keepIn K (.ref C) = true)
    (n0 : PySem.W.findIn K (.ref C) "row" = some none)
    (n1 : PySem.W.findIn K (.ref C) "at" = some none) {γ : Prop} (kk : TRe K mg → γ) : γ :=
  kk
   {C := C,
    g := PySem.W.mg_of X G aC,
    cl := ⟨pg, hd, po, sa⟩,
    init := ⟨f0, _, fun_mk (st := st_Reader_init) l0 c0 k0, (fun_mk (st := st_Reader_init) l0 c0 k0).binds (ps := ["self", "row"]) (fun _ _ _ _ _ _ us hl => (match us, hl with | [_, _], _ => rfl))⟩,
    has_more := ⟨f1, _, fun_mk (st := st_Reader_has_more) l1 c1 k1, (fun_mk (st := st_Reader_has_more) l1 c1 k1).binds (ps := ["self"]) (fun _ _ _ _ _ _ us hl => (match us, hl with | [_], _ => rfl))⟩,
    m_has_more := ⟨a1, i1, k1⟩,
    take_number := ⟨f2, _, fun_mk (st := st_Reader_take_number) l2 c2 k2, (fun_mk (st := st_Reader_take_number) l2 c2 k2).binds (ps := ["self"]) (fun _ _ _ _ _ _ us hl => (match us, hl with | [_], _ => rfl))⟩,
    m_take_number := ⟨a2, i2, k2⟩,
    take_numbers := ⟨f3, _, fun_mk (st := st_Reader_take_numbers) l3 c3 k3, (fun_mk (st := st_Reader_take_numbers) l3 c3 k3).binds (ps := ["self"]) (fun _ _ _ _ _ _ us hl => (match us, hl with | [_], _ => rfl))⟩,
    m_take_numbers := ⟨a3, i3, k3⟩,
    take_lists := ⟨f4, _, fun_mk (st := st_Reader_take_lists) l4 c4 k4, (fun_mk (st := st_Reader_take_lists) l4 c4 k4).binds (ps := ["self"]) (fun _ _ _ _ _ _ us hl => (match us, hl with | [_], _ => rfl))⟩,
    m_take_lists := ⟨a4, i4, k4⟩,
    take_call := ⟨f5, _, fun_mk (st := st_Reader_take_call) l5 c5 k5, (fun_mk (st := st_Reader_take_call) l5 c5 k5).binds (ps := ["self"]) (fun _ _ _ _ _ _ us hl => (match us, hl with | [_], _ => rfl))⟩,
    m_take_call := ⟨a5, i5, k5⟩,
    mak := ⟨mk, a0, i0, kc⟩,
    n_row := n0,
    n_at := n1}
theorem mk_De {K : PySem.W.Frag} {h : Heap} {mg : Str → Option Value} (X : K.In h) (G : h.Ns mainGlobals mg) {C : Addr} {f0 f1 f2 f3 f4 f5 f6 f7 f8 f9 f10 f11 f12 f13 : Addr} {od0 an0 od1 an1 od2 an2 od3 an3 od4 an4 od5 an5 od6 an6 od7 an7 od8 an8 od9 an9 od10 an10 od11 an11 od12 an12 od13 an13 : Option Addr} {sl0 sl1 sl2 sl3 sl4 sl5 sl6 sl7 sl8 sl9 sl10 sl11 sl12 sl13 : Array (Option Value)} {oc0 kV0 dc0 pm0 cd0 ct0 oc1 kV1 dc1 pm1 cd1 ct1 oc2 kV2 dc2 pm2 cd2 ct2 oc3 kV3 dc3 pm3 cd3 ct3 oc4 kV4 dc4 pm4 cd4 ct4 oc5 kV5 dc5 pm5 cd5 ct5 oc6 kV6 dc6 pm6 cd6 ct6 oc7 kV7 dc7 pm7 cd7 ct7 oc8 kV8 dc8 pm8 cd8 ct8 oc9 kV9 dc9 pm9 cd9 ct9 oc10 kV10 dc10 pm10 cd10 ct10 oc11 kV11 dc11 pm11 cd11 ct11 oc12 kV12 dc12 pm12 cd12 ct12 oc13 kV13 dc13 pm13 cd13 ct13 : Value}
    (aC : PySem.W.nsIn K mainGlobals "Device" = some (some (.ref C)))
    (a0 : PySem.W.findIn K (.ref C) "__init__" = some (some (.ref f0)))
    (i0 : PySem.W.isFn K (.ref f0) = true)
    (l0 : K.lookup f0 = some ⟨oc0, od0, .func (PySem.W.fnOf "__init__" "Device.__init__" (defArgs st_Device_init) (defBody st_Device_init) (defScope st_Device_init) .none kV0 dc0 pm0 an0 cd0 ct0), sl0⟩)
    (c0 : PySem.W.codeIn K cd0 "Device.__init__" = true)
    (k0 : PySem.W.keepIn K (.ref f0) = true)
    (a1 : PySem.W.findIn K (.ref C) "has_block" = some (some (.ref f1)))
    (i1 : PySem.W.isFn K (.ref f1) = true)
    (l1 : K.lookup f1 = some ⟨oc1, od1, .func (PySem.W.fnOf "has_block" "Device.has_block" (defArgs st_Device_has_block) (defBody st_Device_has_block) (defScope st_Device_has_block) .none kV1 dc1 pm1 an1 cd1 ct1), sl1⟩)
    (c1 : PySem.W.codeIn K cd1 "Device.has_block" = true)
    (k1 : PySem.W.keepIn K (.ref f1) = true)
    (a2 : PySem.W.findIn K (.ref C) "sure_block" = some (some (.ref f2)))
    (i2 : PySem.W.isFn K (.ref f2) = true)
    (l2 : K.lookup f2 = some ⟨oc2, od2, .func (PySem.W.fnOf "sure_block" "Device.sure_block" (defArgs st_Device_sure_block) (defBody st_Device_sure_block) (defScope st_Device_sure_block) .none kV2 dc2 pm2 an2 cd2 ct2), sl2⟩)
    (c2 : PySem.W.codeIn K cd2 "Device.sure_block" = true)
    (k2 : PySem.W.keepIn K (.ref f2) = true)
    (a3 : PySem.W.findIn K (.ref C) "block_now" = some (some (.ref f3)))
    (i3 : PySem.W.isFn K (.ref f3) = true)
    (l3 : K.lookup f3 = some ⟨oc3, od3, .func (PySem.W.fnOf "block_now" "Device.block_now" (defArgs st_Device_block_now) (defBody st_Device_block_now) (defScope st_Device_block_now) .none kV3 dc3 pm3 an3 cd3 ct3), sl3⟩)
    (c3 : PySem.W.codeIn K cd3 "Device.block_now" = true)
    (k3 : PySem.W.keepIn K (.ref f3) = true)
    (a4 : PySem.W.findIn K (.ref C) "read" = some (some (.ref f4)))
    (i4 : PySem.W.isFn K (.ref f4) = true)
    (l4 : K.lookup f4 = some ⟨oc4, od4, .func (PySem.W.fnOf "read" "Device.read" (defArgs st_Device_read) (defBody st_Device_read) (defScope st_Device_read) .none kV4 dc4 pm4 an4 cd4 ct4), sl4⟩)
    (c4 : PySem.W.codeIn K cd4 "Device.read" = true)
    (k4 : PySem.W.keepIn K (.ref f4) = true)
    (a5 : PySem.W.findIn K (.ref C) "take" = some (some (.ref f5)))
    (i5 : PySem.W.isFn K (.ref f5) = true)
    (l5 : K.lookup f5 = some ⟨oc5, od5, .func (PySem.W.fnOf "take" "Device.take" (defArgs st_Device_take) (defBody st_Device_take) (defScope st_Device_take) .none kV5 dc5 pm5 an5 cd5 ct5), sl5⟩)
    (c5 : PySem.W.codeIn K cd5 "Device.take" = true)
    (k5 : PySem.W.keepIn K (.ref f5) = true)
    (a6 : PySem.W.findIn K (.ref C) "write" = some (some (.ref f6)))
    (i6 : PySem.W.isFn K (.ref f6) = true)
    (l6 : K.lookup f6 = some ⟨oc6, od6, .func (PySem.W.fnOf "write" "Device.write" (defArgs st_Device_write) (defBody st_Device_write) (defScope st_Device_write) .none kV6 dc6 pm6 an6 cd6 ct6), sl6⟩)
    (c6 : PySem.W.codeIn K cd6 "Device.write" = true)
    (k6 : PySem.W.keepIn K (.ref f6) = true)
    (a7 : PySem.W.findIn K (.ref C) "flush" = some (some (.ref f7)))
    (i7 : PySem.W.isFn K (.ref f7) = true)
    (l7 : K.lookup f7 = some ⟨oc7, od7, .func (PySem.W.fnOf "flush" "Device.flush" (defArgs st_Device_flush) (defBody st_Device_flush) (defScope st_Device_flush) .none kV7 dc7 pm7 an7 cd7 ct7), sl7⟩)
    (c7 : PySem.W.codeIn K cd7 "Device.flush" = true)
    (k7 : PySem.W.keepIn K (.ref f7) = true)
    (a8 : PySem.W.findIn K (.ref C) "peek" = some (some (.ref f8)))
    (i8 : PySem.W.isFn K (.ref f8) = true)
    (l8 : K.lookup f8 = some ⟨oc8, od8, .func (PySem.W.fnOf "peek" "Device.peek" (defArgs st_Device_peek) (defBody st_Device_peek) (defScope st_Device_peek) .none kV8 dc8 pm8 an8 cd8 ct8), sl8⟩)
    (c8 : PySem.W.codeIn K cd8 "Device.peek" = true)
    (k8 : PySem.W.keepIn K (.ref f8) = true)
    (a9 : PySem.W.findIn K (.ref C) "leave" = some (some (.ref f9)))
    (i9 : PySem.W.isFn K (.ref f9) = true)
    (l9 : K.lookup f9 = some ⟨oc9, od9, .func (PySem.W.fnOf "leave" "Device.leave" (defArgs st_Device_leave) (defBody st_Device_leave) (defScope st_Device_leave) .none kV9 dc9 pm9 an9 cd9 ct9), sl9⟩)
    (c9 : PySem.W.codeIn K cd9 "Device.leave" = true)
    (k9 : PySem.W.keepIn K (.ref f9) = true)
    (a10 : PySem.W.findIn K (.ref C) "sicken" = some (some (.ref f10)))
    (i10 : PySem.W.isFn K (.ref f10) = true)
    (l10 : K.lookup f10 = some ⟨oc10, od10, .func (PySem.W.fnOf "sicken" "Device.sicken" (defArgs st_Device_sicken) (defBody st_Device_sicken) (defScope st_Device_sicken) .none kV10 dc10 pm10 an10 cd10 ct10), sl10⟩)
    (c10 : PySem.W.codeIn K cd10 "Device.sicken" = true)
    (k10 : PySem.W.keepIn K (.ref f10) = true)
    (a11 : PySem.W.findIn K (.ref C) "rot" = some (some (.ref f11)))
    (i11 : PySem.W.isFn K (.ref f11) = true)
    (l11 : K.lookup f11 = some ⟨oc11, od11, .func (PySem.W.fnOf "rot" "Device.rot" (defArgs st_Device_rot) (defBody st_Device_rot) (defScope st_Device_rot) .none kV11 dc11 pm11 an11 cd11 ct11), sl11⟩)
    (c11 : PySem.W.codeIn K cd11 "Device.rot" = true)
    (k11 : PySem.W.keepIn K (.ref f11) = true)
    (a12 : PySem.W.findIn K (.ref C) "lose_power" = some (some (.ref f12)))
    (i12 : PySem.W.isFn K (.ref f12) = true)
    (l12 : K.lookup f12 = some ⟨oc12, od12, .func (PySem.W.fnOf "lose_power" "Device.lose_power" (defArgs st_Device_lose_power) (defBody st_Device_lose_power) (defScope st_Device_lose_power) .none kV12 dc12 pm12 an12 cd12 ct12), sl12⟩)
    (c12 : PySem.W.codeIn K cd12 "Device.lose_power" = true)
    (k12 : PySem.W.keepIn K (.ref f12) = true)
    (a13 : PySem.W.findIn K (.ref C) "tear" = some (some (.ref f13)))
    (i13 : PySem.W.isFn K (.ref f13) = true)
    (l13 : K.lookup f13 = some ⟨oc13, od13, .func (PySem.W.fnOf "tear" "Device.tear" (defArgs st_Device_tear) (defBody st_Device_tear) (defScope st_Device_tear) .none kV13 dc13 pm13 an13 cd13 ct13), sl13⟩)
    (c13 : PySem.W.codeIn K cd13 "Device.tear" = true)
    (k13 : PySem.W.keepIn K (.ref f13) = true)
    (pg : PySem.W.plainGet K C Str.empty = true)
    (hd : PySem.W.hasDictIn K C = true)
    (po : PySem.W.plainOver K C = true)
    (sa : PySem.W.findIn K (.ref C) "__setattr__" = some (some (.builtin "object.__setattr__")))
    (mk : PySem.W.makesIn K C = true)
    (kc : PySem.W.keepIn K (.ref C) = true)
    (n0 : PySem.W.findIn K (.ref C) "size" = some none)
    (n1 : PySem.W.findIn K (.ref C) "sure" = some none)
    (n2 : PySem.W.findIn K (.ref C) "coming" = some none)
    (n3 : PySem.W.findIn K (.ref C) "sick" = some none)
    (n4 : PySem.W.findIn K (.ref C) "gone" = some none) {γ : Prop} (kk : TDe K mg → γ) : γ :=
  kk
   {C := C,
    g := PySem.W.mg_of X G aC,
    cl := ⟨pg, hd, po, sa⟩,
    init := ⟨f0, _, fun_mk (st := st_Device_init) l0 c0 k0, (fun_mk (st := st_Device_init) l0 c0 k0).binds (ps := ["self", "size"]) (fun _ _ _ _ _ _ us hl => (match us, hl with | [_, _], _ => rfl))⟩,
    has_block := ⟨f1, _, fun_mk (st := st_Device_has_block) l1 c1 k1, (fun_mk (st := st_Device_has_block) l1 c1 k1).binds (ps := ["self", "k"]) (fun _ _ _ _ _ _ us hl => (match us, hl with | [_, _], _ => rfl))⟩,
    m_has_block := ⟨a1, i1, k1⟩,
    sure_block := ⟨f2, _, fun_mk (st := st_Device_sure_block) l2 c2 k2, (fun_mk (st := st_Device_sure_block) l2 c2 k2).binds (ps := ["self", "k"]) (fun _ _ _ _ _ _ us hl => (match us, hl with | [_, _], _ => rfl))⟩,
    m_sure_block := ⟨a2, i2, k2⟩,
    block_now := ⟨f3, _, fun_mk (st := st_Device_block_now) l3 c3 k3, (fun_mk (st := st_Device_block_now) l3 c3 k3).binds (ps := ["self", "k"]) (fun _ _ _ _ _ _ us hl => (match us, hl with | [_, _], _ => rfl))⟩,
    m_block_now := ⟨a3, i3, k3⟩,
    read := ⟨f4, _, fun_mk (st := st_Device_read) l4 c4 k4, (fun_mk (st := st_Device_read) l4 c4 k4).binds (ps := ["self", "k"]) (fun _ _ _ _ _ _ us hl => (match us, hl with | [_, _], _ => rfl))⟩,
    m_read := ⟨a4, i4, k4⟩,
    take := ⟨f5, _, fun_mk (st := st_Device_take) l5 c5 k5, (fun_mk (st := st_Device_take) l5 c5 k5).binds (ps := ["self", "k", "block"]) (fun _ _ _ _ _ _ us hl => (match us, hl with | [_, _, _], _ => rfl))⟩,
    m_take := ⟨a5, i5, k5⟩,
    write := ⟨f6, _, fun_mk (st := st_Device_write) l6 c6 k6, (fun_mk (st := st_Device_write) l6 c6 k6).binds (ps := ["self", "k", "block"]) (fun _ _ _ _ _ _ us hl => (match us, hl with | [_, _, _], _ => rfl))⟩,
    m_write := ⟨a6, i6, k6⟩,
    flush := ⟨f7, _, fun_mk (st := st_Device_flush) l7 c7 k7, (fun_mk (st := st_Device_flush) l7 c7 k7).binds (ps := ["self"]) (fun _ _ _ _ _ _ us hl => (match us, hl with | [_], _ => rfl))⟩,
    m_flush := ⟨a7, i7, k7⟩,
    peek := ⟨f8, _, fun_mk (st := st_Device_peek) l8 c8 k8, (fun_mk (st := st_Device_peek) l8 c8 k8).binds (ps := ["self", "k"]) (fun _ _ _ _ _ _ us hl => (match us, hl with | [_, _], _ => rfl))⟩,
    m_peek := ⟨a8, i8, k8⟩,
    leave := ⟨f9, _, fun_mk (st := st_Device_leave) l9 c9 k9, (fun_mk (st := st_Device_leave) l9 c9 k9).binds (ps := ["self"]) (fun _ _ _ _ _ _ us hl => (match us, hl with | [_], _ => rfl))⟩,
    m_leave := ⟨a9, i9, k9⟩,
    sicken := ⟨f10, _, fun_mk (st := st_Device_sicken) l10 c10 k10, (fun_mk (st := st_Device_sicken) l10 c10 k10).binds (ps := ["self", "k"]) (fun _ _ _ _ _ _ us hl => (match us, hl with | [_, _], _ => rfl))⟩,
    m_sicken := ⟨a10, i10, k10⟩,
    rot := ⟨f11, _, fun_mk (st := st_Device_rot) l11 c11 k11, (fun_mk (st := st_Device_rot) l11 c11 k11).binds (ps := ["self", "k", "j", "v"]) (fun _ _ _ _ _ _ us hl => (match us, hl with | [_, _, _, _], _ => rfl))⟩,
    m_rot := ⟨a11, i11, k11⟩,
    lose_power := ⟨f12, _, fun_mk (st := st_Device_lose_power) l12 c12 k12, (fun_mk (st := st_Device_lose_power) l12 c12 k12).binds (ps := ["self", "mask", "length"]) (fun _ _ _ _ _ _ us hl => (match us, hl with | [_, _, _], _ => rfl))⟩,
    m_lose_power := ⟨a12, i12, k12⟩,
    tear := ⟨f13, _, fun_mk (st := st_Device_tear) l13 c13 k13, (fun_mk (st := st_Device_tear) l13 c13 k13).binds (ps := ["self", "sent", "length"]) (fun _ _ _ _ _ _ us hl => (match us, hl with | [_, _, _], _ => rfl))⟩,
    m_tear := ⟨a13, i13, k13⟩,
    mak := ⟨mk, a0, i0, kc⟩,
    n_size := n0,
    n_sure := n1,
    n_coming := n2,
    n_sick := n3,
    n_gone := n4}
theorem mk_Pg {K : PySem.W.Frag} {h : Heap} {mg : Str → Option Value} (X : K.In h) (G : h.Ns mainGlobals mg) {C : Addr} (aC : PySem.W.nsIn K mainGlobals "PowerGone" = some (some (.ref C)))
    (xF : PySem.W.excIn K C [.type "Exception", .type "BaseException", .type "object"] "Exception.__new__" = true) (kF : PySem.W.keepIn K (.ref C) = true) (bF : PySem.W.subIn K (.ref C) (.type "BaseException") = some true) (tF : PySem.W.typeIn K (.ref C) = some (.type "type"))
    (iF : PySem.W.isClsIn K C = true) (sF : PySem.W.subIn K (.ref C) (.ref C) = some true) {γ : Prop} (kk : TPg K mg → γ) : γ :=
  kk ⟨C, PySem.W.mg_of X G aC, xF, kF, bF, tF, exm_self bF iF tF sF⟩
theorem mk_Li {K : PySem.W.Frag} {h : Heap} {mg : Str → Option Value} (X : K.In h) (G : h.Ns mainGlobals mg) {C : Addr} {f0 f1 f2 f3 f4 f5 f6 f7 f8 : Addr} {od0 an0 od1 an1 od2 an2 od3 an3 od4 an4 od5 an5 od6 an6 od7 an7 od8 an8 : Option Addr} {sl0 sl1 sl2 sl3 sl4 sl5 sl6 sl7 sl8 : Array (Option Value)} {oc0 kV0 dc0 pm0 cd0 ct0 oc1 kV1 dc1 pm1 cd1 ct1 oc2 kV2 dc2 pm2 cd2 ct2 oc3 kV3 dc3 pm3 cd3 ct3 oc4 kV4 dc4 pm4 cd4 ct4 oc5 kV5 dc5 pm5 cd5 ct5 oc6 kV6 dc6 pm6 cd6 ct6 oc7 kV7 dc7 pm7 cd7 ct7 oc8 kV8 dc8 pm8 cd8 ct8 : Value}
    (aC : PySem.W.nsIn K mainGlobals "Line" = some (some (.ref C)))
    (a0 : PySem.W.findIn K (.ref C) "__init__" = some (some (.ref f0)))
    (i0 : PySem.W.isFn K (.ref f0) = true)
    (l0 : K.lookup f0 = some ⟨oc0, od0, .func (PySem.W.fnOf "__init__" "Line.__init__" (defArgs st_Line_init) (defBody st_Line_init) (defScope st_Line_init) .none kV0 dc0 pm0 an0 cd0 ct0), sl0⟩)
    (c0 : PySem.W.codeIn K cd0 "Line.__init__" = true)
    (k0 : PySem.W.keepIn K (.ref f0) = true)
    (a1 : PySem.W.findIn K (.ref C) "there" = some (some (.ref f1)))
    (i1 : PySem.W.isFn K (.ref f1) = true)
    (l1 : K.lookup f1 = some ⟨oc1, od1, .func (PySem.W.fnOf "there" "Line.there" (defArgs st_Line_there) (defBody st_Line_there) (defScope st_Line_there) .none kV1 dc1 pm1 an1 cd1 ct1), sl1⟩)
    (c1 : PySem.W.codeIn K cd1 "Line.there" = true)
    (k1 : PySem.W.keepIn K (.ref f1) = true)
    (a2 : PySem.W.findIn K (.ref C) "count_ask" = some (some (.ref f2)))
    (i2 : PySem.W.isFn K (.ref f2) = true)
    (l2 : K.lookup f2 = some ⟨oc2, od2, .func (PySem.W.fnOf "count_ask" "Line.count_ask" (defArgs st_Line_count_ask) (defBody st_Line_count_ask) (defScope st_Line_count_ask) .none kV2 dc2 pm2 an2 cd2 ct2), sl2⟩)
    (c2 : PySem.W.codeIn K cd2 "Line.count_ask" = true)
    (k2 : PySem.W.keepIn K (.ref f2) = true)
    (a3 : PySem.W.findIn K (.ref C) "switch_off" = some (some (.ref f3)))
    (i3 : PySem.W.isFn K (.ref f3) = true)
    (l3 : K.lookup f3 = some ⟨oc3, od3, .func (PySem.W.fnOf "switch_off" "Line.switch_off" (defArgs st_Line_switch_off) (defBody st_Line_switch_off) (defScope st_Line_switch_off) .none kV3 dc3 pm3 an3 cd3 ct3), sl3⟩)
    (c3 : PySem.W.codeIn K cd3 "Line.switch_off" = true)
    (k3 : PySem.W.keepIn K (.ref f3) = true)
    (a4 : PySem.W.findIn K (.ref C) "peek" = some (some (.ref f4)))
    (i4 : PySem.W.isFn K (.ref f4) = true)
    (l4 : K.lookup f4 = some ⟨oc4, od4, .func (PySem.W.fnOf "peek" "Line.peek" (defArgs st_Line_peek) (defBody st_Line_peek) (defScope st_Line_peek) .none kV4 dc4 pm4 an4 cd4 ct4), sl4⟩)
    (c4 : PySem.W.codeIn K cd4 "Line.peek" = true)
    (k4 : PySem.W.keepIn K (.ref f4) = true)
    (a5 : PySem.W.findIn K (.ref C) "alive" = some (some (.ref f5)))
    (i5 : PySem.W.isFn K (.ref f5) = true)
    (l5 : K.lookup f5 = some ⟨oc5, od5, .func (PySem.W.fnOf "alive" "Line.alive" (defArgs st_Line_alive) (defBody st_Line_alive) (defScope st_Line_alive) .none kV5 dc5 pm5 an5 cd5 ct5), sl5⟩)
    (c5 : PySem.W.codeIn K cd5 "Line.alive" = true)
    (k5 : PySem.W.keepIn K (.ref f5) = true)
    (a6 : PySem.W.findIn K (.ref C) "read" = some (some (.ref f6)))
    (i6 : PySem.W.isFn K (.ref f6) = true)
    (l6 : K.lookup f6 = some ⟨oc6, od6, .func (PySem.W.fnOf "read" "Line.read" (defArgs st_Line_read) (defBody st_Line_read) (defScope st_Line_read) .none kV6 dc6 pm6 an6 cd6 ct6), sl6⟩)
    (c6 : PySem.W.codeIn K cd6 "Line.read" = true)
    (k6 : PySem.W.keepIn K (.ref f6) = true)
    (a7 : PySem.W.findIn K (.ref C) "write" = some (some (.ref f7)))
    (i7 : PySem.W.isFn K (.ref f7) = true)
    (l7 : K.lookup f7 = some ⟨oc7, od7, .func (PySem.W.fnOf "write" "Line.write" (defArgs st_Line_write) (defBody st_Line_write) (defScope st_Line_write) .none kV7 dc7 pm7 an7 cd7 ct7), sl7⟩)
    (c7 : PySem.W.codeIn K cd7 "Line.write" = true)
    (k7 : PySem.W.keepIn K (.ref f7) = true)
    (a8 : PySem.W.findIn K (.ref C) "flush" = some (some (.ref f8)))
    (i8 : PySem.W.isFn K (.ref f8) = true)
    (l8 : K.lookup f8 = some ⟨oc8, od8, .func (PySem.W.fnOf "flush" "Line.flush" (defArgs st_Line_flush) (defBody st_Line_flush) (defScope st_Line_flush) .none kV8 dc8 pm8 an8 cd8 ct8), sl8⟩)
    (c8 : PySem.W.codeIn K cd8 "Line.flush" = true)
    (k8 : PySem.W.keepIn K (.ref f8) = true)
    (pg : PySem.W.plainGet K C Str.empty = true)
    (hd : PySem.W.hasDictIn K C = true)
    (po : PySem.W.plainOver K C = true)
    (sa : PySem.W.findIn K (.ref C) "__setattr__" = some (some (.builtin "object.__setattr__")))
    (mk : PySem.W.makesIn K C = true)
    (kc : PySem.W.keepIn K (.ref C) = true)
    (n0 : PySem.W.findIn K (.ref C) "devices" = some none)
    (n1 : PySem.W.findIn K (.ref C) "entries" = some none)
    (n2 : PySem.W.findIn K (.ref C) "ask_count" = some none) {γ : Prop} (kk : TLi K mg → γ) : γ :=
  kk
   {C := C,
    g := PySem.W.mg_of X G aC,
    cl := ⟨pg, hd, po, sa⟩,
    init := ⟨f0, _, fun_mk (st := st_Line_init) l0 c0 k0, (fun_mk (st := st_Line_init) l0 c0 k0).binds (ps := ["self", "sizes", "script"]) (fun _ _ _ _ _ _ us hl => (match us, hl with | [_, _, _], _ => rfl))⟩,
    there := ⟨f1, _, fun_mk (st := st_Line_there) l1 c1 k1, (fun_mk (st := st_Line_there) l1 c1 k1).binds (ps := ["self", "d"]) (fun _ _ _ _ _ _ us hl => (match us, hl with | [_, _], _ => rfl))⟩,
    m_there := ⟨a1, i1, k1⟩,
    count_ask := ⟨f2, _, fun_mk (st := st_Line_count_ask) l2 c2 k2, (fun_mk (st := st_Line_count_ask) l2 c2 k2).binds (ps := ["self", "d"]) (fun _ _ _ _ _ _ us hl => (match us, hl with | [_, _], _ => rfl))⟩,
    m_count_ask := ⟨a2, i2, k2⟩,
    switch_off := ⟨f3, _, fun_mk (st := st_Line_switch_off) l3 c3 k3, (fun_mk (st := st_Line_switch_off) l3 c3 k3).binds (ps := ["self", "mask", "length"]) (fun _ _ _ _ _ _ us hl => (match us, hl with | [_, _, _], _ => rfl))⟩,
    m_switch_off := ⟨a3, i3, k3⟩,
    peek := ⟨f4, _, fun_mk (st := st_Line_peek) l4 c4 k4, (fun_mk (st := st_Line_peek) l4 c4 k4).binds (ps := ["self", "d", "k"]) (fun _ _ _ _ _ _ us hl => (match us, hl with | [_, _, _], _ => rfl))⟩,
    m_peek := ⟨a4, i4, k4⟩,
    alive := ⟨f5, _, fun_mk (st := st_Line_alive) l5 c5 k5, (fun_mk (st := st_Line_alive) l5 c5 k5).binds (ps := ["self", "d"]) (fun _ _ _ _ _ _ us hl => (match us, hl with | [_, _], _ => rfl))⟩,
    m_alive := ⟨a5, i5, k5⟩,
    read := ⟨f6, _, fun_mk (st := st_Line_read) l6 c6 k6, (fun_mk (st := st_Line_read) l6 c6 k6).binds (ps := ["self", "d", "k"]) (fun _ _ _ _ _ _ us hl => (match us, hl with | [_, _, _], _ => rfl))⟩,
    m_read := ⟨a6, i6, k6⟩,
    write := ⟨f7, _, fun_mk (st := st_Line_write) l7 c7 k7, (fun_mk (st := st_Line_write) l7 c7 k7).binds (ps := ["self", "d", "k", "block"]) (fun _ _ _ _ _ _ us hl => (match us, hl with | [_, _, _, _], _ => rfl))⟩,
    m_write := ⟨a7, i7, k7⟩,
    flush := ⟨f8, _, fun_mk (st := st_Line_flush) l8 c8 k8, (fun_mk (st := st_Line_flush) l8 c8 k8).binds (ps := ["self", "d"]) (fun _ _ _ _ _ _ us hl => (match us, hl with | [_, _], _ => rfl))⟩,
    m_flush := ⟨a8, i8, k8⟩,
    mak := ⟨mk, a0, i0, kc⟩,
    n_devices := n0,
    n_entries := n1,
    n_ask_count := n2}
theorem mk_Po {K : PySem.W.Frag} {h : Heap} {mg : Str → Option Value} (X : K.In h) (G : h.Ns mainGlobals mg) {C : Addr} {f0 f1 f2 f3 f4 f5 f6 f7 f8 f9 f10 f11 f12 f13 f14 f15 f16 f17 : Addr} {od0 an0 od1 an1 od2 an2 od3 an3 od4 an4 od5 an5 od6 an6 od7 an7 od8 an8 od9 an9 od10 an10 od11 an11 od12 an12 od13 an13 od14 an14 od15 an15 od16 an16 od17 an17 : Option Addr} {sl0 sl1 sl2 sl3 sl4 sl5 sl6 sl7 sl8 sl9 sl10 sl11 sl12 sl13 sl14 sl15 sl16 sl17 : Array (Option Value)} {oc0 kV0 dc0 pm0 cd0 ct0 oc1 kV1 dc1 pm1 cd1 ct1 oc2 kV2 dc2 pm2 cd2 ct2 oc3 kV3 dc3 pm3 cd3 ct3 oc4 kV4 dc4 pm4 cd4 ct4 oc5 kV5 dc5 pm5 cd5 ct5 oc6 kV6 dc6 pm6 cd6 ct6 oc7 kV7 dc7 pm7 cd7 ct7 oc8 kV8 dc8 pm8 cd8 ct8 oc9 kV9 dc9 pm9 cd9 ct9 oc10 kV10 dc10 pm10 cd10 ct10 oc11 kV11 dc11 pm11 cd11 ct11 oc12 kV12 dc12 pm12 cd12 ct12 oc13 kV13 dc13 pm13 cd13 ct13 oc14 kV14 dc14 pm14 cd14 ct14 oc15 kV15 dc15 pm15 cd15 ct15 oc16 kV16 dc16 pm16 cd16 ct16 oc17 kV17 dc17 pm17 cd17 ct17 : Value}
    (aC : PySem.W.nsIn K mainGlobals "Pool" = some (some (.ref C)))
    (a0 : PySem.W.findIn K (.ref C) "__init__" = some (some (.ref f0)))
    (i0 : PySem.W.isFn K (.ref f0) = true)
    (l0 : K.lookup f0 = some ⟨oc0, od0, .func (PySem.W.fnOf "__init__" "Pool.__init__" (defArgs st_Pool_init) (defBody st_Pool_init) (defScope st_Pool_init) .none kV0 dc0 pm0 an0 cd0 ct0), sl0⟩)
    (c0 : PySem.W.codeIn K cd0 "Pool.__init__" = true)
    (k0 : PySem.W.keepIn K (.ref f0) = true)
    (a1 : PySem.W.findIn K (.ref C) "places" = some (some (.ref f1)))
    (i1 : PySem.W.isFn K (.ref f1) = true)
    (l1 : K.lookup f1 = some ⟨oc1, od1, .func (PySem.W.fnOf "places" "Pool.places" (defArgs st_Pool_places) (defBody st_Pool_places) (defScope st_Pool_places) .none kV1 dc1 pm1 an1 cd1 ct1), sl1⟩)
    (c1 : PySem.W.codeIn K cd1 "Pool.places" = true)
    (k1 : PySem.W.keepIn K (.ref f1) = true)
    (a2 : PySem.W.findIn K (.ref C) "has_place" = some (some (.ref f2)))
    (i2 : PySem.W.isFn K (.ref f2) = true)
    (l2 : K.lookup f2 = some ⟨oc2, od2, .func (PySem.W.fnOf "has_place" "Pool.has_place" (defArgs st_Pool_has_place) (defBody st_Pool_has_place) (defScope st_Pool_has_place) .none kV2 dc2 pm2 an2 cd2 ct2), sl2⟩)
    (c2 : PySem.W.codeIn K cd2 "Pool.has_place" = true)
    (k2 : PySem.W.keepIn K (.ref f2) = true)
    (a3 : PySem.W.findIn K (.ref C) "has_slot" = some (some (.ref f3)))
    (i3 : PySem.W.isFn K (.ref f3) = true)
    (l3 : K.lookup f3 = some ⟨oc3, od3, .func (PySem.W.fnOf "has_slot" "Pool.has_slot" (defArgs st_Pool_has_slot) (defBody st_Pool_has_slot) (defScope st_Pool_has_slot) .none kV3 dc3 pm3 an3 cd3 ct3), sl3⟩)
    (c3 : PySem.W.codeIn K cd3 "Pool.has_slot" = true)
    (k3 : PySem.W.keepIn K (.ref f3) = true)
    (a4 : PySem.W.findIn K (.ref C) "has_device" = some (some (.ref f4)))
    (i4 : PySem.W.isFn K (.ref f4) = true)
    (l4 : K.lookup f4 = some ⟨oc4, od4, .func (PySem.W.fnOf "has_device" "Pool.has_device" (defArgs st_Pool_has_device) (defBody st_Pool_has_device) (defScope st_Pool_has_device) .none kV4 dc4 pm4 an4 cd4 ct4), sl4⟩)
    (c4 : PySem.W.codeIn K cd4 "Pool.has_device" = true)
    (k4 : PySem.W.keepIn K (.ref f4) = true)
    (a5 : PySem.W.findIn K (.ref C) "state_of" = some (some (.ref f5)))
    (i5 : PySem.W.isFn K (.ref f5) = true)
    (l5 : K.lookup f5 = some ⟨oc5, od5, .func (PySem.W.fnOf "state_of" "Pool.state_of" (defArgs st_Pool_state_of) (defBody st_Pool_state_of) (defScope st_Pool_state_of) .none kV5 dc5 pm5 an5 cd5 ct5), sl5⟩)
    (c5 : PySem.W.codeIn K cd5 "Pool.state_of" = true)
    (k5 : PySem.W.keepIn K (.ref f5) = true)
    (a6 : PySem.W.findIn K (.ref C) "give_state" = some (some (.ref f6)))
    (i6 : PySem.W.isFn K (.ref f6) = true)
    (l6 : K.lookup f6 = some ⟨oc6, od6, .func (PySem.W.fnOf "give_state" "Pool.give_state" (defArgs st_Pool_give_state) (defBody st_Pool_give_state) (defScope st_Pool_give_state) .none kV6 dc6 pm6 an6 cd6 ct6), sl6⟩)
    (c6 : PySem.W.codeIn K cd6 "Pool.give_state" = true)
    (k6 : PySem.W.keepIn K (.ref f6) = true)
    (a7 : PySem.W.findIn K (.ref C) "mirror_at" = some (some (.ref f7)))
    (i7 : PySem.W.isFn K (.ref f7) = true)
    (l7 : K.lookup f7 = some ⟨oc7, od7, .func (PySem.W.fnOf "mirror_at" "Pool.mirror_at" (defArgs st_Pool_mirror_at) (defBody st_Pool_mirror_at) (defScope st_Pool_mirror_at) .none kV7 dc7 pm7 an7 cd7 ct7), sl7⟩)
    (c7 : PySem.W.codeIn K cd7 "Pool.mirror_at" = true)
    (k7 : PySem.W.keepIn K (.ref f7) = true)
    (a8 : PySem.W.findIn K (.ref C) "block_at" = some (some (.ref f8)))
    (i8 : PySem.W.isFn K (.ref f8) = true)
    (l8 : K.lookup f8 = some ⟨oc8, od8, .func (PySem.W.fnOf "block_at" "Pool.block_at" (defArgs st_Pool_block_at) (defBody st_Pool_block_at) (defScope st_Pool_block_at) .none kV8 dc8 pm8 an8 cd8 ct8), sl8⟩)
    (c8 : PySem.W.codeIn K cd8 "Pool.block_at" = true)
    (k8 : PySem.W.keepIn K (.ref f8) = true)
    (a9 : PySem.W.findIn K (.ref C) "good_ones" = some (some (.ref f9)))
    (i9 : PySem.W.isFn K (.ref f9) = true)
    (l9 : K.lookup f9 = some ⟨oc9, od9, .func (PySem.W.fnOf "good_ones" "Pool.good_ones" (defArgs st_Pool_good_ones) (defBody st_Pool_good_ones) (defScope st_Pool_good_ones) .none kV9 dc9 pm9 an9 cd9 ct9), sl9⟩)
    (c9 : PySem.W.codeIn K cd9 "Pool.good_ones" = true)
    (k9 : PySem.W.keepIn K (.ref f9) = true)
    (a10 : PySem.W.findIn K (.ref C) "those_not_out" = some (some (.ref f10)))
    (i10 : PySem.W.isFn K (.ref f10) = true)
    (l10 : K.lookup f10 = some ⟨oc10, od10, .func (PySem.W.fnOf "those_not_out" "Pool.those_not_out" (defArgs st_Pool_those_not_out) (defBody st_Pool_those_not_out) (defScope st_Pool_those_not_out) .none kV10 dc10 pm10 an10 cd10 ct10), sl10⟩)
    (c10 : PySem.W.codeIn K cd10 "Pool.those_not_out" = true)
    (k10 : PySem.W.keepIn K (.ref f10) = true)
    (a11 : PySem.W.findIn K (.ref C) "put" = some (some (.ref f11)))
    (i11 : PySem.W.isFn K (.ref f11) = true)
    (l11 : K.lookup f11 = some ⟨oc11, od11, .func (PySem.W.fnOf "put" "Pool.put" (defArgs st_Pool_put) (defBody st_Pool_put) (defScope st_Pool_put) .none kV11 dc11 pm11 an11 cd11 ct11), sl11⟩)
    (c11 : PySem.W.codeIn K cd11 "Pool.put" = true)
    (k11 : PySem.W.keepIn K (.ref f11) = true)
    (a12 : PySem.W.findIn K (.ref C) "put_all" = some (some (.ref f12)))
    (i12 : PySem.W.isFn K (.ref f12) = true)
    (l12 : K.lookup f12 = some ⟨oc12, od12, .func (PySem.W.fnOf "put_all" "Pool.put_all" (defArgs st_Pool_put_all) (defBody st_Pool_put_all) (defScope st_Pool_put_all) .none kV12 dc12 pm12 an12 cd12 ct12), sl12⟩)
    (c12 : PySem.W.codeIn K cd12 "Pool.put_all" = true)
    (k12 : PySem.W.keepIn K (.ref f12) = true)
    (a13 : PySem.W.findIn K (.ref C) "read" = some (some (.ref f13)))
    (i13 : PySem.W.isFn K (.ref f13) = true)
    (l13 : K.lookup f13 = some ⟨oc13, od13, .func (PySem.W.fnOf "read" "Pool.read" (defArgs st_Pool_read) (defBody st_Pool_read) (defScope st_Pool_read) .none kV13 dc13 pm13 an13 cd13 ct13), sl13⟩)
    (c13 : PySem.W.codeIn K cd13 "Pool.read" = true)
    (k13 : PySem.W.keepIn K (.ref f13) = true)
    (a14 : PySem.W.findIn K (.ref C) "write" = some (some (.ref f14)))
    (i14 : PySem.W.isFn K (.ref f14) = true)
    (l14 : K.lookup f14 = some ⟨oc14, od14, .func (PySem.W.fnOf "write" "Pool.write" (defArgs st_Pool_write) (defBody st_Pool_write) (defScope st_Pool_write) .none kV14 dc14 pm14 an14 cd14 ct14), sl14⟩)
    (c14 : PySem.W.codeIn K cd14 "Pool.write" = true)
    (k14 : PySem.W.keepIn K (.ref f14) = true)
    (a15 : PySem.W.findIn K (.ref C) "flush" = some (some (.ref f15)))
    (i15 : PySem.W.isFn K (.ref f15) = true)
    (l15 : K.lookup f15 = some ⟨oc15, od15, .func (PySem.W.fnOf "flush" "Pool.flush" (defArgs st_Pool_flush) (defBody st_Pool_flush) (defScope st_Pool_flush) .none kV15 dc15 pm15 an15 cd15 ct15), sl15⟩)
    (c15 : PySem.W.codeIn K cd15 "Pool.flush" = true)
    (k15 : PySem.W.keepIn K (.ref f15) = true)
    (a16 : PySem.W.findIn K (.ref C) "slots" = some (some (.ref f16)))
    (i16 : PySem.W.isFn K (.ref f16) = true)
    (l16 : K.lookup f16 = some ⟨oc16, od16, .func (PySem.W.fnOf "slots" "Pool.slots" (defArgs st_Pool_slots) (defBody st_Pool_slots) (defScope st_Pool_slots) .none kV16 dc16 pm16 an16 cd16 ct16), sl16⟩)
    (c16 : PySem.W.codeIn K cd16 "Pool.slots" = true)
    (k16 : PySem.W.keepIn K (.ref f16) = true)
    (a17 : PySem.W.findIn K (.ref C) "put_slot" = some (some (.ref f17)))
    (i17 : PySem.W.isFn K (.ref f17) = true)
    (l17 : K.lookup f17 = some ⟨oc17, od17, .func (PySem.W.fnOf "put_slot" "Pool.put_slot" (defArgs st_Pool_put_slot) (defBody st_Pool_put_slot) (defScope st_Pool_put_slot) .none kV17 dc17 pm17 an17 cd17 ct17), sl17⟩)
    (c17 : PySem.W.codeIn K cd17 "Pool.put_slot" = true)
    (k17 : PySem.W.keepIn K (.ref f17) = true)
    (pg : PySem.W.plainGet K C Str.empty = true)
    (hd : PySem.W.hasDictIn K C = true)
    (po : PySem.W.plainOver K C = true)
    (sa : PySem.W.findIn K (.ref C) "__setattr__" = some (some (.builtin "object.__setattr__")))
    (mk : PySem.W.makesIn K C = true)
    (kc : PySem.W.keepIn K (.ref C) = true)
    (n0 : PySem.W.findIn K (.ref C) "line" = some none)
    (n1 : PySem.W.findIn K (.ref C) "sums" = some none)
    (n2 : PySem.W.findIn K (.ref C) "n" = some none)
    (n3 : PySem.W.findIn K (.ref C) "mirrors" = some none)
    (n4 : PySem.W.findIn K (.ref C) "states" = some none) {γ : Prop} (kk : TPo K mg → γ) : γ :=
  kk
   {C := C,
    g := PySem.W.mg_of X G aC,
    cl := ⟨pg, hd, po, sa⟩,
    init := ⟨f0, _, fun_mk (st := st_Pool_init) l0 c0 k0, (fun_mk (st := st_Pool_init) l0 c0 k0).binds (ps := ["self", "line", "sums", "n", "mirrors"]) (fun _ _ _ _ _ _ us hl => (match us, hl with | [_, _, _, _, _], _ => rfl))⟩,
    places := ⟨f1, _, fun_mk (st := st_Pool_places) l1 c1 k1, (fun_mk (st := st_Pool_places) l1 c1 k1).binds (ps := ["self"]) (fun _ _ _ _ _ _ us hl => (match us, hl with | [_], _ => rfl))⟩,
    m_places := ⟨a1, i1, k1⟩,
    has_place := ⟨f2, _, fun_mk (st := st_Pool_has_place) l2 c2 k2, (fun_mk (st := st_Pool_has_place) l2 c2 k2).binds (ps := ["self", "place"]) (fun _ _ _ _ _ _ us hl => (match us, hl with | [_, _], _ => rfl))⟩,
    m_has_place := ⟨a2, i2, k2⟩,
    has_slot := ⟨f3, _, fun_mk (st := st_Pool_has_slot) l3 c3 k3, (fun_mk (st := st_Pool_has_slot) l3 c3 k3).binds (ps := ["self", "k"]) (fun _ _ _ _ _ _ us hl => (match us, hl with | [_, _], _ => rfl))⟩,
    m_has_slot := ⟨a3, i3, k3⟩,
    has_device := ⟨f4, _, fun_mk (st := st_Pool_has_device) l4 c4 k4, (fun_mk (st := st_Pool_has_device) l4 c4 k4).binds (ps := ["self", "d"]) (fun _ _ _ _ _ _ us hl => (match us, hl with | [_, _], _ => rfl))⟩,
    m_has_device := ⟨a4, i4, k4⟩,
    state_of := ⟨f5, _, fun_mk (st := st_Pool_state_of) l5 c5 k5, (fun_mk (st := st_Pool_state_of) l5 c5 k5).binds (ps := ["self", "d"]) (fun _ _ _ _ _ _ us hl => (match us, hl with | [_, _], _ => rfl))⟩,
    m_state_of := ⟨a5, i5, k5⟩,
    give_state := ⟨f6, _, fun_mk (st := st_Pool_give_state) l6 c6 k6, (fun_mk (st := st_Pool_give_state) l6 c6 k6).binds (ps := ["self", "d", "state"]) (fun _ _ _ _ _ _ us hl => (match us, hl with | [_, _, _], _ => rfl))⟩,
    m_give_state := ⟨a6, i6, k6⟩,
    mirror_at := ⟨f7, _, fun_mk (st := st_Pool_mirror_at) l7 c7 k7, (fun_mk (st := st_Pool_mirror_at) l7 c7 k7).binds (ps := ["self", "place"]) (fun _ _ _ _ _ _ us hl => (match us, hl with | [_, _], _ => rfl))⟩,
    m_mirror_at := ⟨a7, i7, k7⟩,
    block_at := ⟨f8, _, fun_mk (st := st_Pool_block_at) l8 c8 k8, (fun_mk (st := st_Pool_block_at) l8 c8 k8).binds (ps := ["self", "place"]) (fun _ _ _ _ _ _ us hl => (match us, hl with | [_, _], _ => rfl))⟩,
    m_block_at := ⟨a8, i8, k8⟩,
    good_ones := ⟨f9, _, fun_mk (st := st_Pool_good_ones) l9 c9 k9, (fun_mk (st := st_Pool_good_ones) l9 c9 k9).binds (ps := ["self", "row"]) (fun _ _ _ _ _ _ us hl => (match us, hl with | [_, _], _ => rfl))⟩,
    m_good_ones := ⟨a9, i9, k9⟩,
    those_not_out := ⟨f10, _, fun_mk (st := st_Pool_those_not_out) l10 c10 k10, (fun_mk (st := st_Pool_those_not_out) l10 c10 k10).binds (ps := ["self", "row"]) (fun _ _ _ _ _ _ us hl => (match us, hl with | [_, _], _ => rfl))⟩,
    m_those_not_out := ⟨a10, i10, k10⟩,
    put := ⟨f11, _, fun_mk (st := st_Pool_put) l11 c11 k11, (fun_mk (st := st_Pool_put) l11 c11 k11).binds (ps := ["self", "d", "k", "block"]) (fun _ _ _ _ _ _ us hl => (match us, hl with | [_, _, _, _], _ => rfl))⟩,
    m_put := ⟨a11, i11, k11⟩,
    put_all := ⟨f12, _, fun_mk (st := st_Pool_put_all) l12 c12 k12, (fun_mk (st := st_Pool_put_all) l12 c12 k12).binds (ps := ["self", "row", "k", "block"]) (fun _ _ _ _ _ _ us hl => (match us, hl with | [_, _, _, _], _ => rfl))⟩,
    m_put_all := ⟨a12, i12, k12⟩,
    read := ⟨f13, _, fun_mk (st := st_Pool_read) l13 c13 k13, (fun_mk (st := st_Pool_read) l13 c13 k13).binds (ps := ["self", "place", "wanted"]) (fun _ _ _ _ _ _ us hl => (match us, hl with | [_, _, _], _ => rfl))⟩,
    m_read := ⟨a13, i13, k13⟩,
    write := ⟨f14, _, fun_mk (st := st_Pool_write) l14 c14 k14, (fun_mk (st := st_Pool_write) l14 c14 k14).binds (ps := ["self", "place", "block"]) (fun _ _ _ _ _ _ us hl => (match us, hl with | [_, _, _], _ => rfl))⟩,
    m_write := ⟨a14, i14, k14⟩,
    flush := ⟨f15, _, fun_mk (st := st_Pool_flush) l15 c15 k15, (fun_mk (st := st_Pool_flush) l15 c15 k15).binds (ps := ["self"]) (fun _ _ _ _ _ _ us hl => (match us, hl with | [_], _ => rfl))⟩,
    m_flush := ⟨a15, i15, k15⟩,
    slots := ⟨f16, _, fun_mk (st := st_Pool_slots) l16 c16 k16, (fun_mk (st := st_Pool_slots) l16 c16 k16).binds (ps := ["self", "k"]) (fun _ _ _ _ _ _ us hl => (match us, hl with | [_, _], _ => rfl))⟩,
    m_slots := ⟨a16, i16, k16⟩,
    put_slot := ⟨f17, _, fun_mk (st := st_Pool_put_slot) l17 c17 k17, (fun_mk (st := st_Pool_put_slot) l17 c17 k17).binds (ps := ["self", "k", "block"]) (fun _ _ _ _ _ _ us hl => (match us, hl with | [_, _, _], _ => rfl))⟩,
    m_put_slot := ⟨a17, i17, k17⟩,
    mak := ⟨mk, a0, i0, kc⟩,
    n_line := n0,
    n_sums := n1,
    n_n := n2,
    n_mirrors := n3,
    n_states := n4}
theorem mk_Su {K : PySem.W.Frag} {h : Heap} {mg : Str → Option Value} (X : K.In h) (G : h.Ns mainGlobals mg) {C : Addr} {f0 f1 : Addr} {od0 an0 od1 an1 : Option Addr} {sl0 sl1 : Array (Option Value)} {oc0 kV0 dc0 pm0 cd0 ct0 oc1 kV1 dc1 pm1 cd1 ct1 : Value}
    (aC : PySem.W.nsIn K mainGlobals "Sums" = some (some (.ref C)))
    (a0 : PySem.W.findIn K (.ref C) "__init__" = some (some (.ref f0)))
    (i0 : PySem.W.isFn K (.ref f0) = true)
    (l0 : K.lookup f0 = some ⟨oc0, od0, .func (PySem.W.fnOf "__init__" "Sums.__init__" (defArgs st_Sums_init) (defBody st_Sums_init) (defScope st_Sums_init) .none kV0 dc0 pm0 an0 cd0 ct0), sl0⟩)
    (c0 : PySem.W.codeIn K cd0 "Sums.__init__" = true)
    (k0 : PySem.W.keepIn K (.ref f0) = true)
    (a1 : PySem.W.findIn K (.ref C) "of_block" = some (some (.ref f1)))
    (i1 : PySem.W.isFn K (.ref f1) = true)
    (l1 : K.lookup f1 = some ⟨oc1, od1, .func (PySem.W.fnOf "of_block" "Sums.of_block" (defArgs st_Sums_of_block) (defBody st_Sums_of_block) (defScope st_Sums_of_block) .none kV1 dc1 pm1 an1 cd1 ct1), sl1⟩)
    (c1 : PySem.W.codeIn K cd1 "Sums.of_block" = true)
    (k1 : PySem.W.keepIn K (.ref f1) = true)
    (pg : PySem.W.plainGet K C Str.empty = true)
    (hd : PySem.W.hasDictIn K C = true)
    (po : PySem.W.plainOver K C = true)
    (sa : PySem.W.findIn K (.ref C) "__setattr__" = some (some (.builtin "object.__setattr__")))
    (mk : PySem.W.makesIn K C = true)
    (kc : PySem.W.keepIn K (.ref C) = true)
    (n0 : PySem.W.findIn K (.ref C) "steps" = some none) {γ : Prop} (kk : TSu K mg → γ) : γ :=
  kk
   {C := C,
    g := PySem.W.mg_of X G aC,
    cl := ⟨pg, hd, po, sa⟩,
    init := ⟨f0, _, fun_mk (st := st_Sums_init) l0 c0 k0, (fun_mk (st := st_Sums_init) l0 c0 k0).binds (ps := ["self"]) (fun _ _ _ _ _ _ us hl => (match us, hl with | [_], _ => rfl))⟩,
    of_block := ⟨f1, _, fun_mk (st := st_Sums_of_block) l1 c1 k1, (fun_mk (st := st_Sums_of_block) l1 c1 k1).binds (ps := ["self", "place", "block"]) (fun _ _ _ _ _ _ us hl => (match us, hl with | [_, _, _], _ => rfl))⟩,
    m_of_block := ⟨a1, i1, k1⟩,
    mak := ⟨mk, a0, i0, kc⟩,
    n_steps := n0}
theorem mk_Se {K : PySem.W.Frag} {h : Heap} {mg : Str → Option Value} (X : K.In h) (G : h.Ns mainGlobals mg) {C : Addr} {f0 f1 f2 f3 f4 : Addr} {od0 an0 od1 an1 od2 an2 od3 an3 od4 an4 : Option Addr} {sl0 sl1 sl2 sl3 sl4 : Array (Option Value)} {oc0 kV0 dc0 pm0 cd0 ct0 oc1 kV1 dc1 pm1 cd1 ct1 oc2 kV2 dc2 pm2 cd2 ct2 oc3 kV3 dc3 pm3 cd3 ct3 oc4 kV4 dc4 pm4 cd4 ct4 : Value}
    (aC : PySem.W.nsIn K mainGlobals "Session" = some (some (.ref C)))
    (a0 : PySem.W.findIn K (.ref C) "__init__" = some (some (.ref f0)))
    (i0 : PySem.W.isFn K (.ref f0) = true)
    (l0 : K.lookup f0 = some ⟨oc0, od0, .func (PySem.W.fnOf "__init__" "Session.__init__" (defArgs st_Session_init) (defBody st_Session_init) (defScope st_Session_init) .none kV0 dc0 pm0 an0 cd0 ct0), sl0⟩)
    (c0 : PySem.W.codeIn K cd0 "Session.__init__" = true)
    (k0 : PySem.W.keepIn K (.ref f0) = true)
    (a1 : PySem.W.findIn K (.ref C) "begin" = some (some (.ref f1)))
    (i1 : PySem.W.isFn K (.ref f1) = true)
    (l1 : K.lookup f1 = some ⟨oc1, od1, .func (PySem.W.fnOf "begin" "Session.begin" (defArgs st_Session_begin) (defBody st_Session_begin) (defScope st_Session_begin) .none kV1 dc1 pm1 an1 cd1 ct1), sl1⟩)
    (c1 : PySem.W.codeIn K cd1 "Session.begin" = true)
    (k1 : PySem.W.keepIn K (.ref f1) = true)
    (a2 : PySem.W.findIn K (.ref C) "sum_of" = some (some (.ref f2)))
    (i2 : PySem.W.isFn K (.ref f2) = true)
    (l2 : K.lookup f2 = some ⟨oc2, od2, .func (PySem.W.fnOf "sum_of" "Session.sum_of" (defArgs st_Session_sum_of) (defBody st_Session_sum_of) (defScope st_Session_sum_of) .none kV2 dc2 pm2 an2 cd2 ct2), sl2⟩)
    (c2 : PySem.W.codeIn K cd2 "Session.sum_of" = true)
    (k2 : PySem.W.keepIn K (.ref f2) = true)
    (a3 : PySem.W.findIn K (.ref C) "answer_by_pool" = some (some (.ref f3)))
    (i3 : PySem.W.isFn K (.ref f3) = true)
    (l3 : K.lookup f3 = some ⟨oc3, od3, .func (PySem.W.fnOf "answer_by_pool" "Session.answer_by_pool" (defArgs st_Session_answer_by_pool) (defBody st_Session_answer_by_pool) (defScope st_Session_answer_by_pool) .none kV3 dc3 pm3 an3 cd3 ct3), sl3⟩)
    (c3 : PySem.W.codeIn K cd3 "Session.answer_by_pool" = true)
    (k3 : PySem.W.keepIn K (.ref f3) = true)
    (a4 : PySem.W.findIn K (.ref C) "answer" = some (some (.ref f4)))
    (i4 : PySem.W.isFn K (.ref f4) = true)
    (l4 : K.lookup f4 = some ⟨oc4, od4, .func (PySem.W.fnOf "answer" "Session.answer" (defArgs st_Session_answer) (defBody st_Session_answer) (defScope st_Session_answer) .none kV4 dc4 pm4 an4 cd4 ct4), sl4⟩)
    (c4 : PySem.W.codeIn K cd4 "Session.answer" = true)
    (k4 : PySem.W.keepIn K (.ref f4) = true)
    (pg : PySem.W.plainGet K C Str.empty = true)
    (hd : PySem.W.hasDictIn K C = true)
    (po : PySem.W.plainOver K C = true)
    (sa : PySem.W.findIn K (.ref C) "__setattr__" = some (some (.builtin "object.__setattr__")))
    (mk : PySem.W.makesIn K C = true)
    (kc : PySem.W.keepIn K (.ref C) = true)
    (n0 : PySem.W.findIn K (.ref C) "line" = some none)
    (n1 : PySem.W.findIn K (.ref C) "sums" = some none)
    (n2 : PySem.W.findIn K (.ref C) "pool" = some none) {γ : Prop} (kk : TSe K mg → γ) : γ :=
  kk
   {C := C,
    g := PySem.W.mg_of X G aC,
    cl := ⟨pg, hd, po, sa⟩,
    init := ⟨f0, _, fun_mk (st := st_Session_init) l0 c0 k0, (fun_mk (st := st_Session_init) l0 c0 k0).binds (ps := ["self", "sizes", "script"]) (fun _ _ _ _ _ _ us hl => (match us, hl with | [_, _, _], _ => rfl))⟩,
    begin := ⟨f1, _, fun_mk (st := st_Session_begin) l1 c1 k1, (fun_mk (st := st_Session_begin) l1 c1 k1).binds (ps := ["self", "n", "mirrors"]) (fun _ _ _ _ _ _ us hl => (match us, hl with | [_, _, _], _ => rfl))⟩,
    m_begin := ⟨a1, i1, k1⟩,
    sum_of := ⟨f2, _, fun_mk (st := st_Session_sum_of) l2 c2 k2, (fun_mk (st := st_Session_sum_of) l2 c2 k2).binds (ps := ["self", "place", "told"]) (fun _ _ _ _ _ _ us hl => (match us, hl with | [_, _, _], _ => rfl))⟩,
    m_sum_of := ⟨a2, i2, k2⟩,
    answer_by_pool := ⟨f3, _, fun_mk (st := st_Session_answer_by_pool) l3 c3 k3, (fun_mk (st := st_Session_answer_by_pool) l3 c3 k3).binds (ps := ["self", "call"]) (fun _ _ _ _ _ _ us hl => (match us, hl with | [_, _], _ => rfl))⟩,
    m_answer_by_pool := ⟨a3, i3, k3⟩,
    answer := ⟨f4, _, fun_mk (st := st_Session_answer) l4 c4 k4, (fun_mk (st := st_Session_answer) l4 c4 k4).binds (ps := ["self", "call"]) (fun _ _ _ _ _ _ us hl => (match us, hl with | [_, _], _ => rfl))⟩,
    m_answer := ⟨a4, i4, k4⟩,
    mak := ⟨mk, a0, i0, kc⟩,
    n_line := n0,
    n_sums := n1,
    n_pool := n2}
end Mp
namespace Mp
open PySem PySem.Spec PyProof.Rows L2
abbrev fragOf {K : PySem.W.Frag} {h : Heap} (X : K.In h) : PySem.W.Frag := K
theorem in_int {l : List Int} (h : l.all (PySem.W.Codec.inInt 0 18446744073709551615) = true) : ∀ x ∈ l, 0 ≤ x ∧ x ≤ 18446744073709551615 := fun x hx => by
  have := List.all_eq_true.mp h x hx
  unfold PySem.W.Codec.inInt at this
  simp only [Bool.and_eq_true, decide_eq_true_eq] at this
  exact this
theorem close_top {P : Program} {w : World} {K : PySem.W.Frag} {mg : Str → Option Value} (T : Txt K mg) {fa : Addr} (h : mg "answers" = some (.ref fa)) :
    ∃ fd : FuncData, (∀ (s : Shared) (us : List Value), us.length = (["calls"] : List Str).length → BindsTo s fd ⟨us, []⟩ ((["calls"] : List Str).zip us)) ∧ ∀ base : Heap, K.In base → base.Ns mainGlobals mg → FnOk P w K mg base CX0 15 fa fd ["calls"] (spAnswers K) := by
  have e := h.symm.trans T.F.g_answers
  have e2 : fa = T.F.answers.f := by
    injection e with e
    injection e
  rw [e2]
  obtain ⟨_, _, _, _, _, _, _, _, _, ef, _, _⟩ := T.F.answers.F.ex
  refine ⟨T.F.answers.fd, ?_, fun base _ _ => ok_answers T⟩
  rw [ef]
  exact fun s us hu => match us, hu with | [_], _ => .of_eq rfl
end Mp
open PySem PySem.W PyProof.Rows
set_option maxRecDepth 100000 in
set_option maxHeartbeats 0 in
theorem PySem.Challenge.cw_mirrorpool_s01_answers_holds : PySem.Challenge.rw_mirrorpool_s01_answers.Holds := by
  w_on; k_headS; (case hw => exact ⟨[.list [.int 14, .int 0, .int 1, .int 0, .int 1, .int 0, .int 0]], by decide +kernel, by decide +kernel⟩)
  k_fillS
  refine L2.walk_specK (r := PySem.Challenge.rw_mirrorpool_s01_answers) (k := 15) (CX := L2.CX0) (ps := ["calls"]) (sp := Mp.spAnswers) (by decide +kernel) rfl rfl ⟨rfl, by decide, by decide⟩ (fun w h Y => PySem.W.kIn_of Y) ?F ?S (fun _ _ _ _ z => z)
  case F =>
    intro w mg fa h Y KX G hmg
    have HG : Mp.TG mg := by
      refine' Mp.mk_G KX G ?q0 ?q1 ?q2 ?q3 ?q4 ?q5 ?q6 ?q7 ?q8 ?q9 ?q10 ?q11 ?q12 ?q13 ?q14 ?q15 ?q16 ?q17 ?q18 ?q19 ?q20 ?q21 ?q22 ?q23 ?q24 ?q25 ?q26 ?q27 ?q28 ?q29 ?q30 ?q31 ?q32 ?q33 ?q34 ?q35 ?b0 ?b1 ?b2 ?b3 ?b4
      (case q0 => k_is)
      (case q1 => k_is)
      (case q2 => k_is)
      (case q3 => k_is)
      (case q4 => k_is)
      (case q5 => k_is)
      (case q6 => k_is)
      (case q7 => k_is)
      (case q8 => k_is)
      (case q9 => k_is)
      (case q10 => k_is)
      (case q11 => k_is)
      (case q12 => k_is)
      (case q13 => k_is)
      (case q14 => k_is)
      (case q15 => k_is)
      (case q16 => k_is)
      (case q17 => k_is)
      (case q18 => k_is)
      (case q19 => k_is)
      (case q20 => k_is)
      (case q21 => k_is)
      (case q22 => k_is)
      (case q23 => k_is)
      (case q24 => k_is)
      (case q25 => k_is)
      (case q26 => k_is)
      (case q27 => k_is)
      (case q28 => k_is)
      (case q29 => k_is)
      (case q30 => k_is)
      (case q31 => k_is)
      (case q32 => k_is)
      (case q33 => k_is)
      (case q34 => k_is)
      (case q35 => k_is)
      (case b0 => k_is)
      (case b1 => k_is)
      (case b2 => k_is)
      (case b3 => k_is)
      (case b4 => k_is)
    refine' Mp.mk_F KX G ?a0 ?l0 ?c0 ?k0 ?a1 ?l1 ?c1 ?k1 ?a2 ?l2 ?c2 ?k2 ?a3 ?l3 ?c3 ?k3 ?a4 ?l4 ?c4 ?k4 ?a5 ?l5 ?c5 ?k5 ?a6 ?l6 ?c6 ?k6 ?a7 ?l7 ?c7 ?k7 ?a8 ?l8 ?c8 ?k8 ?a9 ?l9 ?c9 ?k9 ?a10 ?l10 ?c10 ?k10 ?a11 ?l11 ?c11 ?k11 ?a12 ?l12 ?c12 ?k12 ?a13 ?l13 ?c13 ?k13 ?a14 ?l14 ?c14 ?k14 ?a15 ?l15 ?c15 ?k15 ?a16 ?l16 ?c16 ?k16 (fun TF => ?kkF)
    (case a0 => k_is)
    (case l0 => k_is)
    (case c0 => k_is)
    (case k0 => k_is)
    (case a1 => k_is)
    (case l1 => k_is)
    (case c1 => k_is)
    (case k1 => k_is)
    (case a2 => k_is)
    (case l2 => k_is)
    (case c2 => k_is)
    (case k2 => k_is)
    (case a3 => k_is)
    (case l3 => k_is)
    (case c3 => k_is)
    (case k3 => k_is)
    (case a4 => k_is)
    (case l4 => k_is)
    (case c4 => k_is)
    (case k4 => k_is)
    (case a5 => k_is)
    (case l5 => k_is)
    (case c5 => k_is)
    (case k5 => k_is)
    (case a6 => k_is)
    (case l6 => k_is)
    (case c6 => k_is)
    (case k6 => k_is)
    (case a7 => k_is)
    (case l7 => k_is)
    (case c7 => k_is)
    (case k7 => k_is)
    (case a8 => k_is)
    (case l8 => k_is)
    (case c8 => k_is)
    (case k8 => k_is)
    (case a9 => k_is)
    (case l9 => k_is)
    (case c9 => k_is)
    (case k9 => k_is)
    (case a10 => k_is)
    (case l10 => k_is)
    (case c10 => k_is)
    (case k10 => k_is)
    (case a11 => k_is)
    (case l11 => k_is)
    (case c11 => k_is)
    (case k11 => k_is)
    (case a12 => k_is)
    (case l12 => k_is)
    (case c12 => k_is)
    (case k12 => k_is)
    (case a13 => k_is)
    (case l13 => k_is)
    (case c13 => k_is)
    (case k13 => k_is)
    (case a14 => k_is)
    (case l14 => k_is)
    (case c14 => k_is)
    (case k14 => k_is)
    (case a15 => k_is)
    (case l15 => k_is)
    (case c15 => k_is)
    (case k15 => k_is)
    (case a16 => k_is)
    (case l16 => k_is)
    (case c16 => k_is)
    (case k16 => k_is)
    refine' Mp.mk_Ca KX G ?aC ?a0 ?i0 ?l0 ?c0 ?k0 ?pg ?hd ?po ?sa ?mk ?kc ?n0 ?n1 ?n2 (fun TCa => ?kkCa)
    (case aC => k_is)
    (case a0 => k_is)
    (case i0 => k_is)
    (case l0 => k_is)
    (case c0 => k_is)
    (case k0 => k_is)
    (case pg => k_is)
    (case hd => k_is)
    (case po => k_is)
    (case sa => k_is)
    (case mk => k_is)
    (case kc => k_is)
    (case n0 => k_is)
    (case n1 => k_is)
    (case n2 => k_is)
    refine' Mp.mk_Re KX G ?aC ?a0 ?i0 ?l0 ?c0 ?k0 ?a1 ?i1 ?l1 ?c1 ?k1 ?a2 ?i2 ?l2 ?c2 ?k2 ?a3 ?i3 ?l3 ?c3 ?k3 ?a4 ?i4 ?l4 ?c4 ?k4 ?a5 ?i5 ?l5 ?c5 ?k5 ?pg ?hd ?po ?sa ?mk ?kc ?n0 ?n1 (fun TRe => ?kkRe)
    (case aC => k_is)
    (case a0 => k_is)
    (case i0 => k_is)
    (case l0 => k_is)
    (case c0 => k_is)
    (case k0 => k_is)
    (case a1 => k_is)
    (case i1 => k_is)
    (case l1 => k_is)
    (case c1 => k_is)
    (case k1 => k_is)
    (case a2 => k_is)
    (case i2 => k_is)
    (case l2 => k_is)
    (case c2 => k_is)
    (case k2 => k_is)
    (case a3 => k_is)
    (case i3 => k_is)
    (case l3 => k_is)
    (case c3 => k_is)
    (case k3 => k_is)
    (case a4 => k_is)
    (case i4 => k_is)
    (case l4 => k_is)
    (case c4 => k_is)
    (case k4 => k_is)
    (case a5 => k_is)
    (case i5 => k_is)
    (case l5 => k_is)
    (case c5 => k_is)
    (case k5 => k_is)
    (case pg => k_is)
    (case hd => k_is)
    (case po => k_is)
    (case sa => k_is)
    (case mk => k_is)
    (case kc => k_is)
    (case n0 => k_is)
    (case n1 => k_is)
    refine' Mp.mk_De KX G ?aC ?a0 ?i0 ?l0 ?c0 ?k0 ?a1 ?i1 ?l1 ?c1 ?k1 ?a2 ?i2 ?l2 ?c2 ?k2 ?a3 ?i3 ?l3 ?c3 ?k3 ?a4 ?i4 ?l4 ?c4 ?k4 ?a5 ?i5 ?l5 ?c5 ?k5 ?a6 ?i6 ?l6 ?c6 ?k6 ?a7 ?i7 ?l7 ?c7 ?k7 ?a8 ?i8 ?l8 ?c8 ?k8 ?a9 ?i9 ?l9 ?c9 ?k9 ?a10 ?i10 ?l10 ?c10 ?k10 ?a11 ?i11 ?l11 ?c11 ?k11 ?a12 ?i12 ?l12 ?c12 ?k12 ?a13 ?i13 ?l13 ?c13 ?k13 ?pg ?hd ?po ?sa ?mk ?kc ?n0 ?n1 ?n2 ?n3 ?n4 (fun TDe => ?kkDe)
    (case aC => k_is)
    (case a0 => k_is)
    (case i0 => k_is)
    (case l0 => k_is)
    (case c0 => k_is)
    (case k0 => k_is)
    (case a1 => k_is)
    (case i1 => k_is)
    (case l1 => k_is)
    (case c1 => k_is)
    (case k1 => k_is)
    (case a2 => k_is)
    (case i2 => k_is)
    (case l2 => k_is)
    (case c2 => k_is)
    (case k2 => k_is)
    (case a3 => k_is)
    (case i3 => k_is)
    (case l3 => k_is)
    (case c3 => k_is)
    (case k3 => k_is)
    (case a4 => k_is)
    (case i4 => k_is)
    (case l4 => k_is)
    (case c4 => k_is)
    (case k4 => k_is)
    (case a5 => k_is)
    (case i5 => k_is)
    (case l5 => k_is)
    (case c5 => k_is)
    (case k5 => k_is)
    (case a6 => k_is)
    (case i6 => k_is)
    (case l6 => k_is)
    (case c6 => k_is)
    (case k6 => k_is)
    (case a7 => k_is)
    (case i7 => k_is)
    (case l7 => k_is)
    (case c7 => k_is)
    (case k7 => k_is)
    (case a8 => k_is)
    (case i8 => k_is)
    (case l8 => k_is)
    (case c8 => k_is)
    (case k8 => k_is)
    (case a9 => k_is)
    (case i9 => k_is)
    (case l9 => k_is)
    (case c9 => k_is)
    (case k9 => k_is)
    (case a10 => k_is)
    (case i10 => k_is)
    (case l10 => k_is)
    (case c10 => k_is)
    (case k10 => k_is)
    (case a11 => k_is)
    (case i11 => k_is)
    (case l11 => k_is)
    (case c11 => k_is)
    (case k11 => k_is)
    (case a12 => k_is)
    (case i12 => k_is)
    (case l12 => k_is)
    (case c12 => k_is)
    (case k12 => k_is)
    (case a13 => k_is)
    (case i13 => k_is)
    (case l13 => k_is)
    (case c13 => k_is)
    (case k13 => k_is)
    (case pg => k_is)
    (case hd => k_is)
    (case po => k_is)
    (case sa => k_is)
    (case mk => k_is)
    (case kc => k_is)
    (case n0 => k_is)
    (case n1 => k_is)
    (case n2 => k_is)
    (case n3 => k_is)
    (case n4 => k_is)
    refine' Mp.mk_Pg KX G ?aC ?xF ?kF ?bF ?tF ?iF ?sF (fun TPg => ?kkPg)
    (case aC => k_is)
    (case xF => k_exc)
    (case kF => k_is)
    (case bF => k_is)
    (case tF => k_is)
    (case iF => k_is)
    (case sF => first | rfl | k_is)
    refine' Mp.mk_Li KX G ?aC ?a0 ?i0 ?l0 ?c0 ?k0 ?a1 ?i1 ?l1 ?c1 ?k1 ?a2 ?i2 ?l2 ?c2 ?k2 ?a3 ?i3 ?l3 ?c3 ?k3 ?a4 ?i4 ?l4 ?c4 ?k4 ?a5 ?i5 ?l5 ?c5 ?k5 ?a6 ?i6 ?l6 ?c6 ?k6 ?a7 ?i7 ?l7 ?c7 ?k7 ?a8 ?i8 ?l8 ?c8 ?k8 ?pg ?hd ?po ?sa ?mk ?kc ?n0 ?n1 ?n2 (fun TLi => ?kkLi)
    (case aC => k_is)
    (case a0 => k_is)
    (case i0 => k_is)
    (case l0 => k_is)
    (case c0 => k_is)
    (case k0 => k_is)
    (case a1 => k_is)
    (case i1 => k_is)
    (case l1 => k_is)
    (case c1 => k_is)
    (case k1 => k_is)
    (case a2 => k_is)
    (case i2 => k_is)
    (case l2 => k_is)
    (case c2 => k_is)
    (case k2 => k_is)
    (case a3 => k_is)
    (case i3 => k_is)
    (case l3 => k_is)
    (case c3 => k_is)
    (case k3 => k_is)
    (case a4 => k_is)
    (case i4 => k_is)
    (case l4 => k_is)
    (case c4 => k_is)
    (case k4 => k_is)
    (case a5 => k_is)
    (case i5 => k_is)
    (case l5 => k_is)
    (case c5 => k_is)
    (case k5 => k_is)
    (case a6 => k_is)
    (case i6 => k_is)
    (case l6 => k_is)
    (case c6 => k_is)
    (case k6 => k_is)
    (case a7 => k_is)
    (case i7 => k_is)
    (case l7 => k_is)
    (case c7 => k_is)
    (case k7 => k_is)
    (case a8 => k_is)
    (case i8 => k_is)
    (case l8 => k_is)
    (case c8 => k_is)
    (case k8 => k_is)
    (case pg => k_is)
    (case hd => k_is)
    (case po => k_is)
    (case sa => k_is)
    (case mk => k_is)
    (case kc => k_is)
    (case n0 => k_is)
    (case n1 => k_is)
    (case n2 => k_is)
    refine' Mp.mk_Po KX G ?aC ?a0 ?i0 ?l0 ?c0 ?k0 ?a1 ?i1 ?l1 ?c1 ?k1 ?a2 ?i2 ?l2 ?c2 ?k2 ?a3 ?i3 ?l3 ?c3 ?k3 ?a4 ?i4 ?l4 ?c4 ?k4 ?a5 ?i5 ?l5 ?c5 ?k5 ?a6 ?i6 ?l6 ?c6 ?k6 ?a7 ?i7 ?l7 ?c7 ?k7 ?a8 ?i8 ?l8 ?c8 ?k8 ?a9 ?i9 ?l9 ?c9 ?k9 ?a10 ?i10 ?l10 ?c10 ?k10 ?a11 ?i11 ?l11 ?c11 ?k11 ?a12 ?i12 ?l12 ?c12 ?k12 ?a13 ?i13 ?l13 ?c13 ?k13 ?a14 ?i14 ?l14 ?c14 ?k14 ?a15 ?i15 ?l15 ?c15 ?k15 ?a16 ?i16 ?l16 ?c16 ?k16 ?a17 ?i17 ?l17 ?c17 ?k17 ?pg ?hd ?po ?sa ?mk ?kc ?n0 ?n1 ?n2 ?n3 ?n4 (fun TPo => ?kkPo)
    (case aC => k_is)
    (case a0 => k_is)
    (case i0 => k_is)
    (case l0 => k_is)
    (case c0 => k_is)
    (case k0 => k_is)
    (case a1 => k_is)
    (case i1 => k_is)
    (case l1 => k_is)
    (case c1 => k_is)
    (case k1 => k_is)
    (case a2 => k_is)
    (case i2 => k_is)
    (case l2 => k_is)
    (case c2 => k_is)
    (case k2 => k_is)
    (case a3 => k_is)
    (case i3 => k_is)
    (case l3 => k_is)
    (case c3 => k_is)
    (case k3 => k_is)
    (case a4 => k_is)
    (case i4 => k_is)
    (case l4 => k_is)
    (case c4 => k_is)
    (case k4 => k_is)
    (case a5 => k_is)
    (case i5 => k_is)
    (case l5 => k_is)
    (case c5 => k_is)
    (case k5 => k_is)
    (case a6 => k_is)
    (case i6 => k_is)
    (case l6 => k_is)
    (case c6 => k_is)
    (case k6 => k_is)
    (case a7 => k_is)
    (case i7 => k_is)
    (case l7 => k_is)
    (case c7 => k_is)
    (case k7 => k_is)
    (case a8 => k_is)
    (case i8 => k_is)
    (case l8 => k_is)
    (case c8 => k_is)
    (case k8 => k_is)
    (case a9 => k_is)
    (case i9 => k_is)
    (case l9 => k_is)
    (case c9 => k_is)
    (case k9 => k_is)
    (case a10 => k_is)
    (case i10 => k_is)
    (case l10 => k_is)
    (case c10 => k_is)
    (case k10 => k_is)
    (case a11 => k_is)
    (case i11 => k_is)
    (case l11 => k_is)
    (case c11 => k_is)
    (case k11 => k_is)
    (case a12 => k_is)
    (case i12 => k_is)
    (case l12 => k_is)
    (case c12 => k_is)
    (case k12 => k_is)
    (case a13 => k_is)
    (case i13 => k_is)
    (case l13 => k_is)
    (case c13 => k_is)
    (case k13 => k_is)
    (case a14 => k_is)
    (case i14 => k_is)
    (case l14 => k_is)
    (case c14 => k_is)
    (case k14 => k_is)
    (case a15 => k_is)
    (case i15 => k_is)
    (case l15 => k_is)
    (case c15 => k_is)
    (case k15 => k_is)
    (case a16 => k_is)
    (case i16 => k_is)
    (case l16 => k_is)
    (case c16 => k_is)
    (case k16 => k_is)
    (case a17 => k_is)
    (case i17 => k_is)
    (case l17 => k_is)
    (case c17 => k_is)
    (case k17 => k_is)
    (case pg => k_is)
    (case hd => k_is)
    (case po => k_is)
    (case sa => k_is)
    (case mk => k_is)
    (case kc => k_is)
    (case n0 => k_is)
    (case n1 => k_is)
    (case n2 => k_is)
    (case n3 => k_is)
    (case n4 => k_is)
    refine' Mp.mk_Su KX G ?aC ?a0 ?i0 ?l0 ?c0 ?k0 ?a1 ?i1 ?l1 ?c1 ?k1 ?pg ?hd ?po ?sa ?mk ?kc ?n0 (fun TSu => ?kkSu)
    (case aC => k_is)
    (case a0 => k_is)
    (case i0 => k_is)
    (case l0 => k_is)
    (case c0 => k_is)
    (case k0 => k_is)
    (case a1 => k_is)
    (case i1 => k_is)
    (case l1 => k_is)
    (case c1 => k_is)
    (case k1 => k_is)
    (case pg => k_is)
    (case hd => k_is)
    (case po => k_is)
    (case sa => k_is)
    (case mk => k_is)
    (case kc => k_is)
    (case n0 => k_is)
    refine' Mp.mk_Se KX G ?aC ?a0 ?i0 ?l0 ?c0 ?k0 ?a1 ?i1 ?l1 ?c1 ?k1 ?a2 ?i2 ?l2 ?c2 ?k2 ?a3 ?i3 ?l3 ?c3 ?k3 ?a4 ?i4 ?l4 ?c4 ?k4 ?pg ?hd ?po ?sa ?mk ?kc ?n0 ?n1 ?n2 (fun TSe => ?kkSe)
    (case aC => k_is)
    (case a0 => k_is)
    (case i0 => k_is)
    (case l0 => k_is)
    (case c0 => k_is)
    (case k0 => k_is)
    (case a1 => k_is)
    (case i1 => k_is)
    (case l1 => k_is)
    (case c1 => k_is)
    (case k1 => k_is)
    (case a2 => k_is)
    (case i2 => k_is)
    (case l2 => k_is)
    (case c2 => k_is)
    (case k2 => k_is)
    (case a3 => k_is)
    (case i3 => k_is)
    (case l3 => k_is)
    (case c3 => k_is)
    (case k3 => k_is)
    (case a4 => k_is)
    (case i4 => k_is)
    (case l4 => k_is)
    (case c4 => k_is)
    (case k4 => k_is)
    (case pg => k_is)
    (case hd => k_is)
    (case po => k_is)
    (case sa => k_is)
    (case mk => k_is)
    (case kc => k_is)
    (case n0 => k_is)
    (case n1 => k_is)
    (case n2 => k_is)
    exact Mp.close_top ⟨HG, TF, TCa, TRe, TDe, TPg, TLi, TPo, TSu, TSe⟩ hmg
  case S =>
    intro K H xs a hO hwi hask hx
    cases hx with
    | cons h1 h2 =>
      cases h2
      cases h1 with
      | lst hs ha =>
        have e := L2.ints_dw a.1 _ ha
        subst e
        have q : ((Codec.inLen 0 16000 a.1 && a.1.all (Codec.inInt 0 18446744073709551615)) && true) = true := hwi
        rw [Bool.and_eq_true, Bool.and_eq_true] at q
        exact ⟨_, a.1, rfl, hs, (Codec.inNat_iff.mp q.1.1).2, hask, Mp.in_int q.1.2, fun H' p hp => .lst (L2.SqL.of hp) (L2.dw_ints _)⟩
